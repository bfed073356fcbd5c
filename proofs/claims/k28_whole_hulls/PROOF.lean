import PyProof.Rows.All
import Wide.All
import OpenK.AllK
import Wide.FinOn
import Lean
import PyProof.EqAt
import PyProof.EqKinds
import PyProof.TupleCall
import PyProof.NsDelKeeps
import PyProof.RulesAs
import PyProof.SumAny
import PyProof.WalksMore
import PyProof.WalkInts
import PyProof.EnumMake
import KE.KMinKey
import PyProof.Rows.Range3
import PyProof.Rows.SortStr
import PyProof.StrLawsIn
import KE.KIntText
import PyProof.ListRange
import KE.KLam
import PyProof.SetRoads
import PyProof.Rows.SetObj
import PyProof.CollectWalk
import PyProof.DictItems
import PyProof.Rows.TupDisplay
import KE.KDictSum
import PyProof.Rows.SetFrom
import PyProof.DictCompW
import PyProof.ListStr
import PyProof.ZipIter
import PyProof.DelItemList
import OpenK.ZGo
import PySem.Challenge.RW_quadwords_k28_whole_hulls
set_option genSizeOf false
set_option compiler.extract_closed false
set_option maxRecDepth 100000
set_option maxHeartbeats 4000000
abbrev zU:=@Nat.le_refl
abbrev zV:=@List.length_map
abbrev zW:=@List.length_append
abbrev zX:=@List.mem_cons_self
abbrev zY:=@List.mem_singleton
abbrev zZ:=@List.mem_append
abbrev Aa:=@Nat.ne_of_lt
abbrev Ab:=@List.mem_append_right
abbrev Ac:=@List.getElem?_eq_getElem
abbrev Ad:=@List.mem_cons
abbrev Ae:=@List.mem_map
abbrev Af:=@List.mem_cons_of_mem
abbrev Ag:=@Nat.zero_le
abbrev Ah:=@Nat.lt_of_lt_of_le
abbrev Ai:=@List.getElem?_eq_some_iff
abbrev Aj:=@List.size_toArray
abbrev Ak:=@Nat.le_trans
abbrev Am:=@List.getD_eq_getElem?_getD
abbrev An:=@List.map_append
abbrev Ao:=@List.getElem?_map
abbrev Ap:=@List.take_of_length_le
abbrev Aq:=@List.mem_of_getElem?
abbrev Au:=@List.take_add_one
abbrev Av:=@List.map_cons
abbrev Aw:=@List.mem_append_left
abbrev Ax:=@Bool.false_ne_true
abbrev Ay:=@List.getElem_mem
abbrev Az:=@List.length_take
abbrev AA:=@List.append_nil
abbrev AB:=@Nat.succ_le_succ
abbrev AC:=@Nat.lt_irrefl
abbrev AD:=@Array.length_toList
abbrev AE:=@List.length_cons
abbrev AF:=@List.append_assoc
abbrev AG:=@Bool.and_eq_true
abbrev AH:=@Nat.le_succ
abbrev AI:=@Nat.lt_succ_self
abbrev AJ:=@List.map_map
abbrev AK:=@List.mem_filter
abbrev AL:=@List.mem_filterMap
abbrev AM:=@Int.toNat_natCast
abbrev AN:=@List.not_mem_nil
abbrev AO:=@Array.getElem?_toList
abbrev AQ:=@List.filter_cons
abbrev AR:=@List.length_eq_zero_iff
abbrev AS:=@Nat.le_of_lt
abbrev AU:=@List.drop_left
abbrev AV:=@List.lookup_cons
abbrev AW:=@Nat.lt_succ_of_lt
abbrev AX:=@List.length_filter_le
abbrev AY:=@List.mem_range
abbrev AZ:=@List.all_eq_true
abbrev Ba:=@List.find?_cons
abbrev Bb:=@List.length_pos_iff
abbrev Bc:=@List.filter_append
abbrev Be:=@Option.map_eq_some_iff
abbrev Bf:=@List.getElem?_toArray
abbrev Bg:=@List.take_length
abbrev Bh:=@List.getElem?_append_right
abbrev Bi:=@Nat.lt_of_le_of_lt
abbrev Bj:=@Nat.le_succ_of_le
abbrev Bk:=@List.append_cancel_left
abbrev Bl:=@Int.emod_nonneg
abbrev Bm:=@Int.emod_lt_of_pos
abbrev Bn:=@Bool.eq_iff_iff
abbrev Bo:=@List.nodup_cons
abbrev Bp:=@List.any_cons
abbrev Bq:=@Array.getElem?_eq_getElem
abbrev Br:=@List.length_range
abbrev Bs:=@Bool.eq_false_iff
abbrev Bt:=@Nat.not_lt_zero
abbrev Bu:=@Nat.lt_trans
abbrev Bv:=@List.foldl_cons
abbrev Bw:=@List.flatten_cons
abbrev Bx:=@Bool.false_eq_true
abbrev By:=@Array.getElem?_eq_some_iff
abbrev Bz:=@List.getElem_inj
abbrev BA:=@List.getElem?_set_self
abbrev BB:=@List.getElem?_set_ne
abbrev BC:=@Nat.ne_of_gt
abbrev BD:=@Option.isSome_iff_exists
abbrev BE:=@List.getElem?_append_left
abbrev BF:=@List.length_replicate
abbrev BG:=@List.map_congr_left
abbrev BH:=@Nat.zero_lt_succ
abbrev BI:=@Array.perm_iff_toList_perm
abbrev BJ:=@List.getElem?_eq_none
abbrev BK:=@List.pairwise_map
abbrev BL:=@List.append_eq_nil_iff
abbrev BM:=@Nat.min_eq_left
abbrev BN:=@List.sum_cons
abbrev BO:=@List.map_nil
abbrev BP:=@List.forIn_cons
abbrev BQ:=@List.drop_zero
abbrev BR:=@Int.le_refl
abbrev BS:=@List.drop_eq_nil_of_le
abbrev BU:=@List.drop_eq_getElem_cons
abbrev BV:=@Nat.le_of_eq
abbrev BW:=@Nat.zero_add
abbrev BX:=@List.map_id
abbrev BY:=@List.any_eq_true
abbrev BZ:=@List.nodup_append
abbrev Ca:=@List.mem_flatMap
abbrev Cb:=@List.flatten_append
abbrev Cc:=@List.length_zipIdx
abbrev Cd:=@List.take_left
abbrev Ce:=@Nat.le_add_right
abbrev Cf:=@List.mem_erase_of_ne
abbrev Cg:=@List.perm_ext_iff_of_nodup
abbrev Ci:=@List.filterMap_cons
abbrev Cj:=@List.any_eq_false
abbrev Ck:=@Array.mem_toList_iff
abbrev Cm:=@List.of_mem_zip
abbrev Co:=@List.getElem?_replicate
abbrev Cp:=@List.length_drop
abbrev Cq:=@Nat.le_of_not_lt
abbrev Cr:=@List.nil_append
abbrev Cs:=@Option.isSome_map
abbrev Ct:=@Nat.min_le_left
abbrev Cv:=@List.mem_iff_getElem
abbrev Cw:=@List.filterMap_append
abbrev Cy:=@Array.toArray_toList
abbrev Cz:=@Array.getElem?_eq_none
abbrev CA:=@List.ext_getElem?
abbrev CB:=@List.le_antisymm
abbrev CD:=@List.getElem?_of_mem
abbrev CF:=@Array.all_toList
abbrev CG:=@List.mem_of_mem_drop
abbrev CH:=@Nat.min_eq_right
abbrev CI:=@Nat.mul_le_mul
abbrev CJ:=@List.min?_eq_none_iff
abbrev CK:=@List.length_erase_of_mem
abbrev CL:=@List.length_pos_of_mem
abbrev CM:=@Int.natCast_nonneg
abbrev CN:=@Int.fdiv_eq_ediv_of_nonneg
abbrev CO:=@Option.isNone_iff_eq_none
abbrev CP:=@List.length_eraseIdx_of_lt
abbrev CQ:=@List.pairwise_iff_getElem
abbrev CT:=@List.mem_zipIdx_iff_getElem?
abbrev CU:=@PySem.wpAny_bind
abbrev CV:=@PySem.wpAny_pure
abbrev CW:=@PyProof.Rows.wpS_bind
abbrev CY:=@PyProof.Rows.wpS_pure
abbrev CZ:=@if_neg
abbrev Dc:=@if_pos
abbrev Dd:=@decide_eq_true
abbrev De:=@decide_eq_false
abbrev Df:=@PySem.wpAny_mono
abbrev Dg:=@PySem.wpAny_holding
abbrev Dh:=@of_decide_eq_true
abbrev Di:=@PySem.Heap.lt_size
abbrev Dj:=@Option.some.inj
abbrev Dk:=@PySem.F.plainAttrs_list
abbrev Dl:=@PySem.F.plainAttrs_str
abbrev Dm:=@PySem.F.type_list_append
abbrev Do:=@PySem.F.slot_list_append
abbrev Dp:=@PyProof.Rows.KeyOrd.kle_refl
abbrev Dq:=@PyProof.Rows.KeyOrd.kle_of_klt
abbrev Dt:=@PySem.W.mg_of
abbrev Du:=@PySem.W.mg_none_of
abbrev Dv:=@PySem.wpAny_setState_of
abbrev Dw:=@Ne.symm
abbrev Dx:=@PySem.Heap.get?_push_of_some
abbrev Dy:=@PySem.Heap.get?_push_size
abbrev Dz:=@Bool.eq_iff_iff
abbrev DA:=@Nat.succ_le_succ
abbrev DB:=@Int.natCast_nonneg
abbrev DC:=@PySem.wpAny_attempt
abbrev DE:=@PySem.wpAny_call_entry
abbrev DG:=@PySem.Heap.size_push
abbrev DH:=@PySem.wpAny_rule
abbrev DI:=@beq_iff_eq
local macro_rules | `(tactic| walk_at "i") => `(tactic| first | exact .inl rfl | exact .inr rfl | assumption)
local macro_rules | `(tactic| walk_at "o") => `(tactic| first | assumption | exact Ak (by assumption) (by decide) | lia)
set_option Elab.async false
set_option maxHeartbeats 0
set_option linter.all false
set_option hygiene false in
local macro_rules|`((wq X))=>`(wpAny (model X.prog X.w) X.A)
local macro_rules|`(($f:ident $x*))=>do
 let n:=f.getId
 let some (g,t):=(([(`DJ,"_____xxx"),(`DR,"_q"),(`DT,"_q"),(`DW,"_q"),(`Ea,"_q"),(`Ey,"__q"),(`aA,"________xxx"),(`aB,"________xxxx"),(`aC,"____x"),(`aG,"___xx"),(`aJ,"____x"),(`aK,"_______xxxF"),(`aM,"______xRxxx"),(`aN,"_____x"),(`aO,"______________cxxfffy"),(`aP,"_________xRxxxddrr"),(`aS,"____x"),(`aV,"__________xxxx"),(`aY,"_____________xxdhRxdrr"),(`ag,"_____xx"),(`ah,"____q"),(`ai,"___x"),(`aj,"__x_nROw"),(`av,"_____xxr"),(`ay,"__x____nRxxrw"),(`bH,"___xy"),(`bI,"_________xRxxxddrr"),(`bQ,"____q"),(`bU,"___q"),(`bV,"________vcxxxy"),(`bY,"______________x___cxxfffnRORyw"),(`bb,"____________xxdhRxxd"),(`bh,"______Rxxr"),(`bo,"___x"),(`br,"________xxx"),(`bu,"____xr"),(`cM,"________xxxx"),(`cR,"_______xxxrrr"),(`cU,"_________xxx"),(`cy,"__x__Rxxd"),(`dP,"______vxx"),(`dQ,"____x"),(`dq,"______cxrr"),(`du,"______xxrrr"),(`eG,"__x__RxxRdd"),(`fA,"_____xxx"),(`fM,"____q"),(`fU,"____x"),(`fY,"_______xx"),(`fu,"_______Rxxrr"),(`gm,"____x"),(`gu,"____________xxxxxxrrrrr"),(`hX,"________xxx"),(`iB,"___x"),(`iO,"____________KRxxxxxxrrrrr"),(`jB,"________xxrr"),(`jE,"_________xxxxR"),(`jK,"______xxxF"),(`jL,"_______xx"),(`jc,"_______xx"),(`jm,"________Rxxr"),(`jz,"______xxF"),(`kB,"_______xx"),(`kC,"_____x"),(`kS,"_____xxRxxr"),(`kr,"___x"),(`mD,"____________xRxxxxrrddrr"),(`mH,"____x"),(`mh,"_____xRRxd"),(`nU,"______xx"),(`nV,"___________xxxxxxxRRRxRRRxcxfRxxxrrrr"),(`om,"________xxxF"),(`pJ,"___xG"),(`pR,"____________________x___cxxffffffnRORxyw"),(`qz,"__xx___________cnRRdRRxRr"),(`rJ,"_____xxRxr"),(`sq,"______xx")]:List (Lean.Name×String)).map fun a=>(a.1,a))++[(`ad,`aj,"__x_xROI"),(`al,`aj,"__x_nRow")]|>.lookup n|Lean.Macro.throwUnsupported
 let mut i:=0
 let mut r:Array (Lean.TSyntax `term):=#[]
 for c in t.toList do
  if c=='q' then i:=i+1
  else if c=='x'||c=='f' then
   let some y:=x[i]?|Lean.Macro.throwUnsupported
   r:=r.push (<-if c=='x' then pure y else `(fun _ _ _ _=>$y))
   i:=i+1
  else r:=r.push (<-match c with|'G'=>`(fun _=>rfl)|'r'=>`(by rfl)|'w'=>`(by walk_at "i")|'R'=>`(rfl)|'O'=>`(Or.inl rfl)|'d'=>`(by decide)|'F'=>`(fun _ _=>rfl)|'I'=>`(.inr rfl)|'o'=>`(Or.inr rfl)|'y'=>`(by intro _;rfl)|'v'=>pure (Lean.mkIdent `PassesOwn.never)|'n'=>pure (Lean.mkIdent `nd)|'c'=>pure (Lean.mkIdent `hc)|'h'=>pure (Lean.mkIdent `hr)|'K'=>pure (Lean.mkIdent `K)|_=>`(_))
 if i !=x.size then Lean.Macro.throwUnsupported
 `(@$(if g==n then f else Lean.mkIdent g) $r*)
namespace L2
open PySem PySem.Spec PyProof.Rows
abbrev Key:=Sum Int Str
def FX:Key->Value->Bool
 |.inl k,v=>Value.isInt k v
 |.inr x,v=>Value.isStrOf x v
def keyH (w:World):Key->Int
 |.inl k=>hashInt k
 |.inr x=>hashStr w x
theorem DU:∀{k:Key}{v:Value},FX k v=true->(∃i t,k=Sum.inl i/\v=Value.int i t)\/(∃x t,k=Sum.inr x/\v=Value.str x t)
 |.inl i,v,h=>by
  obtain⟨t,e⟩:=Value.isInt_shape (k:=i) (v:=v) h;exact .inl ⟨i,t,rfl,e⟩
 |.inr x,v,h=>by
  obtain⟨t,e⟩:=Value.isStrOf_shape (x:=x) (v:=v) h;exact .inr ⟨x,t,rfl,e⟩
theorem mX(i:Int)(t:Tok):FX (.inl i) (.int i t)=true:=by simp[FX,Value.isInt]
theorem lN(x:Str)(t:Tok):FX (.inr x) (.str x t)=true:=by simp[FX,Value.isStrOf]
theorem ue(a b:Int):decide ((Sum.inl a:Key)=Sum.inl b)=(a==b):=by
 by_cases e:a=b
 ·subst e;simp
 ·have h:¬(Sum.inl a:Key)=Sum.inl b:=fun q=>e (Sum.inl.inj q);rw[De h];exact(beq_eq_false_iff_ne.mpr e).symm
theorem uZ(a b:Str):decide ((Sum.inr a:Key)=Sum.inr b)=decide (a=b):=by
 by_cases e:a=b
 ·subst e;simp
 ·have h:¬(Sum.inr a:Key)=Sum.inr b:=fun q=>e (Sum.inr.inj q);rw[De h,De e]
theorem uE(a:Int)(b:Str):decide ((Sum.inl a:Key)=Sum.inr b)=false:=De (fun q=>nomatch q)
theorem tm(a:Str)(b:Int):decide ((Sum.inr a:Key)=Sum.inl b)=false:=De (fun q=>nomatch q)
def aL (prog:Program)(w:World):PySem.KeyKind prog w Key where
 is:=FX
 hash:=keyH w
 inj:=fun v a b ha hb=>by
  rcases DU ha with ⟨i,t,rfl,rfl⟩|⟨x,t,rfl,rfl⟩
  ·rcases DU hb with ⟨j,u,rfl,e⟩|⟨y,u,rfl,e⟩
   ·injection e with e1 _;rw[e1]
   ·exact nomatch e
  ·rcases DU hb with ⟨j,u,rfl,e⟩|⟨y,u,rfl,e⟩
   ·exact nomatch e
   ·injection e with e1 _;rw[e1]
 byValue:=fun k v h=>by
  rcases DU h with ⟨i,t,rfl,rfl⟩|⟨x,t,rfl,rfl⟩<;>rfl
 pyHash:=fun hv h=>by
  rcases DU hv with ⟨i,t,rfl,rfl⟩|⟨x,t,rfl,rfl⟩
  ·exact wpAny_pyHash_int h
  ·exact wpAny_pyHash_str h
 eqBool:=fun hu hv h=>by
  rcases DU hu with ⟨i,t,rfl,rfl⟩|⟨x,t,rfl,rfl⟩
  ·rcases DU hv with ⟨j,u,rfl,rfl⟩|⟨y,u,rfl,rfl⟩
   ·rw[ue] at h;exact wpAny_eqBool_int h
   ·rw[uE] at h;exact SeqAt.EqAt.int_str i t y u _ _ _ _ h
  ·rcases DU hv with ⟨j,u,rfl,rfl⟩|⟨y,u,rfl,rfl⟩
   ·rw[tm] at h;exact SeqAt.EqAt.str_int x t j u _ _ _ _ h
   ·rw[uZ] at h;exact wpAny_eqBool_str h
 «strs»:=fun k x t v h=>by
  rcases DU h with ⟨i,u,rfl,e⟩|⟨y,u,rfl,e⟩
  ·exact nomatch e
  ·injection e with e1 _;subst e1;cases v<;>rfl
theorem jr(prog:Program)(w:World)(i:Int)(t:Tok):(aL prog w).is (.inl i) (.int i t)=true:=mX i t
theorem bX(prog:Program)(w:World)(x:Str)(t:Tok):(aL prog w).is (.inr x) (.str x t)=true:=lN x t
inductive V where
 |non|bl (b:Bool)|int(i:Int)|str(x:Str)|byt(b:Array UInt8)|flt(b:UInt64)|ref(a:Addr)|ty(n:String)
 deriving DecidableEq
def RelV:V->Value->Prop
 |.non,u=>u=Value.none
 |.bl b,u=>u=Value.bool b
 |.int i,u=>∃t,u=Value.int i t
 |.str x,u=>∃t,u=Value.str x t
 |.byt b,u=>∃t,u=Value.bytes b t
 |.flt b,u=>∃t,u=Value.float b t
 |.ref a,u=>u=Value.ref a
 |.ty n,u=>u=Value.type n
abbrev Vals:List V->List Value->Prop:=Paired RelV
theorem Vals.length{xs:List V}{us:List Value}(r:Vals xs us):xs.length=us.length:=Paired.length r
theorem Vals.get:∀{xs:List V}{us:List Value}{i:Nat}{x:V},Vals xs us->xs[i]?=some x->∃u,us[i]?=some u/\RelV x u
 |_,_,_,_,.nil,e=>by simp at e
 |_,_,0,_,.cons r _,e=>by simp at e;subst e;exact⟨_,rfl,r⟩
 |_,_,i+1,x,.cons _ t,e=>by
  obtain⟨u,h1,h2⟩:=Vals.get (i:=i) (x:=x) t (by simpa using e);exact⟨u,by simpa using h1,h2⟩
theorem Vals.set{x:V}{u:Value}(r:RelV x u):∀{xs:List V}{us:List Value}(i:Nat),Vals xs us->Vals (xs.set i x) (us.set i u)
 |_,_,_,.nil=>.nil
 |_,_,0,.cons _ t=>.cons r t
 |_,_,i+1,.cons q t=>.cons q (Vals.set r i t)
theorem Vals.append:∀{xs ys:List V}{us ws:List Value},Vals xs us->Vals ys ws->Vals (xs++ys) (us++ws)
 |_,_,_,_,.nil,s=>s
 |_,_,_,_,.cons r t,s=>.cons r (Vals.append t s)
theorem Vals.take:∀{xs:List V}{us:List Value}(n:Nat),Vals xs us->Vals (xs.take n) (us.take n)
 |_,_,0,_=>.nil
 |_,_,_+1,.nil=>.nil
 |_,_,n+1,.cons r t=>.cons r (Vals.take n t)
theorem Vals.drop:∀{xs:List V}{us:List Value}(n:Nat),Vals xs us->Vals (xs.drop n) (us.drop n)
 |_,_,0,r=>r
 |_,_,_+1,.nil=>.nil
 |_,_,n+1,.cons _ t=>Vals.drop n t
def GD:Option V->Option Value->Prop
 |some v,some u=>RelV v u
 |none,none=>True
 |_,_=>False
def KV {κ:Type}:List (κ×V)->List (κ×Value)->Prop:=Paired fun(p:κ×V) (q:κ×Value)=>p.1=q.1/\RelV p.2 q.2
def kV:Key->V
 |.inl i=>.int i
 |.inr x=>.str x
inductive HO where
 |lst (xs:List V)
 |tup (xs:List V)
 |dK (kvs:List (Key×V))|dT(kvs:List (List Key×V))
 |set (S:Int->Bool)(n:Nat)
 |ins (C dx:Addr)(fs:List (Str×V))
 |own (x:Addr)
 |xd (fs:List (Str×V))
 |met (f x:Addr)
 |rng (lo hi:Int)
 |frz (o:Obj)(u:HO)
 |tbl (ps:Array Value)
 |ext (φ:Heap->Prop)
abbrev Hp:=Addr->Option HO
def upd (H:Hp)(a:Addr)(o:HO):Hp:=fun b=>if b=a then some o else H b
theorem ae{H:Hp}{a:Addr}{o:HO}:upd H a o a=some o:=by unfold upd;rw[Dc rfl]
theorem ar{H:Hp}{a b:Addr}{o:HO}(h:b≠a):upd H a o b=H b:=by unfold upd;rw[CZ h]
theorem og{H:Hp}{a:Addr}{o u:HO}:upd (upd H a o) a u=upd H a u:=by
 funext b;unfold upd;split<;>rfl
theorem dg{H:Hp}{a b:Addr}{o u:HO}(h:H a=some o)(h':H b=some u)(d:o≠u):a≠b:=by
 intro e;subst e;rw[h] at h';exact d (Dj h')
theorem az{H:Hp}{a b:Addr}{o:HO}(h:H a=some o)(h':H b=none):a≠b:=by
 intro e;subst e;rw[h] at h';cases h'
section
variable (P:Program)(w:World)
def Eb(H:Hp)(h:Heap)(a:Addr):HO->Prop
 |.lst xs=>xs.length<=sizeLine/\∃(its:List Value)(n:Nat),Vals xs its/\h.get? a=some {cls:=.type "list",data:=.seq its.toArray n}
 |.tup xs=>xs.length<=sizeLine/\∃its:List Value,Vals xs its/\IsTup h a its.toArray
 |.dK kvs=>kvs.length<=sizeLine/\(a==sysModules)=false/\∃vs,KV kvs vs/\h.DictOf (aL P w) a vs
 |.dT kvs=>kvs.length<=sizeLine/\(a==sysModules)=false/\∃xs:List (List Key×Addr×Value),
   Paired (fun(p:List Key×V) (q:List Key×Addr×Value)=>p.1=q.1/\H q.2.1=some (.tup (p.1.map kV))/\RelV p.2 q.2.2) kvs xs /\
   ∃o es ep,h.get? a=some o/\o.ExactDict/\o.data=.dict es ep/\es.toList=xs.map (entryOfKey (tupleKind (aL P w)))/\(xs.map (·.1)).Nodup
 |.set S n=>h.SetOf (intKind P w) a S n
 |.ins C dx fs=>H dx=some (.own a)/\fs.length<=1000/\dx≠a/\h.get? a=some (W.instObj C dx) /\
   ∃mA,h.Ns1 dx mA/\(∀f,GD (fs.lookup f) (mA f))/\PySem.Within mA (fs.map (·.1))
 |.own _=>∃o,h.get? a=some o
 |.xd fs=>∃mA,h.Ns1 a mA/\∀f,GD (fs.lookup f) (mA f)
 |.rng lo hi=>∃t u v,h.get? a=some {cls:=.type "range",data:=.fields #[.int lo t,.int hi u,.int 1 v]}
 |.frz o u=>h.get? a=some o/\Eb H h a u
 |.tbl ps=>h.get? a=some {cls:=.none,data:=.fields ps}
 |.met f x=>h.get? a=some (W.methodObj (.ref f) (.ref x))
 |.ext φ=>φ h/\(∃o,h.get? a=some o)/\∀h1 h2:Heap,φ h1->(∀o,h1.get? a=some o->h2.get? a=some o)->φ h2
def HOk (H:Hp)(h:Heap):Prop:=∀a o,H a=some o->Eb P w H h a o
end
section
variable {P:Program}{w:World}{H H':Hp}{h h':Heap}{a:Addr}{o:HO}
theorem Eb.lt(x:Eb P w H h a o):a<h.objs.size:=by
 cases o with
 |lst xs=>obtain⟨_,_,_,_,e⟩:=x;exact Di e
 |tup xs=>obtain⟨_,_,_,p⟩:=x;exact p.lt
 |dK kvs=>obtain⟨_,_,_,_,o,_,_,e,_⟩:=x;exact Di e
 |dT kvs=>obtain⟨_,_,_,_,o,_,_,e,_⟩:=x;exact Di e
 |set S n=>obtain⟨o,_,_,_,e,_⟩:=x;exact Di e
 |ins C dx fs=>obtain⟨_,_,_,e,_⟩:=x;exact Di e
 |own y=>obtain⟨_,e⟩:=x;exact Di e
 |xd fs=>obtain⟨_,⟨_,_,_,e,_⟩,_⟩:=x;exact Di e
 |rng lo hi=>obtain⟨_,_,_,e⟩:=x;exact Di e
 |frz ob u=>obtain⟨e,_⟩:=x;exact Di e
 |tbl ps=>exact Di (show h.get? a=some _ from x)
 |met f y=>exact Di (show h.get? a=some _ from x)
 |ext φ=>obtain⟨_,⟨_,e⟩,_⟩:=x;exact Di e
theorem Paired.EF{α β:Type}{F G:α->β->Prop}:∀{l₁:List α}{l₂:List β},Paired F l₁ l₂->(∀a b,F a b->G a b)->Paired G l₁ l₂
 |_,_,.nil,_=>.nil
 |_,_,.cons r t,f=>.cons (f _ _ r) (Paired.EF t f)
theorem Eb.GB(x:Eb P w H h a o)(k:∀b u,(b=a\/H b=some (.own a))->h.get? b=some u->h'.get? b=some u)
  (ho:∀b,H b=some (.own a)->H' b=some (.own a))(ht:∀b xs,H b=some (.tup xs)->H' b=some (.tup xs)):Eb P w H' h' a o:=by
 induction o with
 |lst xs=>obtain⟨z,its,n,r,e⟩:=x;exact⟨z,its,n,r,k _ _ (.inl rfl) e⟩
 |tup xs=>obtain⟨z,its,r,ob,e,c⟩:=x;exact⟨z,its,r,ob,k _ _ (.inl rfl) e,c⟩
 |dK kvs=>obtain⟨z,y,vs,r,ob,es,ep,e,c⟩:=x;exact⟨z,y,vs,r,ob,es,ep,k _ _ (.inl rfl) e,c⟩
 |dT kvs=>
  obtain⟨z,y,xs,r,ob,es,ep,e,c⟩:=x;exact⟨z,y,xs,Paired.EF r fun p q z=>⟨z.1,ht _ _ z.2.1,z.2.2⟩,ob,es,ep,k _ _ (.inl rfl) e,c⟩
 |set S n=>obtain⟨ob,es,ep,t,e,c⟩:=x;exact⟨ob,es,ep,t,k _ _ (.inl rfl) e,c⟩
 |ins C dx fs=>
  obtain⟨d,z,ne,e,mA,⟨od,es,ep,e2,c⟩,r⟩:=x;exact⟨ho _ d,z,ne,k _ _ (.inl rfl) e,mA,⟨od,es,ep,k _ _ (.inr d) e2,c⟩,r⟩
 |own y=>obtain⟨ob,e⟩:=x;exact⟨ob,k _ _ (.inl rfl) e⟩
 |xd fs=>obtain⟨mA,⟨od,es,ep,e,c⟩,r⟩:=x;exact⟨mA,⟨od,es,ep,k _ _ (.inl rfl) e,c⟩,r⟩
 |rng lo hi=>obtain⟨t,u,v,e⟩:=x;exact⟨t,u,v,k _ _ (.inl rfl) e⟩
 |frz ob u ih=>obtain⟨e,q⟩:=x;exact⟨k _ _ (.inl rfl) e,ih q⟩
 |tbl ps=>
  have e:h.get? a=some {cls:=.none,data:=.fields ps}:=x;show h'.get? a=some {cls:=.none,data:=.fields ps};exact k a _ (.inl rfl) e
 |met f y=>
  have e:h.get? a=some (W.methodObj (.ref f) (.ref y)):=x;show h'.get? a=some (W.methodObj (.ref f) (.ref y));exact k a _ (.inl rfl) e
 |ext φ=>obtain⟨p,⟨o,e⟩,st⟩:=x;exact⟨st _ _ p fun o q=>k _ _ (.inl rfl) q,⟨o,k _ _ (.inl rfl) e⟩,st⟩
theorem HOk.lt(x:HOk P w H h)(e:H a=some o):a<h.objs.size:=(x a o e).lt
theorem HOk.fresh(x:HOk P w H h)(e:h.objs.size<=a):H a=none:=by
 cases q:H a with
 |none=>rfl
 |some u=>exact absurd (Ah (x.lt q) e) (AC _)
theorem HOk.kept(x:HOk P w H h)(k:∀b u,h.get? b=some u->h'.get? b=some u):HOk P w H h':=fun a o e=>
 (x a o e).GB (fun b u _ q=>k b u q) (fun _ q=>q) fun _ _ q=>q
theorem HOk.laid(x:HOk P w H h)(k:∀b u,h.get? b=some u->h'.get? b=some u)(hp:h.objs.size<=a)(new:Eb P w (upd H a o) h' a o):HOk P w (upd H a o) h':=fun b u e=>by
 have hn:=x.fresh hp;by_cases hb:b=a
 ·subst hb;rw[ae] at e;cases e;exact new
 ·rw[ar hb] at e;exact(x b u e).GB (fun c v _ q=>k c v q) (fun c q=>by rw[ar (az q hn)];exact q) fun c xs q=>by rw[ar (az q hn)];exact q
end
def Rd (H:Hp)(a:Addr)(u:HO):Prop:=H a=some u\/∃o,H a=some (.frz o u)
theorem Rd.ok{P:Program}{w:World}{H:Hp}{h:Heap}{a:Addr}{u:HO}(r:Rd H a u)(x:HOk P w H h):Eb P w H h a u:=by
 rcases r with r|⟨o,r⟩
 ·exact x a u r
 ·obtain⟨_,q⟩:=x a _ r;exact q
def Mut:Option HO->Prop
 |some (.lst _)=>True
 |some (.dK _)=>True
 |some (.dT _)=>True
 |some (.set _ _)=>True
 |some (.ins _ _ _)=>True
 |some (.ext _)=>True
 |_=>False
section
variable {P:Program}{w:World}{H:Hp}{h h':Heap}{x e:Addr}{o':HO}
theorem HOk.write(ok:HOk P w H h)(mu:Mut (H x))(he:e=x\/H e=some (.own x))(k:∀b u,b≠e->h.get? b=some u->h'.get? b=some u)(heo:∃u,h'.get? e=some u)
  (new:Eb P w (upd H x o') h' x o'):HOk P w (upd H x o') h':=fun b u q=>by
 have nown:∀c y,H c=some (.own y)->c≠x:=fun c y r z=>by subst z;rw[r] at mu;exact mu
 have ntup:∀c xs,H c=some (.tup xs)->c≠x:=fun c xs r z=>by subst z;rw[r] at mu;exact mu
 by_cases hb:b=x
 ·subst hb;rw[ae] at q;cases q;exact new
 ·rw[ar hb] at q;by_cases hbe:b=e
  ·have q':H b=some (.own x):=by
    rcases he with z|z
    ·exact absurd (hbe.trans z) hb
    ·rw[hbe];exact z
   rw[q] at q';cases q';obtain⟨v,hv⟩:=heo;exact⟨v,by rw[hbe];exact hv⟩
  ·refine(ok b u q).GB (fun c v hc r=>k c v ?_ r) (fun c r=>by rw[ar (nown c b r)];exact r) fun c xs r=>by rw[ar (ntup c xs r)];exact r
   rcases hc with rfl|hc
   ·exact hbe
   ·rintro rfl;rcases he with z|z
    ·exact nown c b hc z
    ·rw[hc] at z;cases z;exact hb rfl
end
structure Un(fs ex:List Addr)(H H':Hp)(h h':Heap):Prop where
 keep:∀b o,h.get? b=some o->H b=none->b∉fs->b∉ex->h'.get? b=some o
 slot:∀b o,h.get? b=some o->H b=none->b∈fs->b∉ex->∃sl,h'.get? b=some {o with slots:=sl}
 free:∀b o,h.get? b=some o->H b=none->b∉ex->H' b=none
 there:∀b o,h.get? b=some o->b∉ex->∃o',h'.get? b=some o'
 Ha:∀b xs,H b=some (.tup xs)->H' b=some (.tup xs)
 GG:∀b o u,H b=some (.frz o u)->H' b=some (.frz o u)
 GH:∀b ps,H b=some (.tbl ps)->∃more,H' b=some (.tbl (ps++more))
section
variable {fs fs' ex ex':List Addr}{H H1 H2:Hp}{h h1 h2 h':Heap}{a x e:Addr}{o:HO}
theorem Un.any(u:Un fs ex H H1 h h1){b:Addr}{ob:Obj}(q:h.get? b=some ob)(n:H b=none)(hx:b∉ex):∃sl,h1.get? b=some {ob with slots:=sl}:=by
 by_cases hb:b∈fs
 ·exact u.slot b ob q n hb hx
 ·exact⟨ob.slots,u.keep b ob q n hb hx⟩
theorem Un.kept(k:∀b u,h.get? b=some u->h'.get? b=some u):Un fs ex H H h h':=
 ⟨fun b ob q _ _ _=>k b ob q,fun b ob q _ _ _=>⟨ob.slots,k b ob q⟩,fun _ _ _ n _=>n,fun b ob q _=>⟨ob,k b ob q⟩,fun _ _ q=>q,fun _ _ _ q=>q,fun _ ps q=>⟨#[],by rw[q];simp⟩⟩
theorem Un.refl:Un fs ex H H h h:=Un.kept fun _ _ q=>q
theorem Un.laid(k:∀b u,h.get? b=some u->h'.get? b=some u)(hp:h.objs.size<=a)(hn:H a=none):Un fs ex H (upd H a o) h h' where
 keep:=fun b u q _ _ _=>k b u q
 slot:=fun b u q _ _ _=>⟨u.slots,k b u q⟩
 free:=fun b u q n _=>by rw[ar (Aa (Ah (Di q) hp))];exact n
 there:=fun b u q _=>⟨u,k b u q⟩
 Ha:=fun b xs q=>by rw[ar (az q hn)];exact q
 GG:=fun b u xs q=>by rw[ar (az q hn)];exact q
 GH:=fun b ps q=>⟨#[],by rw[ar (az q hn),q];simp⟩
theorem Un.write(mu:Mut (H x))(he:e=x\/H e=some (.own x))(k:∀b u,b≠e->h.get? b=some u->h'.get? b=some u)(heo:∃u,h'.get? e=some u):Un fs ex H (upd H x o) h h':=by
 have hx:∀b,H b=none->b≠x:=fun b n z=>by subst z;rw[n] at mu;exact mu
 have hb:∀b,H b=none->b≠e:=fun b n z=>by
  subst z;rcases he with r|r
  ·exact hx b n r
  ·rw[n] at r;cases r
 have hm:∀b u,H b=some u->¬Mut (some u)->b≠x:=fun b u q nm z=>by subst z;rw[q] at mu;exact nm mu
 refine⟨fun b u q n _ _=>k b u (hb b n) q,fun b u q n _ _=>⟨u.slots,k b u (hb b n) q⟩,fun b u q n _=>by rw[ar (hx b n)]; exact n,fun b u q _=>?_,
  fun b xs q=>by rw[ar (hm b _ q fun z=>z)];exact q,fun b u xs q=>by rw[ar (hm b _ q fun z=>z)];exact q,fun b ps q=>⟨#[],by rw[ar (hm b _ q fun z=>z),q];simp⟩⟩
 by_cases hbe:b=e
 ·subst hbe;exact heo
 ·exact⟨u,k b u hbe q⟩
end
def trk (h:Heap)(H:Hp):List Addr:=(List.range h.objs.size).filter fun a=>(H a).isSome
def ou (h:Heap)(H:Hp):Heap:=W.hideAll h (trk h H)
theorem mx(h:Heap)(H:Hp):(ou h H).objs.size=h.objs.size:=W.hideAll_size _ _
theorem oE{h:Heap}{H:Hp}{b:Addr}{o:Obj}(e:h.get? b=some o)(n:H b=none):(ou h H).get? b=some o:=
 W.hideAll_get _ e fun hm=>by
  have q:(H b).isSome=true:=(AK.mp hm).2;rw[n] at q;simp at q
theorem rj{h:Heap}{H:Hp}{b:Addr}{o:Obj}(e:(ou h H).get? b=some o):h.get? b=some o/\H b=none:=by
 have e':h.get? b=some o:=W.of_hideAll (trk h H) e;refine⟨e',?_⟩;cases q:H b with
 |none=>rfl
 |some x=>
  have hm:b∈trk h H:=AK.mpr ⟨AY.mpr (Di e'),by simp[q]⟩;have z:(ou h H).get? b=none:=W.hideAll_none (trk h H) hm;rw[z] at e;cases e
def qH (g h:Heap)(L:Addr):List (Addr×Obj):=(List.range h.objs.size).filterMap fun a=>if a=L\/(g.get? a).isSome=true then none else (h.get? a).map fun o=>(a,o)
def rest (g h:Heap)(L d:Addr):List (Addr×Obj):=(qH g h L).filter fun p=>decide (p.1≠d)
structure Mod(K:W.Frag)(mg:Str->Option Value)(base:Heap):Prop where
 kin:K.In base
 glob:base.Ns mainGlobals mg
 blt:∃mb,base.Ns builtinsNs mb/\∀x:Str,x≠"__name__"->mb x=bootBuiltins x
 nolimit:base.NoLimit
structure Cx where
 prog:Program
 w:World
 K:W.Frag
 mg:Str->Option Value
 base:Heap
 A:Around
 N:List Str
 s₀:Shared
 H₀:Hp
 env:Env
 outer:List Env
 stack:List Env
 ex:List Addr
 fn:Str->Bool
 calm:Bool
 pn:List (Addr×Obj)
 xe:Value->Shared->Prop
def frs (l:List Env):List Addr:=l.filterMap (·.frame)
abbrev Cx.fs(X:Cx):List Addr:=frs X.outer
def Vis (sc:Scope)(x:Str):Prop:=sc.names.lookup x=some .local\/sc.names.lookup x=some .cell\/sc.names.lookup x=some .free
def Loc (sc:Scope)(x:Str):Prop:=sc.names.lookup x=some .local\/sc.names.lookup x=some .cell
def Look (env:Env)(h:Heap)(m:Str->Option Value)(x:Str)(u:Value):Prop:=
 (env.kindOf x=some .local/\m x=some u)\/((env.kindOf x=some .cell\/env.kindOf x=some .free)/\∃c,env.cells.lookup x=some c/\h.IsCell c (some u))
structure Cx.Ok(X:Cx):Prop where
 mod:Mod X.K X.mg X.base
 kind:X.env.scope.kind=.function
 glob:X.env.globals=mainGlobals
 blt:X.env.builtins=builtinsNs
 above:X.s₀.heap.objs.size<=X.env.locals
 inj:∀x y c,X.env.cells.lookup x=some c->X.env.cells.lookup y=some c->x=y
 has:∀x,(X.env.kindOf x=some .cell\/X.env.kindOf x=some .free)->∃c,X.env.cells.lookup x=some c
 cab:∀x c,X.fn x=true->X.env.cells.lookup x=some c->X.s₀.heap.objs.size<=c
 hd:X.calm=true->X.A.handled=none
 frames:X.A.frames=some X.stack
 stk:X.stack=X.outer\/(X.stack=X.env::X.outer/\X.env.frame=some X.env.locals)
 exf:∀b∈X.ex,b≠X.env.locals/\∀x c,X.env.cells.lookup x=some c->c≠b
 bs:∀b o,X.base.get? b=some o->X.s₀.heap.get? b=some o/\X.H₀ b=none
 bsz:X.base.objs.size<=X.s₀.heap.objs.size
 IQ:∀b o,X.base.get? b=some o->b∉X.ex
 Iv:∀b∈X.ex,b∉X.fs
 Gi:X.s₀.heap.FunFrames X.base X.outer
 frf:∀b∈X.fs,X.H₀ b=none
structure Inv(X:Cx)(pins:List (Addr×Obj))(σ:List (Option V))(H:Hp)(s:Shared):Prop where
 ok:X.Ok
 os:s.os=X.s₀.os
 bare:AllBare s.gens
 base:Un X.fs X.ex X.H₀ H X.s₀.heap s.heap
 loc:∃m,s.heap.Ns X.env.locals m/\∀(i:Nat)(x:Str)(v:V),X.N[i]?=some x->σ[i]?=some (some v)->Vis X.env.scope x->∃u,RelV v u/\Look X.env s.heap m x u
 cell:∀x c,X.env.cells.lookup x=some c->∃v,s.heap.IsCell c v
 free:H X.env.locals=none
 Es:∀x c,X.env.cells.lookup x=some c->H c=none
 pin:∀p∈X.pn++pins,s.heap.get? p.1=some p.2/\H p.1=none/\p.1≠X.env.locals/\p.1∉X.fs/\∀v,p.2.data≠.cell v
 hok:HOk X.prog X.w H s.heap
 len:σ.length=X.N.length
section
variable {X:Cx}{pins:List (Addr×Obj)}{σ:List (Option V)}{H H':Hp}{s:Shared}{h':Heap}
theorem Cx.Ok.nofr(ok:X.Ok){b:Addr}{o:Obj}(e:X.base.get? b=some o):b∉X.fs:=fun hb=>by
 have:=(ok.Gi.mem hb).1;rw[e] at this;cases this
theorem Inv.bs(I:Inv X pins σ H s):∀b o,X.base.get? b=some o->s.heap.get? b=some o/\H b=none:=fun b o e=>
 ⟨I.base.keep b o (I.ok.bs b o e).1 (I.ok.bs b o e).2 (I.ok.nofr e) (I.ok.IQ b o e),I.base.free b o (I.ok.bs b o e).1 (I.ok.bs b o e).2 (I.ok.IQ b o e)⟩
theorem Inv.bk(I:Inv X pins σ H s):∀b o,X.base.get? b=some o->s.heap.get? b=some o:=fun b o e=>(I.bs b o e).1
theorem Inv.mod(I:Inv X pins σ H s):Mod X.K X.mg X.base:=I.ok.mod
theorem Inv.kIn(I:Inv X pins σ H s):X.K.In s.heap:=I.ok.mod.kin.keeps I.bk
theorem Inv.nolimit(I:Inv X pins σ H s):s.heap.NoLimit:=I.ok.mod.nolimit.keeps I.bk
theorem Inv.lt(I:Inv X pins σ H s):X.env.locals<s.heap.objs.size:=let ⟨_,hn,_⟩:=I.loc;hn.lt
theorem Inv.sz(I:Inv X pins σ H s):X.s₀.heap.objs.size<=s.heap.objs.size:=Ak I.ok.above (AS I.lt)
theorem Inv.nofs(I:Inv X pins σ H s){a:Addr}(h:s.heap.objs.size<=a):a∉X.fs:=fun hb=>by
 obtain⟨_,o,ho,_⟩:=I.ok.Gi.mem hb;exact absurd (Ah (Di ho) (Ak I.sz h)) (AC _)
theorem Inv.cne(I:Inv X pins σ H s):∀x c,X.env.cells.lookup x=some c->c≠X.env.locals:=fun x c e z=>by
 obtain⟨v,o,ho,hd⟩:=I.cell x c e;obtain⟨m,⟨o',es,ep,ho',hd',_⟩,_⟩:=I.loc;rw[z,ho'] at ho;cases ho;rw[hd'] at hd;cases hd
theorem Inv.Gi(I:Inv X pins σ H s):s.heap.FunFrames X.base X.outer:=by
 have all:∀(l:List Env),(∀b∈frs l,b∈X.fs)->X.s₀.heap.FunFrames X.base l->s.heap.FunFrames X.base l:=by
  intro l;induction l with
  |nil=>intro _ _;trivial
  |cons env r ih=>
   intro hs hl;obtain⟨hk,⟨L,o,hf,hn,ho,hd⟩,hr⟩:=hl;have hL:L∈X.fs:=hs L (by unfold frs;rw[Ci,hf];exact zX);obtain⟨sl,e⟩:=I.base.slot L o ho (I.ok.frf L hL) hL fun z=>I.ok.Iv L z hL;exact⟨hk,⟨L,_,hf,hn,e,hd⟩,ih (fun b hb=>hs b (by unfold frs;rw[Ci,hf];exact Af _ hb)) hr⟩
 exact all X.outer (fun _ hb=>hb) I.ok.Gi
theorem Inv.stack(I:Inv X pins σ H s):s.heap.FunFrames X.base X.stack:=by
 rcases I.ok.stk with e|⟨e,hf⟩
 ·rw[e];exact I.Gi
 ·rw[e];obtain⟨m,hn,_⟩:=I.loc;refine .cons (by rw[I.ok.kind];decide) hf hn ?_ I.Gi;exact Heap.get?_none_of_le (Ak I.ok.bsz I.ok.above)
theorem Inv.FD(I:Inv X pins σ H s):∀b∈frs X.stack,b∈X.env.locals::X.fs:=fun b hb=>by
 rcases I.ok.stk with e|⟨e,hf⟩
 ·rw[e] at hb;exact Af _ hb
 ·rw[e] at hb;unfold frs at hb;rw[Ci,hf] at hb;exact hb
theorem Inv.Fj(I:Inv X pins σ H s):∀b∈frs X.stack,H b=none:=fun b hb=>by
 rcases Ad.mp (I.FD b hb) with e|hb
 ·rw[e];exact I.free
 ·obtain⟨_,o,ho,_⟩:=I.ok.Gi.mem hb;exact I.base.free b o ho (I.ok.frf b hb) fun z=>I.ok.Iv b z hb
theorem Inv.step{g':Array GenState}{t':Nat}{d':Drawn}{ch:List Addr}(I:Inv X pins σ H s)
  (hch:∀b∈ch,(b∈X.ex\/X.s₀.heap.get? b=none)/\b≠X.env.locals/\(∀x c,X.env.cells.lookup x=some c->c≠b)/\∀p∈X.pn++pins,p.1≠b)
  (keep:∀b o,b≠X.env.locals->b∉X.fs->b∉ch->s.heap.get? b=some o->H b=none->h'.get? b=some o)
  (slot:∀b o,b≠X.env.locals->b∈X.fs->b∉ch->s.heap.get? b=some o->H b=none->∃sl,h'.get? b=some {o with slots:=sl})(free:∀b o,b∉ch->s.heap.get? b=some o->H b=none->H' b=none)
  (there:∀b o,b∉ch->s.heap.get? b=some o->∃o',h'.get? b=some o')
  (Ha:∀b xs,H b=some (.tup xs)->H' b=some (.tup xs))(GG:∀b o u,H b=some (.frz o u)->H' b=some (.frz o u))(GH:∀b ps,H b=some (.tbl ps)->∃more,H' b=some (.tbl (ps++more)))
  (ns:∀m,s.heap.Ns X.env.locals m->h'.Ns X.env.locals m)(hok:HOk X.prog X.w H' h')(hg:AllBare g') :
  Inv X pins σ H' {s with heap:=h',gens:=g',drawn:=d',toks:=t'}:=by
 have neL:∀b o,X.s₀.heap.get? b=some o->b≠X.env.locals:=fun b o e=>Aa (Ah (Di e) I.ok.above);have neC:∀b o,X.s₀.heap.get? b=some o->b∉X.ex->b∉ch:=fun b o e hx hb=>by
  rcases (hch b hb).1 with z|z
  ·exact hx z
  ·rw[z] at e;cases e
 have cellK:∀x c,X.env.cells.lookup x=some c->∀v,s.heap.IsCell c v->h'.IsCell c v:=fun x c e v hq1=>by
  obtain⟨o,ho,hd⟩:=hq1;have nch:c∉ch:=fun z=>(hch c z).2.2.1 x c e rfl;by_cases hc:c∈X.fs
  ·obtain⟨sl,q⟩:=slot c o (I.cne x c e) hc nch ho (I.Es x c e);exact⟨_,q,hd⟩
  ·exact⟨o,keep c o (I.cne x c e) hc nch ho (I.Es x c e),hd⟩
 refine⟨I.ok,I.os,hg,⟨fun b o e n hb hx=>?_,fun b o e n hb hx=>?_,fun b o e n hx=>?_,fun b o e hx=>?_,fun b xs e=>Ha b xs (I.base.Ha b xs e),fun b o xs e=>GG b o xs (I.base.GG b o xs e),fun b ps e=>?_⟩,?_,fun x c e=>?_,?_,fun x c e=>?_,fun p hp=>?_,hok,I.len⟩
 ·exact keep b o (neL b o e) hb (neC b o e hx) (I.base.keep b o e n hb hx) (I.base.free b o e n hx)
 ·obtain⟨sl,e1⟩:=I.base.slot b o e n hb hx;obtain⟨sl',e2⟩:=slot b _ (neL b o e) hb (neC b o e hx) e1 (I.base.free b o e n hx);exact⟨sl',e2⟩
 ·obtain⟨o',e1⟩:=I.base.there b o e hx;exact free b o' (neC b o e hx) e1 (I.base.free b o e n hx)
 ·obtain⟨o',e1⟩:=I.base.there b o e hx;exact there b o' (neC b o e hx) e1
 ·obtain⟨m1,e1⟩:=I.base.GH b ps e;obtain⟨m2,e2⟩:=GH b _ e1;exact⟨m1++m2,by rw[e2,Array.append_assoc]⟩
 ·obtain⟨m,hn,hl⟩:=I.loc;refine⟨m,ns m hn,fun i x v e1 e2 e3=>?_⟩;obtain⟨u,r,l⟩:=hl i x v e1 e2 e3;refine⟨u,r,?_⟩;rcases l with l|⟨k,c,e,z⟩
  ·exact .inl l
  ·exact .inr ⟨k,c,e,cellK x c e _ z⟩
 ·obtain⟨v,z⟩:=I.cell x c e;exact⟨v,cellK x c e v z⟩
 ·obtain⟨m,⟨o,_,_,ho,_⟩,_⟩:=I.loc;exact free _ o (fun z=>(hch _ z).2.1 rfl) ho I.free
 ·obtain⟨v,o,ho,hd⟩:=I.cell x c e;exact free c o (fun z=>(hch c z).2.2.1 x c e rfl) ho (I.Es x c e)
 ·obtain⟨e,n,ne,nf,d⟩:=I.pin p hp;have nch:p.1∉ch:=fun z=>(hch p.1 z).2.2.2 p hp rfl;exact⟨keep p.1 p.2 ne nf nch e n,free p.1 p.2 nch e n,ne,nf,d⟩
theorem Inv.un{t':Nat}(I:Inv X pins σ H s)(u:Un X.fs [] H H' s.heap h')(hok:HOk X.prog X.w H' h'):Inv X pins σ H' {s with heap:=h',toks:=t'}:=by
 obtain⟨m,⟨o,es,ep,ho,r⟩,_⟩:=id I.loc;obtain⟨sl,hL⟩:=u.any ho I.free (by simp)
 exact I.step (g':=s.gens) (d':=s.drawn) (ch:=[]) (fun _ z=>nomatch z) (fun b o _ hb _ e n=>u.keep b o e n hb (by simp)) (fun b o _ hb _ e n=>u.slot b o e n hb (by simp)) (fun b o _ e n=>u.free b o e n (by simp)) (fun b o _ e=>u.there b o e (by simp)) u.Ha u.GG u.GH (fun m' hm=>by
  obtain⟨o',es',ep',ho',r'⟩:=hm;rw[ho] at ho';cases ho'
  exact⟨_,es',ep',hL,r'⟩) hok I.bare
theorem Inv.call{g':Array GenState}{t':Nat}{d':Drawn}{ch:List Addr}(I:Inv X pins σ H s)(u:Un (frs X.stack) ch H H' s.heap h')(hok:HOk X.prog X.w H' h')(hg:AllBare g')
  (hch:∀b∈ch,(b∈X.ex\/X.s₀.heap.get? b=none)/\b≠X.env.locals/\(∀x c,X.env.cells.lookup x=some c->c≠b)/\∀p∈X.pn++pins,p.1≠b) :
  Inv X pins σ H' {s with heap:=h',gens:=g',drawn:=d',toks:=t'}:=by
 obtain⟨m,⟨o,es,ep,ho,r⟩,_⟩:=id I.loc;obtain⟨sl,hL⟩:=u.any ho I.free fun z=>(hch _ z).2.1 rfl
 exact I.step (ch:=ch) hch (fun b o hL hb hc e n=>u.keep b o e n (fun z=>(Ad.mp (I.FD b z)).elim hL hb) hc) (fun b o _ _ hc e n=>u.any e n hc) (fun b o hc e n=>u.free b o e n hc) (fun b o hc e=>u.there b o e hc) u.Ha u.GG u.GH (fun m' hm=>by
  obtain⟨o',es',ep',ho',r'⟩:=hm;rw[ho] at ho';cases ho'
  exact⟨_,es',ep',hL,r'⟩) hok hg
theorem Inv.turned{t':Nat}{it:Addr}(I:Inv X pins σ H s)(k:∀b o,b≠it->s.heap.get? b=some o->h'.get? b=some o)(hn:H it=none)(hL:it≠X.env.locals)
  (h1:it∈X.ex\/X.s₀.heap.get? it=none)(h2:∀x c,X.env.cells.lookup x=some c->c≠it)(h3:∀p∈X.pn++pins,p.1≠it):Inv X pins σ H {s with heap:=h',toks:=t'}:=by
 have nit:∀b u,H b=some u->b≠it:=fun b u e z=>by rw[z,hn] at e;cases e
 refine I.step (g':=s.gens) (d':=s.drawn) (ch:=[it]) (fun b hb=>?_) (fun b o _ _ hc e _=>k b o (fun z=>hc (by simp[z])) e) (fun b o _ _ hc e _=>⟨o.slots,k b o (fun z=>hc (by simp[z])) e⟩) (fun _ _ _ _ n=>n)
  (fun b o hc e=>⟨o,k b o (fun z=>hc (by simp[z])) e⟩) (fun _ _ e=>e) (fun _ _ _ e=>e) (fun b ps e=>⟨#[],by rw[e];simp⟩) (fun m hm=>?_) (fun b u e=>?_) I.bare
 ·have e:b=it:=by simpa using hb
  subst e;exact⟨h1,hL,h2,h3⟩
 ·obtain⟨o,es,ep,ho,r⟩:=hm;exact⟨o,es,ep,k _ o (Dw hL) ho,r⟩
 ·refine(I.hok b u e).GB (fun c v hc q=>k c v ?_ q) (fun _ q=>q) fun _ _ q=>q;rcases hc with z|z
  ·rw[z];exact nit b u e
  ·exact nit c _ z
theorem Inv.tok(I:Inv X pins σ H s)(t:Nat):Inv X pins σ H {s with toks:=t}:=I.un (h':=s.heap) (t':=t) Un.refl I.hok
theorem Inv.kept{t':Nat}(I:Inv X pins σ H s)(k:∀b u,s.heap.get? b=some u->h'.get? b=some u):Inv X pins σ H {s with heap:=h',toks:=t'}:=I.un (Un.kept k) (I.hok.kept k)
theorem Inv.laid{a:Addr}{o:HO}{t':Nat}(I:Inv X pins σ H s)(k:∀b u,s.heap.get? b=some u->h'.get? b=some u)(hp:s.heap.objs.size<=a)(new:Eb X.prog X.w (upd H a o) h' a o) :
  Inv X pins σ (upd H a o) {s with heap:=h',toks:=t'}:=I.un (Un.laid k hp (I.hok.fresh hp)) (I.hok.laid k hp new)
theorem Inv.write{x e:Addr}{o:HO}{t':Nat}(I:Inv X pins σ H s)(mu:Mut (H x))(he:e=x\/H e=some (.own x))(k:∀b u,b≠e->s.heap.get? b=some u->h'.get? b=some u)(heo:∃u,h'.get? e=some u)
  (new:Eb X.prog X.w (upd H x o) h' x o):Inv X pins σ (upd H x o) {s with heap:=h',toks:=t'}:=I.un (Un.write mu he k heo) (I.hok.write mu he k heo new)
theorem Inv.EL{pins':List (Addr×Obj)}(I:Inv X pins σ H s)(h:∀p∈pins',s.heap.get? p.1=some p.2/\H p.1=none/\p.1≠X.env.locals/\p.1∉X.fs/\∀v,p.2.data≠.cell v):Inv X pins' σ H s:=
 ⟨I.ok,I.os,I.bare,I.base,I.loc,I.cell,I.free,I.Es,fun p hp=>(zZ.mp hp).elim (fun z=>I.pin p (Aw _ z)) (h p),I.hok,I.len⟩
theorem ko{N:List Str}(hN:N.Nodup){i j:Nat}{x:Str}(a:N[i]?=some x)(b:N[j]?=some x):i=j:=by
 obtain⟨h1,e1⟩:=Ai.mp a;obtain⟨h2,e2⟩:=Ai.mp b;exact(Bz hN).mp (e1.trans e2.symm)
theorem fq{M:Model}{A:Around}{E:Value->Shared->Prop}{i:Nat}{x:Str}{v:V}{u:Value}{Q:Unit->Shared->Prop}(I:Inv X pins σ H s)(hN:X.N.Nodup)(hi:X.N[i]?=some x)(hx:Loc X.env.scope x)(r:RelV v u)
  (h:∀s',Inv X pins (σ.set i (some v)) H s'->(∃a,Heap.SameBut a s.heap s'.heap/\(a=X.env.locals\/X.env.cells.lookup x=some a))->Q () s')(hf:X.fn x=true\/X.env.scope.names.lookup x=some .local:=by first|exact .inl rfl|exact .inr rfl|assumption):wpAny M A (storeName X.env x u) Q E s:=by
 obtain⟨m,hn,hl⟩:=id I.loc;have hcls:(X.env.scope.kind==.class||(X.env.scope.kind==.module&&X.env.locals != X.env.globals))=false:=by rw[I.ok.kind];rfl
 have hiσ:i<σ.length:=by rw[I.len];exact(Ai.mp hi).1
 have cne:=I.cne;have tracked:∀{a:Addr}{h':Heap},(∃o,s.heap.get? a=some o/\H a=none)->Heap.SameBut a s.heap h'->HOk X.prog X.w H h':=fun {a h'} ha hs b ob e=>by
  obtain⟨_,_,hfree⟩:=ha;refine(I.hok b ob e).GB (fun c w' hc q=>(hs.2 c ?_).trans q) (fun _ q=>q) fun _ _ q=>q;rintro rfl;rcases hc with rfl|hc
  ·rw[hfree] at e;cases e
  ·rw[hfree] at hc;cases hc
 rcases hx with hk|hk
 ·refine wpAny_storeName_local hk hn (fun h' hn' hs=>?_) hcls;obtain⟨oL,_,_,hoL,_⟩:=id hn;refine h _ ⟨I.ok,I.os,I.bare,⟨fun b o e n hb hx=>?_,fun b o e n hb hx=>?_,I.base.free,fun b o e hx=>?_,I.base.Ha,I.base.GG,I.base.GH⟩,⟨_,hn',fun j y v' e1 e2 e3=>?_⟩,fun y c e=>?_,I.free,I.Es,fun p hp=>?_,tracked ⟨oL,hoL,I.free⟩ hs,by simpa using I.len⟩ ⟨_,hs,.inl rfl⟩
  ·exact(hs.2 b (Aa (Ah (Di e) I.ok.above))).trans (I.base.keep b o e n hb hx)
  ·obtain⟨sl,e1⟩:=I.base.slot b o e n hb hx;exact⟨sl,(hs.2 b (Aa (Ah (Di e) I.ok.above))).trans e1⟩
  ·obtain⟨o',e1⟩:=I.base.there b o e hx;exact⟨o',(hs.2 b (Aa (Ah (Di e) I.ok.above))).trans e1⟩
  ·by_cases hj:j=i
   ·subst hj;rw[hi] at e1;cases e1;rw[BA hiσ] at e2;cases e2;exact⟨u,r,.inl ⟨hk,by simp⟩⟩
   ·rw[BB (Dw hj)] at e2;obtain⟨u',r',q⟩:=hl j y v' e1 e2 e3;refine⟨u',r',?_⟩;rcases q with ⟨k,e⟩|⟨k,c,e,z⟩
    ·refine .inl ⟨k,?_⟩;have:y≠x:=fun e=>hj (ko hN e1 (e▸hi));simp[this,e]
    ·exact .inr ⟨k,c,e,z.sameBut hs (cne y c e)⟩
  ·obtain⟨w',z⟩:=I.cell y c e;exact⟨w',z.sameBut hs (cne y c e)⟩
  ·obtain⟨e,n,ne,nf,d⟩:=I.pin p hp;exact⟨(hs.2 p.1 ne).trans e,n,ne,nf,d⟩
 ·have hfn:X.fn x=true:=by
   rcases hf with z|z
   ·exact z
   ·rw[z] at hk;cases hk
  obtain⟨c,hc⟩:=I.ok.has x (.inl hk);obtain⟨w',z⟩:=I.cell x c hc;refine wpAny_storeName_cell I.ok.kind hk hc z (fun h' hc' hs=>?_);obtain⟨oc,hoc,hocd⟩:=id z;refine h {s with heap:=h'} ⟨I.ok,I.os,I.bare,⟨fun b o e n hb hx=>?_,fun b o e n hb hx=>?_,I.base.free,fun b o e hx=>?_,I.base.Ha,I.base.GG,I.base.GH⟩,⟨m,hn.sameBut hs (Dw (cne x c hc)),fun j y v' e1 e2 e3=>?_⟩,fun y c' e=>?_,I.free,I.Es,fun p hp=>?_,tracked ⟨oc,hoc,I.Es x c hc⟩ hs,by simpa using I.len⟩ ⟨c,hs,.inr hc⟩
  ·exact(hs.2 b (Aa (Ah (Di e) (I.ok.cab x c hfn hc)))).trans (I.base.keep b o e n hb hx)
  ·obtain⟨sl,e1⟩:=I.base.slot b o e n hb hx;exact⟨sl,(hs.2 b (Aa (Ah (Di e) (I.ok.cab x c hfn hc)))).trans e1⟩
  ·obtain⟨o',e1⟩:=I.base.there b o e hx;exact⟨o',(hs.2 b (Aa (Ah (Di e) (I.ok.cab x c hfn hc)))).trans e1⟩
  ·by_cases hj:j=i
   ·subst hj;rw[hi] at e1;cases e1;rw[BA hiσ] at e2;cases e2;exact⟨u,r,.inr ⟨.inl hk,c,hc,hc'⟩⟩
   ·rw[BB (Dw hj)] at e2;obtain⟨u',r',q⟩:=hl j y v' e1 e2 e3;refine⟨u',r',?_⟩;rcases q with q|⟨k,c',e,z'⟩
    ·exact .inl q
    ·refine .inr ⟨k,c',e,z'.sameBut hs ?_⟩;rintro rfl;exact hj (ko hN e1 (I.ok.inj _ _ _ e hc▸hi))
  ·by_cases hcc:c'=c
   ·subst hcc;exact⟨_,hc'⟩
   ·obtain⟨w2,z2⟩:=I.cell y c' e;exact⟨w2,z2.sameBut hs hcc⟩
  ·obtain⟨e,n,ne,nf,d⟩:=I.pin p hp;refine⟨(hs.2 p.1 ?_).trans e,n,ne,nf,d⟩;intro q;rw[q,hoc] at e;have q':oc=p.2:=Dj e;exact d w' (by rw[<- q'];exact hocd)
theorem fj{M:Model}{A:Around}{E:Value->Shared->Prop}{i:Nat}{x:Str}{v:V}{u:Value}{Q:Unit->Shared->Prop}(I:Inv X pins σ H s)(hN:X.N.Nodup)(hi:X.N[i]?=some x)(hx:Loc X.env.scope x)(r:RelV v u)
  (h:∀s',Inv X pins (σ.set i (some v)) H s'->Q () s')(hf:X.fn x=true\/X.env.scope.names.lookup x=some .local:=by first|exact .inl rfl|exact .inr rfl|assumption):wpAny M A (storeName X.env x u) Q E s:=
 fq I hN hi hx r (fun s' I' _=>h s' I') hf
theorem Inv.JP{s':Shared}{ch:List Addr}(I:Inv X pins σ H s)(ho:s'.os=s.os)(u:Un (frs X.stack) ch H H' s.heap s'.heap)(hok:HOk X.prog X.w H' s'.heap)(hg:AllBare s'.gens)
  (hch:∀b∈ch,(b∈X.ex\/X.s₀.heap.get? b=none)/\b≠X.env.locals/\(∀x c,X.env.cells.lookup x=some c->c≠b)/\∀p∈X.pn++pins,p.1≠b):Inv X pins σ H' s':=by
 obtain⟨h',g',d',t',o'⟩:=s';have e:o'=s.os:=ho;subst e;exact I.call (g':=g') (t':=t') (d':=d') u hok hg hch
end
abbrev XK:=Value->Option Addr->Hp->Prop
abbrev St:=List (Option V)
abbrev VK:=V->Hp->Prop
abbrev TE:=St->Hp->VK->Prop
abbrev TT:=St->Hp->(Bool->Hp->Prop)->Prop
abbrev TA:=St->Hp->(List V->Hp->Prop)->Prop
structure Ends where
 nx:St->Hp->Prop
 rt:VK
 bk:St->Hp->Prop:=fun _ _=>False
 ct:St->Hp->Prop:=fun _ _=>False
abbrev TS:=Ends->St->Hp->Prop
def EP (X:Cx)(pins:List (Addr×Obj))(σ:St)(Q:VK)(u:Value)(s':Shared):Prop:=∃v H',Inv X pins σ H' s'/\RelV v u/\Q v H'
def TP (X:Cx)(pins:List (Addr×Obj))(σ:St)(Q:Bool->Hp->Prop)(b:Bool)(s':Shared):Prop:=∃H',Inv X pins σ H' s'/\Q b H'
def AP (X:Cx)(pins:List (Addr×Obj))(σ:St)(Q:List V->Hp->Prop)(us:List Value)(s':Shared):Prop:=∃vs H',Inv X pins σ H' s'/\Vals vs us/\Q vs H'
def SP (X:Cx)(pins:List (Addr×Obj))(D:Ends)(f:Flow)(s':Shared):Prop:=
 match f with
 |.next=>∃σ' H',Inv X pins σ' H' s'/\D.nx σ' H'
 |.brk=>∃σ' H',Inv X pins σ' H' s'/\D.bk σ' H'
 |.cont=>∃σ' H',Inv X pins σ' H' s'/\D.ct σ' H'
 |.ret u=>∃v σ' H',Inv X pins σ' H' s'/\RelV v u/\D.rt v H'
def PE (X:Cx)(e:Expr)(t:TE):Prop:=
 ∀(pins:List (Addr×Obj))(s:Shared)(σ:St)(H:Hp)(Q:VK),Inv X pins σ H s->t σ H Q->(wq X) (eval e X.env) (EP X pins σ Q) X.xe s
def PT (X:Cx)(e:Expr)(t:TT):Prop:=
 ∀(pins:List (Addr×Obj))(s:Shared)(σ:St)(H:Hp)(Q:Bool->Hp->Prop),Inv X pins σ H s->t σ H Q->(wq X) (isTrue e X.env (eval e X.env)) (TP X pins σ Q) X.xe s
def PW (X:Cx)(e:Expr)(t:TT):Prop:=
 ∀(whole:Sem Value)(pins:List (Addr×Obj))(s:Shared)(σ:St)(H:Hp)(Q:Bool->Hp->Prop),Inv X pins σ H s->t σ H Q->(wq X) (isTrue e X.env whole) (TP X pins σ Q) X.xe s
theorem PW.pt{X:Cx}{e:Expr}{t:TT}(h:PW X e t):PT X e t:=h _
def PA (X:Cx)(es:List Expr)(t:TA):Prop:=
 ∀(pos:Pos)(pins:List (Addr×Obj))(s:Shared)(σ:St)(H:Hp)(Q:List V->Hp->Prop),Inv X pins σ H s->t σ H Q->(wq X) (spliced (backTo pos (starEach es X.env))) (AP X pins σ Q) X.xe s
def PS (X:Cx)(st:Stmt)(t:TS):Prop:=
 ∀(pins:List (Addr×Obj))(s:Shared)(σ:St)(H:Hp)(D:Ends),Inv X pins σ H s->t D σ H->(wq X) (exec st X.env) (SP X pins D) X.xe s
def PSs (X:Cx)(st:List Stmt)(t:TS):Prop:=
 ∀(pins:List (Addr×Obj))(s:Shared)(σ:St)(H:Hp)(D:Ends),Inv X pins σ H s->t D σ H->(wq X) (execs st X.env) (SP X pins D) X.xe s
theorem thn{α:Type}{t:Sem α}{Q Q':α->Shared->Prop}{M:Model}{A:Around}{E:Value->Shared->Prop}{s:Shared}(h:wpAny M A t Q E s)(hQ:∀a s,Q a s->Q' a s):wpAny M A t Q' E s:=Df h hQ fun _ _ x=>x
section
variable {X:Cx}
def sH (i:Nat):TE:=fun σ H Q=>∃v,σ[i]?=some (some v)/\Q v H
def tC (v:V):TE:=fun _ H Q=>Q v H
theorem sP{i:Nat}{x:Str}{pos:Pos}(hN:X.N[i]?=some x)(hv:Vis X.env.scope x)(hd:(x==("__debug__":Str))=false:=by decide)(hcd:(x==("__classdict__":Str))=false:=by decide):PE X (.Name x pos) (sH i):=by
 intro pins s σ H Q I h;obtain⟨v,e,h⟩:=h;obtain⟨m,hn,hl⟩:=I.loc;obtain⟨u,r,l⟩:=hl i x v hN e hv;have fin:EP X pins σ Q u s:=⟨v,H,I,r,h⟩
 rcases l with ⟨hk,hm⟩|⟨hk,c,hc,hcell⟩
 ·exact wpAny_Name (wpAny_loadName_local I.ok.kind hk hn hm fin) hd
 ·rcases hk with hk|hk
  ·exact wpAny_Name (wpAny_loadName_cell I.ok.kind hk hc hcell fin) hd
  ·exact wpAny_Name (wpAny_loadName_free I.ok.kind hk hc hcell fin hcd) hd
theorem ah{i j pos}:PE X (.Constant (.int i) j pos) (tC (.int i)):=fun _ _ _ H _ I h=>wpAny_Constant_int ⟨.int i,H,I.tok _,⟨_,rfl⟩,h⟩
theorem fM{b j pos}:PE X (.Constant (.bool b) j pos) (tC (.bl b)):=fun _ _ _ H _ I h=>Constant_bool ⟨.bl b,H,I,rfl,h⟩
theorem bU{j pos}:PE X (.Constant .none j pos) (tC .non):=fun _ _ _ H _ I h=>Constant_none ⟨.non,H,I,rfl,h⟩
theorem bQ{x j pos}:PE X (.Constant (.str x) j pos) (tC (.str x)):=fun _ _ _ H _ I h=>Calls.Constant_str ⟨.str x,H,I.tok _,⟨_,rfl⟩,h⟩
def Gl (X:Cx)(x:Str):Prop:=X.env.kindOf x=some .globalImplicit
theorem mI{E:Value->Shared->Prop}{pins:List (Addr×Obj)}{s:Shared}{σ:St}{H:Hp}{x:Str}{u:Value}{pos:Pos}{Q:Value->Shared->Prop}(I:Inv X pins σ H s)(hg:Gl X x)(hm:X.mg x=some u)(h:Q u s)
  (hd:(x==("__debug__":Str))=false:=by decide):(wq X) (eval (.Name x pos) X.env) Q E s:=
 Calls.Name_function_global I.ok.kind hg (Calls.loadGlobal_global (by rw[I.ok.glob];exact I.mod.glob.keeps I.bk) hm h) hd
theorem dv{E:Value->Shared->Prop}{pins:List (Addr×Obj)}{s:Shared}{σ:St}{H:Hp}{x:Str}{u:Value}{pos:Pos}{Q:Value->Shared->Prop}(I:Inv X pins σ H s)(hg:Gl X x)(hm:X.mg x=none)(hv:bootBuiltins x=some u)(h:Q u s)
  (hn:x≠"__name__":=by decide)(hd:(x==("__debug__":Str))=false:=by decide):(wq X) (eval (.Name x pos) X.env) Q E s:=by
 obtain⟨mb,h1,h2⟩:=I.mod.blt;exact Calls.Name_function_global I.ok.kind hg (Calls.loadGlobal_builtin (by rw[I.ok.glob];exact I.mod.glob.keeps I.bk) hm (by rw[I.ok.blt];exact h1.keeps I.bk) ((h2 x hn).trans hv) h) hd
theorem cy{x:Str}{v:V}{u:Value}{pos:Pos}(hg:Gl X x)(hm:X.mg x=some u)(r:RelV v u)(hd:(x==("__debug__":Str))=false:=by decide):PE X (.Name x pos) (tC v):=
 fun _ _ _ H _ I h=>mI I hg hm ⟨v,H,I,r,h⟩ hd
theorem eG{x:Str}{v:V}{u:Value}{pos:Pos}(hg:Gl X x)(hm:X.mg x=none)(hv:bootBuiltins x=some u)(r:RelV v u)(hn:x≠"__name__":=by decide)(hd:(x==("__debug__":Str))=false:=by decide):PE X (.Name x pos) (tC v):=
 fun _ _ _ H _ I h=>dv I hg hm hv ⟨v,H,I,r,h⟩ hn hd
variable {a b:Expr}{ta tb:TE}{pos:Pos}
def PC (X:Cx)(op:CmpOp)(a b:Expr)(t:TE):Prop:=
 ∀(pins:List (Addr×Obj))(s:Shared)(σ:St)(H:Hp)(Q:VK),Inv X pins σ H s->t σ H Q ->
  (wq X) (eval a X.env) (fun v s₁=>(wq X) (eval b X.env) (fun u s₂=>(wq X) (compareOp op v u) (EP X pins σ Q) X.xe s₂) X.xe s₁) X.xe s
theorem dU(b:Expr){op:CmpOp}(h:op≠.In)(h2:op≠.NotIn):behindInMarks op b=false:=by
 have e1:(op==CmpOp.In)=false:=by cases op<;>first|rfl|exact absurd rfl h
 have e2:(op==CmpOp.NotIn)=false:=by cases op<;>first|rfl|exact absurd rfl h2
 cases b<;>simp[behindInMarks,e1,e2]
def tB (t:TE):TT:=fun σ H Q=>t σ H fun x H1=>∃c,x=.bl c/\Q c H1
theorem tR{op:CmpOp}{t:TE}(h:PC X op a b t)(h1:behindInMarks op b=false:=by first|exact dU _ (by decide) (by decide)|rfl):PE X (.Compare a [op] [b] pos) t:=fun pins s σ H Q I hw=>wpAny_Compare1 (h pins s σ H Q I hw) h1
theorem nU{op:CmpOp}{t:TE}(h:PC X op a b t)(h1:behindInMarks op b=false:=by first|exact dU _ (by decide) (by decide)|rfl):PT X (.Compare a [op] [b] pos) (tB t):=by
 intro pins s σ H Q I hw;refine wpAny_isTrue_Compare1 (thn (h pins s σ H _ I hw) fun v s1 h1=>thn h1 fun u s2 h2=>thn h2 fun c s3 hq2=>?_) h1;obtain⟨x,H1,I1,r1,q1⟩:=hq2;obtain⟨d,rfl,q⟩:=q1;cases r1;exact wpAny_truthy_bool ⟨H1,I1,q⟩
theorem bH{e:Expr}{t:TE}(h:PE X e t)(he:∀whole,isTrue e X.env whole=(do let v <- whole;standAt e.pos;holding [v] (truthy v)):=by intro _;rfl):PT X e (tB t):=by
 intro pins s σ H Q I hw;refine isTrue_plain (thn (h pins s σ H _ I hw) fun v s1 hq3=>?_) (he _);obtain⟨x,H1,I1,r1,q1⟩:=hq3;obtain⟨d,rfl,q⟩:=q1;cases r1;exact wpAny_truthy_bool ⟨H1,I1,q⟩
variable {tA tB':TT}{rest:List Expr}
def tAnd (t u:TT):TT:=fun σ H Q=>t σ H fun c H1=>if c=true then u σ H1 Q else Q false H1
def tOr (t u:TT):TT:=fun σ H Q=>t σ H fun c H1=>if c=true then Q true H1 else u σ H1 Q
def tNot (t:TT):TT:=fun σ H Q=>t σ H fun c H1=>Q (!c) H1
theorem gm(ha:PT X a tA):PW X (.BoolOp .And [a] pos) tA:=by
 intro wh pins s σ H Q I h;refine isTrue_and (thn (ha pins s σ H Q I h) fun c s1 e=>?_);cases c with
 |true=>exact isTrue_and_nil e
 |false=>exact e
theorem fU(ha:PT X a tA):PW X (.BoolOp .Or [a] pos) tA:=by
 intro wh pins s σ H Q I h;refine isTrue_or (thn (ha pins s σ H Q I h) fun c s1 e=>?_);cases c with
 |false=>exact isTrue_or_nil e
 |true=>exact e
theorem kB(ha:PT X a tA)(hb:PW X (.BoolOp .And (b::rest) pos) tB'):PW X (.BoolOp .And (a::b::rest) pos) (tAnd tA tB'):=by
 intro wh pins s σ H Q I h;refine isTrue_and (thn (ha pins s σ H _ I h) fun c s1 hq4=>?_);obtain⟨H1,I1,q1⟩:=hq4;cases c with
 |true=>exact hb wh pins s1 σ H1 Q I1 q1
 |false=>exact⟨H1,I1,q1⟩
theorem jc(ha:PT X a tA)(hb:PW X (.BoolOp .Or (b::rest) pos) tB'):PW X (.BoolOp .Or (a::b::rest) pos) (tOr tA tB'):=by
 intro wh pins s σ H Q I h;refine isTrue_or (thn (ha pins s σ H _ I h) fun c s1 hq5=>?_);obtain⟨H1,I1,q1⟩:=hq5;cases c with
 |true=>exact⟨H1,I1,q1⟩
 |false=>exact hb wh pins s1 σ H1 Q I1 q1
theorem dQ(ha:PT X a tA):PT X (.UnaryOp .Not a pos) (tNot tA):=by
 intro pins s σ H Q I h;exact isTrue_not (ha pins s σ H (fun c H1=>Q (!c) H1) I h)
def vX (ta tb:TE):TE:=fun σ H Q=>ta σ H fun x H1=>∃c,x=.bl c/\if c=true then tb σ H1 Q else Q (.bl false) H1
def wm (ta:TE):TE:=fun σ H Q=>ta σ H fun x H1=>∃c,x=.bl c/\Q (.bl (!c)) H1
theorem kC{op}{t:TE}(h:PE X a t):PE X (.BoolOp op [a] pos) t:=fun pins s σ H Q I hw=>BoolOp_one (h pins s σ H Q I hw)
theorem fY(ha:PE X a ta)(hb:PE X (.BoolOp .And (b::rest) pos) tb):PE X (.BoolOp .And (a::b::rest) pos) (vX ta tb):=by
 intro pins s σ H Q I h;refine BoolOp_and (thn (ha pins s σ H _ I h) fun v s1 hq6=>?_);obtain⟨x,H1,I1,r1,q1⟩:=hq6;obtain⟨c,rfl,q1⟩:=q1;cases r1;refine wpAny_truthy_bool ?_;cases c with
 |true=>exact hb pins s1 σ H1 Q I1 q1
 |false=>exact⟨.bl false,H1,I1,rfl,q1⟩
theorem uS(ha:PE X a ta):PE X (.UnaryOp .Not a pos) (wm ta):=by
 intro pins s σ H Q I h;refine UnaryOp_ (thn (ha pins s σ H _ I h) fun v s1 hq7=>?_);obtain⟨x,H1,I1,r1,q1⟩:=hq7;obtain⟨c,rfl,q1⟩:=q1;cases r1;exact not_of (wpAny_truthy_bool ⟨.bl (!c),H1,I1,rfl,q1⟩)
def tIf (t:TT)(ta tb:TE):TE:=fun σ H Q=>t σ H fun c H1=>if c=true then ta σ H1 Q else tb σ H1 Q
theorem hX{c:Expr}(hc:PT X c tA)(ha:PE X a ta)(hb:PE X b tb):PE X (.IfExp c a b pos) (tIf tA ta tb):=by
 intro pins s σ H Q I h;refine wpAny_IfExp (thn (hc pins s σ H _ I h) fun d s1 hq8=>?_);obtain⟨H1,I1,q1⟩:=hq8;cases d with
 |true=>exact ha pins s1 σ H1 Q I1 q1
 |false=>exact hb pins s1 σ H1 Q I1 q1
end
def SqL (K:W.Frag)(H:Hp)(a:Addr)(xs:List V):Prop:=
 Rd H a (.lst xs) \/
  ∃(o:Obj)(its:Array Value)(n:Nat),K.lookup a=some o/\o.cls=.type "list"/\o.dict=none/\o.data=.seq its n/\its.size<=sizeLine/\Vals xs its.toList
def SqT (K:W.Frag)(H:Hp)(a:Addr)(xs:List V):Prop:=
 Rd H a (.tup xs) \/
  ∃(o:Obj)(its:Array Value)(n:Nat),K.lookup a=some o/\o.cls=.type "tuple"/\o.data=.seq its n/\its.size<=sizeLine/\Vals xs its.toList
def absV:Value->Option V
 |.none=>some .non
 |.bool b=>some (.bl b)
 |.int i _=>some (.int i)
 |.str x _=>some (.str x)
 |.bytes b _=>some (.byt b)
 |.float b _=>some (.flt b)
 |.ref a=>some (.ref a)
 |.type n=>some (.ty n)
 |_=>none
theorem RelV.abs{x:V}{u:Value}(r:RelV x u):absV u=some x:=by
 cases x with
 |non=>cases r;rfl
 |bl _=>cases r;rfl
 |int _=>obtain⟨t,rfl⟩:=r;rfl
 |str _=>obtain⟨t,rfl⟩:=r;rfl
 |byt _=>obtain⟨t,rfl⟩:=r;rfl
 |flt _=>obtain⟨t,rfl⟩:=r;rfl
 |ref _=>cases r;rfl
 |ty _=>cases r;rfl
theorem RelV.inj{x y:V}{u:Value}(r:RelV x u)(q:RelV y u):x=y:=Dj (r.abs.symm.trans q.abs)
theorem Vals.inj:∀{xs ys:List V}{us:List Value},Vals xs us->Vals ys us->xs=ys
 |_,_,_,.nil,.nil=>rfl
 |_,_,_,.cons r t,.cons r' t'=>by rw[r.inj r',Vals.inj t t']
section
variable {X:Cx}{pins:List (Addr×Obj)}{σ:St}{H:Hp}{s:Shared}{a:Addr}{xs ys:List V}
theorem SqL.of{K:W.Frag}(h:H a=some (.lst xs)):SqL K H a xs:=.inl (.inl h)
theorem SqT.of{K:W.Frag}(h:H a=some (.tup xs)):SqT K H a xs:=.inl (.inl h)
theorem Inv.list(I:Inv X pins σ H s)(h:SqL X.K H a xs):∃its:List Value,Vals xs its/\PlainL s.heap a its.toArray/\xs.length<=sizeLine:=by
 rcases h with h|⟨o,its,n,hk,hc,hd,hs,hz,r⟩
 ·obtain⟨z,its,n,r,e⟩:=h.ok I.hok;exact⟨its,r,⟨_,n,e,rfl,rfl,rfl⟩,z⟩
 ·refine⟨its.toList,r,⟨o,n,I.kIn a o hk,hc,hd,by simpa using hs⟩,?_⟩;have e:=r.length;simp only[AD] at e;lia
theorem Inv.tuple(I:Inv X pins σ H s)(h:SqT X.K H a xs):∃its:List Value,Vals xs its/\IsTup s.heap a its.toArray/\xs.length<=sizeLine:=by
 rcases h with h|⟨o,its,n,hk,hc,hs,hz,r⟩
 ·obtain⟨z,its,r,p⟩:=h.ok I.hok;exact⟨its,r,p,z⟩
 ·refine⟨its.toList,r,⟨o,I.kIn a o hk,hc,n,by simpa using hs⟩,?_⟩;have e:=r.length;simp only[AD] at e;lia
theorem Inv.Gq(I:Inv X pins σ H s)(h:SqL X.K H a xs)(h':SqL X.K H a ys):xs=ys:=by
 obtain⟨its,r,⟨o,n,e,_,_,d⟩,_⟩:=I.list h;obtain⟨its',r',⟨o',n',e',_,_,d'⟩,_⟩:=I.list h';rw[e] at e';cases e';rw[d] at d';injection d' with d1 _;have:its=its':=by simpa using congrArg Array.toList d1
 subst this;exact r.inj r'
theorem Inv.Hn(I:Inv X pins σ H s)(h:SqT X.K H a xs)(h':SqT X.K H a ys):xs=ys:=by
 obtain⟨its,r,⟨o,e,_,n,d⟩,_⟩:=I.tuple h;obtain⟨its',r',⟨o',e',_,n',d'⟩,_⟩:=I.tuple h';rw[e] at e';cases e';rw[d] at d';injection d' with d1 _;have:its=its':=by simpa using congrArg Array.toList d1
 subst this;exact r.inj r'
end
abbrev Cx.Ef(X:Cx)(E:Value->Shared->Prop):Cx:={X with xe:=E}
abbrev Cx.nox(X:Cx):Cx:=X.Ef fun _ _=>False
theorem Cx.Ok.Ef{X:Cx}(ok:X.Ok)(E:Value->Shared->Prop):(X.Ef E).Ok:=
 ⟨ok.mod,ok.kind,ok.glob,ok.blt,ok.above,ok.inj,ok.has,ok.cab,ok.hd,ok.frames,ok.stk,ok.exf,ok.bs,ok.bsz,ok.IQ,ok.Iv,ok.Gi,ok.frf⟩
theorem Cx.Ok.EM{X:Cx}{E:Value->Shared->Prop}(ok:(X.Ef E).Ok):X.Ok:=
 ⟨ok.mod,ok.kind,ok.glob,ok.blt,ok.above,ok.inj,ok.has,ok.cab,ok.hd,ok.frames,ok.stk,ok.exf,ok.bs,ok.bsz,ok.IQ,ok.Iv,ok.Gi,ok.frf⟩
section
variable {X:Cx}{pins:List (Addr×Obj)}{σ:St}{H:Hp}{s:Shared}{E:Value->Shared->Prop}
theorem Inv.Ef(I:Inv X pins σ H s)(E:Value->Shared->Prop):Inv (X.Ef E) pins σ H s:=⟨I.ok.Ef E,I.os,I.bare,I.base,I.loc,I.cell,I.free,I.Es,I.pin,I.hok,I.len⟩
theorem Inv.EM(I:Inv (X.Ef E) pins σ H s):Inv X pins σ H s:=⟨I.ok.EM,I.os,I.bare,I.base,I.loc,I.cell,I.free,I.Es,I.pin,I.hok,I.len⟩
theorem SP.EM{D:Ends}{f:Flow}{s':Shared}(h:SP (X.Ef E) pins D f s'):SP X pins D f s':=by
 cases f with
 |next=>obtain⟨σ',H',I,q⟩:=h;exact⟨σ',H',I.EM,q⟩
 |brk=>obtain⟨σ',H',I,q⟩:=h;exact⟨σ',H',I.EM,q⟩
 |cont=>obtain⟨σ',H',I,q⟩:=h;exact⟨σ',H',I.EM,q⟩
 |ret u=>obtain⟨v,σ',H',I,r,q⟩:=h;exact⟨v,σ',H',I.EM,r,q⟩
theorem PSs.nox{st:List Stmt}{t:TS}(h:PSs X.nox st t):PSs X st t:=fun pins s σ H D I hw=>
 Df (h pins s σ H D (I.Ef _) hw) (fun _ _ q=>q.EM) fun _ _ z=>False.elim z
end
section
variable {X:Cx}{st:Stmt}{rest:List Stmt}{t u:TS}{e:Expr}{te:TE}{pos:Pos}
def Kd:TS:=fun D σ H=>D.nx σ H
def sM (t u:TS):TS:=fun D σ H=>t {D with nx:=u D} σ H
theorem DR:PSs X [] Kd:=fun _ _ σ H _ I h=>wpAny_execs_nil ⟨σ,H,I,h⟩
theorem ag(h1:PS X st t)(h2:PSs X rest u):PSs X (st::rest) (sM t u):=by
 intro pins s σ H D I h;refine wpAny_execs_cons (thn (h1 pins s σ H {D with nx:=u D} I h) fun f s1 q=>?_);cases f with
 |next=>
  obtain⟨σ',H',I',q⟩:=q;exact h2 pins s1 σ' H' D I' q
 |ret v=>exact q
 |brk=>exact q
 |cont=>exact q
theorem ai(h1:PS X st t):PSs X [st] t:=by
 intro pins s σ H D I h;refine wpAny_execs_cons (thn (h1 pins s σ H D I h) fun f s1 q=>?_);cases f with
 |next=>exact wpAny_execs_nil q
 |ret v=>exact q
 |brk=>exact q
 |cont=>exact q
theorem Inv.quiet{pins:List (Addr×Obj)}{σ:St}{H:Hp}{s:Shared}(I:Inv X pins σ H s):interactive X.env=false:=by simp[interactive,I.ok.kind]
def wz (te:TE):TS:=fun D σ H=>te σ H fun _ H1=>D.nx σ H1
theorem bu(he:PE X e te)(hs:swapsWith e none pos.line X.env=pure false:=by rfl):PS X (.Expr e pos) (wz te):=by
 intro pins s σ H D I h;refine wpAny_Expr_any (thn (he pins s σ H _ I h) fun v s1 hq9=>?_) I.quiet hs;obtain⟨x,H1,I1,r1,q1⟩:=hq9;exact⟨σ,H1,I1,q1⟩
def wW (te:TE):TS:=fun D σ H=>te σ H D.rt
theorem aC(he:PE X e te):PS X (.Return (some e) pos) (wW te):=by
 intro pins s σ H D I h;refine wpAny_Return_some (thn (he pins s σ H _ I h) fun v s1 hq10=>?_);obtain⟨x,H1,I1,r1,q1⟩:=hq10;exact⟨x,σ,H1,I1,r1,q1⟩
def tIfS (c:TT)(t u:TS):TS:=fun D σ H=>c σ H fun b H1=>if b=true then t D σ H1 else u D σ H1
theorem br{c:Expr}{a b:List Stmt}{tc:TT}(hc:PT X c tc)(ha:PSs X a t)(hb:PSs X b u):PS X (.If c a b pos) (tIfS tc t u):=by
 intro pins s σ H D I h;refine wpAny_If (thn (hc pins s σ H _ I h) fun d s1 hq11=>?_);obtain⟨H1,I1,q1⟩:=hq11;cases d with
 |true=>exact ha pins s1 σ H1 D I1 q1
 |false=>exact hb pins s1 σ H1 D I1 q1
def Jo:TS:=fun _ _ _=>False
theorem Ey:PS X st Jo:=fun _ _ _ _ _ _ h=>h.elim
end
abbrev TG:=V->St->Hp->(St->Hp->Prop)->Prop
abbrev TGs:=List V->St->Hp->(St->Hp->Prop)->Prop
def PG (X:Cx)(target:Expr)(t:TG):Prop:=
 ∀(pins:List (Addr×Obj))(s:Shared)(σ:St)(H:Hp)(v:V)(u:Value)(Q:St->Hp->Prop),Inv X pins σ H s->RelV v u->t v σ H Q ->
  (wq X) (assign target X.env u) (fun _ s'=>∃σ' H',Inv X pins σ' H' s'/\Q σ' H') X.xe s
def PGs (X:Cx)(ts:List Expr)(t:TGs):Prop:=
 ∀(pins:List (Addr×Obj))(s:Shared)(σ:St)(H:Hp)(vs:List V)(us:List Value)(Q:St->Hp->Prop),Inv X pins σ H s->Vals vs us->t vs σ H Q ->
  (wq X) (assignInOrder ((assignEach ts X.env).map (·.2)) us) (fun _ s'=>∃σ' H',Inv X pins σ' H' s'/\Q σ' H') X.xe s
abbrev Kg:=V->V->V->Hp->(Hp->Prop)->Prop
def wV (X:Cx)(t:Kg):Prop:=
 ∀(pins:List (Addr×Obj))(s:Shared)(σ:St)(H:Hp)(o i v:V)(ov iv u:Value)(Q:Hp->Prop),Inv X pins σ H s->RelV o ov->RelV i iv->RelV v u->t o i v H Q ->
  (wq X) (setItem ov iv u) (fun _ s'=>∃H',Inv X pins σ H' s'/\Q H') X.xe s
section
variable {X:Cx}{pos:Pos}
def kE (i:Nat):TG:=fun v σ H Q=>Q (σ.set i (some v)) H
theorem aj{i:Nat}{x:Str}(hN:X.N.Nodup)(hi:X.N[i]?=some x)(hx:Loc X.env.scope x)(hf:X.fn x=true\/X.env.scope.names.lookup x=some .local:=by first|exact .inl rfl|exact .inr rfl|assumption):PG X (.Name x pos) (kE i):=by
 intro pins s σ H v u Q I r h;exact wpAny_assign_Name (fj I hN hi hx r (fun s' I'=>⟨_,H,I',h⟩) hf)
def gNil:TGs:=fun vs σ H Q=>vs=[]/\Q σ H
def wQ (t:TG)(u:TGs):TGs:=fun vs σ H Q=>∃v r,vs=v::r/\t v σ H fun σ' H'=>u r σ' H' Q
theorem DW:PGs X [] gNil:=by
 intro pins s σ H vs us Q I r h;obtain⟨e,h⟩:=h;subst e;cases r;exact assignInOrder_nil ⟨σ,H,I,h⟩
theorem av{e:Expr}{es:List Expr}{t:TG}{u:TGs}(h1:PG X e t)(h2:PGs X es u)
  (hs:(assignEach (e::es) X.env).map (·.2)=assign e X.env::(assignEach es X.env).map (·.2):=by rfl):PGs X (e::es) (wQ t u):=by
 intro pins s σ H vs us Q I r h;obtain⟨v,vr,e1,h⟩:=h;subst e1;cases r with
 |cons r rr=>
  rw[hs];refine assignInOrder_cons (thn (h1 pins s σ H _ _ _ I r h) fun _ s1 hq12=>?_);obtain⟨σ1,H1,I1,q1⟩:=hq12;exact h2 pins s1 σ1 H1 _ _ Q I1 rr q1
def wb (K:W.Frag)(n:Nat)(t:TGs):TG:=fun v σ H Q=>∃a xs,v=.ref a/\SqT K H a xs/\xs.length=n/\t xs σ H Q
theorem dq{es:List Expr}{k:Nat}{t:TGs}{n:Nat}(hc:X.calm=true)(h:PGs X es t)
  (hn:(assignEach es X.env).length=n:=by rfl)(hst:(assignEach es X.env).findIdx? (·.1)=none:=by rfl):PG X (.Tuple es k pos) (wb X.K n t):=by
 intro pins s σ H v u Q I r hw;obtain⟨a,xs,e1,hq,hl,hw⟩:=hw;subst e1;cases r;obtain⟨its,rv,ht,hz⟩:=I.tuple hq;refine assign_Tuple_tuple (I.ok.hd hc) ht (by simp[hn,<- hl,rv.length]) hst fun h' hx=>?_;have I1:Inv X pins σ H {s with heap:=h'}:=I.kept (t':=s.toks) fun b o e=>hx b o (Aa (Di e)) e;exact h pins _ σ H xs _ Q I1 (by simpa using rv) hw
def gSub (to ti:TE)(t:Kg):TG:=fun v σ H Q=>to σ H fun o H1=>ti σ H1 fun i H2=>t o i v H2 fun H3=>Q σ H3
theorem qp{o i:Expr}{to ti:TE}{t:Kg}(ho:PE X o to)(hi:PE X i ti)(hs:wV X t)
  (ha:∀v,assign (.Subscript o i pos) X.env v=(do
   let ov <- holding [v] (eval o X.env)
   let iv <- holding [v,ov] (eval i X.env)
   standAt pos
   holding [v,ov,iv] (setItem ov iv v)
   release [v,ov,iv] []):=by intro _; rfl):PG X (.Subscript o i pos) (gSub to ti t):=by
 intro pins s σ H v u Q I r h;rw[ha];refine CU (Dg (thn (ho pins s σ H _ I h) fun ov s1 hq13=>?_));obtain⟨x,H1,I1,r1,q1⟩:=hq13;refine CU (Dg (thn (hi pins s1 σ H1 _ I1 q1) fun iv s2 hq14=>?_));obtain⟨y,H2,I2,r2,q2⟩:=hq14;refine CU (wpAny_standAt (CU (Dg (thn (hs pins s2 σ H2 x y v ov iv u _ I2 r1 r2 r q2) fun _ s3 hq15=>?_))));obtain⟨H3,I3,q3⟩:=hq15;exact wpAny_release ⟨σ,H3,I3,q3⟩
def wI (te:TE)(g:TG):TS:=fun D σ H=>te σ H fun x H1=>g x σ H1 D.nx
theorem du{tg e:Expr}{te:TE}{g:TG}(he:PE X e te)(hg:PG X tg g)(hs:swapsWithSole [tg] e pos.line X.env=pure false:=by rfl)(hw:swappedStores [tg] e X.env=pure none:=by rfl)
  (h1:(assignEach [tg] X.env).map (·.2)=[assign tg X.env]:=by rfl):PS X (.Assign [tg] e pos) (wI te g):=by
 intro pins s σ H D I h;refine wpAny_Assign_stores (thn (he pins s σ H _ I h) fun v s1 hq16=>?_) hs hw;obtain⟨x,H1,I1,r1,q1⟩:=hq16;rw[h1];exact thn (hg pins s1 σ H1 x v _ I1 r1 q1) fun _ s2 q=>q
theorem ay{i:Nat}{x:Str}{e:Expr}{te:TE}{pos':Pos}(hN:X.N.Nodup)(hi:X.N[i]?=some x)(hx:Loc X.env.scope x)(he:PE X e te)(hs:swapsWith e (some (.Name x pos')) pos.line X.env=pure false:=by rfl)(hf:X.fn x=true\/X.env.scope.names.lookup x=some .local:=by first|exact .inl rfl|exact .inr rfl|assumption) :
  PS X (.Assign [.Name x pos'] e pos) (wI te (kE i)):=by
 intro pins s σ H D I h;refine wpAny_Assign_Name (thn (he pins s σ H _ I h) fun v s1 hq17=>?_) hs;obtain⟨y,H1,I1,r1,q1⟩:=hq17;exact fj I1 hN hi hx r1 (fun s2 I2=>⟨_,H1,I2,q1⟩) hf
def tPar (i j:Nat)(ta:TA):TS:=fun D σ H=>ta σ H fun vs H1=>∃v w,vs=[v,w]/\D.nx ((σ.set i (some v)).set j (some w)) H1
theorem qz{i j:Nat}{x y:Str}{a b:Expr}{ta:TA}{px py pt:Pos}{kt k2 pt2}(hc:X.calm=true)(hN:X.N.Nodup)(hi:X.N[i]?=some x)(hj:X.N[j]?=some y)(hij:i≠j)
  (hx:X.env.scope.names.lookup x=some .local)(hy:X.env.scope.names.lookup y=some .local)(ha:PA X [a,b] ta)
  (hw:swappedStores [.Tuple [.Name x px,.Name y py] kt pt] (.Tuple [a,b] k2 pt2) X.env=pure (some [x,y]))
  (hs:swapsWithSole [.Tuple [.Name x px,.Name y py] kt pt] (.Tuple [a,b] k2 pt2) pos.line X.env=pure false:=by rfl) :
  PS X (.Assign [.Tuple [.Name x px,.Name y py] kt pt] (.Tuple [a,b] k2 pt2) pos) (tPar i j ta):=by
 intro pins s σ H D I h;rw[exec_Assign_arm];refine CU (wpAny_standAt ?_);rw[hs];refine CU (CV ?_);rw[CZ (by decide)];refine CU (Tuple_ (thn (ha _ pins s σ H _ I h) fun us s1 hq18=>?_));obtain⟨vs,H1,I1,r1,q1⟩:=hq18;obtain⟨v,w,e1,q1⟩:=q1;subst e1;obtain⟨u1,u2,rfl,rv,rw'⟩:∃u1 u2,us=[u1,u2]/\RelV v u1/\RelV w u2:=by
  cases r1 with
  |cons p q=>
   cases q with
   |cons p' q'=>
    cases q';exact⟨_,_,rfl,p,p'⟩
 refine wpAny_newObj_type ?_ (by show 2<=sizeLine;decide);have I2:Inv X pins σ H1 {s1 with heap:=s1.heap.push {cls:=.type "tuple",data:=.seq [u1,u2].toArray}}:=I1.kept (t':=s1.toks) fun b o e=>Dx _ e;rw[hw];refine CU (CV ?_);show (wq X) (do rule "assign.swapped-stores";let items <- unpackItems (.ref s1.heap.objs.size) 2 none;assignInOrder [fun v=>bindName X.env y v,fun v=>bindName X.env x v] items.reverse;pure Flow.next) _ _ _;refine CU (DH (CU (unpackItems_tuple (items:=#[u1,u2]) (I.ok.hd hc) (IsTup.new s1.heap _) fun h' hx'=>?_)));have I3:=I2.kept (h':=h') (t':=s1.toks) fun b o e=>hx' b o (Aa (Di e)) e;show wpAny _ _ (assignInOrder [fun v=>bindName X.env y v,fun v=>bindName X.env x v] [u2,u1] >>= fun _=>pure Flow.next) _ _ _;refine CU (assignInOrder_cons (wpAny_bindName (fj I3 hN hj (.inl hy) rw' (fun s2 I4=>?_) (.inr hy))));refine assignInOrder_cons (wpAny_bindName (fj I4 hN hi (.inl hx) rv (fun s3 I5=>assignInOrder_nil (CV ?_)) (.inr hx)));rw[List.set_comm _ _ (Dw hij)] at I5;exact⟨_,H1,I5,q1⟩
def uh (c:TT)(tb:TS):TS:=fun D σ H=>∃W:Nat->St->Hp->Prop,(∃m,W m σ H)/\∀m σ H,W m σ H ->
 c σ H fun b H1=>if b=true then ∃N:St->Hp->Prop,(∀σ' H',N σ' H'->∃m',m'<m/\W m' σ' H')/\tb {D with nx:=N,ct:=N,bk:=D.nx} σ H1 else D.nx σ H1
theorem dP{c:Expr}{body:List Stmt}{tc:TT}{tb:TS}(hp:PassesOwn (model X.prog X.w) X.A X.env X.xe)(hc:PT X c tc)(hb:PSs X body tb):PS X (.While c body [] pos) (uh tc tb):=by
 intro pins s σ H D I h;obtain⟨W,⟨m0,w0⟩,turn⟩:=h;refine wpAny_While (codeAny_whileLoop (fun n s'=>∃σ' H',Inv X pins σ' H' s'/\W n σ' H') ?_ m0 ⟨σ,H,I,w0⟩);rintro n s1 ⟨σ1,H1,I1,w1⟩;refine wpAny_passesOwn hp (thn (hc pins s1 σ1 H1 _ I1 (turn n σ1 H1 w1)) fun b s2 hq19=>?_);obtain⟨H2,I2,q2⟩:=hq19;cases b with
 |true=>
  obtain⟨N,hN,q2⟩:=q2;rw[Dc rfl];refine wpAny_passesOwn hp (thn (hb pins s2 σ1 H2 _ I2 q2) fun f s3 q3=>?_);cases f with
  |next=>
   obtain⟨σ3,H3,I3,n3⟩:=q3;obtain⟨m',hm,w3⟩:=hN σ3 H3 n3;exact⟨m',hm,σ3,H3,I3,w3⟩
  |cont=>
   obtain⟨σ3,H3,I3,n3⟩:=q3;obtain⟨m',hm,w3⟩:=hN σ3 H3 n3;exact⟨m',hm,σ3,H3,I3,w3⟩
  |brk=>exact q3
  |ret v=>exact q3
 |false=>
  rw[CZ Ax];exact wpAny_execs_nil ⟨σ1,H2,I2,q2⟩
end
structure It where
 go:Nat->Hp->Prop
 yld:Nat->Hp->V->Hp->Prop
 stop:Nat->Hp->Prop
def Em (X:Cx)(pins:List (Addr×Obj))(H:Hp)(b:Addr):Prop:=
 H b=none/\b≠X.env.locals/\b∉X.fs/\(b∈X.ex\/X.s₀.heap.get? b=none)/\(∀x c,X.env.cells.lookup x=some c->c≠b)/\∀p∈X.pn++pins,p.1≠b
theorem Inv.IA{X:Cx}{pins:List (Addr×Obj)}{σ:St}{H H':Hp}{s:Shared}{b:Addr}(I:Inv X pins σ H s)(hb:s.heap.objs.size<=b)(hn:H' b=none):Em X pins H' b:=by
 refine⟨hn,BC (Ah I.lt hb),I.nofs hb,.inr (Heap.get?_none_of_le (Ak I.sz hb)),fun x c e z=>?_,fun p hp z=>?_⟩
 ·obtain⟨v,q⟩:=I.cell x c e;exact absurd (Ah q.lt (by rw[z];exact hb)) (AC _)
 ·exact absurd (Ah (Di (I.pin p hp).1) (by rw[z];exact hb)) (AC _)
structure Turn(P:Program)(w:World)(K:W.Frag)(tg:Expr)(J:It)(fp:List Addr)(it:Addr)(tn:Nat->Heap->Prop):Prop where
 mem:it∈fp
 obj:∀i h,tn i h->∀b∈fp,∃o,h.get? b=some o/\∀v,o.data≠.cell v
 keep:∀i h h',tn i h->(∀b∈fp,∀o,h.get? b=some o->h'.get? b=some o)->tn i h'
 item:∀(X:Cx),X.prog=P->X.w=w->X.K=K->X.calm=true->∀(i:Nat)(pins:List (Addr×Obj))(s:Shared)(σ:St)(H:Hp)(E:Value->Shared->Prop),Inv X pins σ H s->(∀b∈fp,Em X pins H b)->tn i s.heap->J.go i H ->
  wpAny (model P w) X.A (pyNext (.ref it)) (fun r s1=>∃u,r=some u /\
   wpAny (model P w) X.A (letOwnedTupleGo tg (.ref it) u) (fun _ s2=>∃x H',Inv X pins σ H' s2/\RelV x u/\J.yld i H x H'/\tn (i+1) s2.heap/\∀b∈fp,H' b=none) E s1) E s
 done:∀(X:Cx),X.prog=P->X.w=w->X.K=K->X.calm=true->∀(i:Nat)(pins:List (Addr×Obj))(s:Shared)(σ:St)(H:Hp)(E:Value->Shared->Prop),Inv X pins σ H s->(∀b∈fp,Em X pins H b)->tn i s.heap->J.stop i H ->
  wpAny (model P w) X.A (pyNext (.ref it)) (fun r s1=>r=none/\Inv X pins σ H s1) E s
 self:∀(A:Around)(i:Nat)(s:Shared)(Q:Value->Shared->Prop)(E:Value->Shared->Prop),tn i s.heap->Q (.ref it) s->wpAny (model P w) A (pyIter (.ref it)) Q E s
abbrev TI:=St->Hp->(It->Hp->Prop)->Prop
def PIE (X:Cx)(pins:List (Addr×Obj))(σ:St)(tg:Expr)(R:It->Hp->Prop)(itv:Value)(s2:Shared):Prop:=
 ∃(it:Addr)(fp:List Addr)(tn:Nat->Heap->Prop)(J:It)(H':Hp),itv=.ref it/\Inv X pins σ H' s2/\Turn X.prog X.w X.K tg J fp it tn/\tn 0 s2.heap/\(∀b∈fp,Em X pins H' b)/\R J H'
def PI (X:Cx)(tg iter:Expr)(wi:TI):Prop:=
 ∀(pins:List (Addr×Obj))(s:Shared)(σ:St)(H:Hp)(R:It->Hp->Prop),Inv X pins σ H s->wi σ H R ->
  (wq X) (eval iter X.env) (fun v s1=>(wq X) (pyIter v) (PIE X pins σ tg R) X.xe s1) X.xe s
theorem pM{M:Model}{A:Around}{E:Value->Shared->Prop}{s:Shared}{tg:Expr}{it:Addr}{u:Value}{o:Obj}{n:String}{vs:Array Value}{Q:Unit->Shared->Prop}(ho:s.heap.get? it=some o)(hc:o.cls=.type n)(hd:o.data=.fields vs)
    (hn:["enumerate","zip","dict_itemiterator","dict_reverseitemiterator","odict_iterator","itertools.zip_longest","itertools.pairwise"].contains n=false)(hQ:Q () s):wpAny M A (letOwnedTupleGo tg (.ref it) u) Q E s:=by
  unfold letOwnedTupleGo;cases tg<;>first
    |exact CV hQ
    | (cases u <;> first
        |exact CV hQ
        | (refine CU (wpAny_load ho ?_)
           rw[hc,hd];show wpAny M A (if (["enumerate","zip","dict_itemiterator","dict_reverseitemiterator","odict_iterator","itertools.zip_longest","itertools.pairwise"].contains n&&vs[0]?==some (rawInt _))=true then _ else _) Q E s;rw[CZ (by intro h;rw[hn,Bool.false_and] at h;cases h)]
           exact CV hQ))
def Itl (K:W.Frag)(a:Addr):It:=
 ⟨fun i H=>∃xs x,SqL K H a xs/\xs[i]?=some x,fun i H x H'=>H'=H/\∀xs,SqL K H a xs->xs[i]?=some x,fun i H=>∃xs,SqL K H a xs/\xs.length<=i⟩
def Itt (K:W.Frag)(a:Addr):It:=
 ⟨fun i H=>∃xs x,SqT K H a xs/\xs[i]?=some x,fun i H x H'=>H'=H/\∀xs,SqT K H a xs->xs[i]?=some x,fun i H=>∃xs,SqT K H a xs/\xs.length<=i⟩
def Itr (lo:Int)(n:Nat):It:=⟨fun i _=>i<n,fun i H x H'=>H'=H/\x=.int (lo+i),fun i _=>n<=i⟩
theorem oj{P:Program}{w:World}{K:W.Frag}{tg:Expr}(a it:Addr):Turn P w K tg (Itl K a) [it] it (fun i h=>h.IsListIter it a i) where
 mem:=by simp
 obj:=fun i h st b hb=>by
  have e:b=it:=by simpa using hb
  subst e;obtain⟨o,e,c,d⟩:=st;exact⟨o,e,fun v z=>by rw[d] at z;cases z⟩
 keep:=fun i h h' st k=>st.at fun o e=>k it (by simp) o e
 item:=by
  intro X hP hw hK hc i pins s σ H E I hf st hg;subst hP hw hK;obtain⟨xs,x,hq,hx⟩:=hg;obtain⟨its,rv,p,hz⟩:=I.list hq;obtain⟨u,hu,ru⟩:=rv.get hx;obtain⟨f0,f1,f2,f3,f4,f5⟩:=hf it (by simp);refine wpAny_pyNext_list_item st p.isList (x:=u) (by simpa using hu) fun h' st' sb=>?_;have I1:Inv X pins σ H {s with heap:=h'}:=I.turned (t':=s.toks) (fun b o hb e=>(sb.2 b hb).trans e) f0 f1 f3 f4 f5;obtain⟨o,e,c,d⟩:=id st';exact⟨u,rfl,pM (s:={s with heap:=h'}) e c d (by decide) ⟨x,H,I1,ru,⟨rfl,fun ys hy=>by rw[I.Gq hy hq];exact hx⟩,st',fun b hb=>(hf b hb).1⟩⟩
 done:=by
  intro X hP hw hK hc i pins s σ H E I hf st hg;subst hP hw hK;obtain⟨xs,hq,hx⟩:=hg;obtain⟨its,rv,p,hz⟩:=I.list hq;obtain⟨f0,f1,f2,f3,f4,f5⟩:=hf it (by simp);have hl:=rv.length;exact wpAny_pyNext_list_end (I.ok.hd hc) st p.isList (by simp;lia) fun h' eb=>⟨rfl,I.turned (t':=s.toks) (fun b o hb e=>eb b o hb e) f0 f1 f3 f4 f5⟩
 self:=fun _ _ _ _ _ st h=>wpAny_pyIter_listiter st h
theorem lp{P:Program}{w:World}{K:W.Frag}{tg:Expr}(a it:Addr):Turn P w K tg (Itt K a) [it] it (fun i h=>h.IsTupleIter it a i) where
 mem:=by simp
 obj:=fun i h st b hb=>by
  have e:b=it:=by simpa using hb
  subst e;obtain⟨o,e,c,d⟩:=st;exact⟨o,e,fun v z=>by rw[d] at z;cases z⟩
 keep:=fun i h h' st k=>st.at fun o e=>k it (by simp) o e
 item:=by
  intro X hP hw hK hc i pins s σ H E I hf st hg;subst hP hw hK;obtain⟨xs,x,hq,hx⟩:=hg;obtain⟨its,rv,p,hz⟩:=I.tuple hq;obtain⟨u,hu,ru⟩:=rv.get hx;obtain⟨f0,f1,f2,f3,f4,f5⟩:=hf it (by simp);refine wpAny_pyNext_tuple_item st (show s.heap.IsTuple a its.toArray from p) (x:=u) (by simpa using hu) fun h' st' sb=>?_;have I1:Inv X pins σ H {s with heap:=h'}:=I.turned (t':=s.toks) (fun b o hb e=>(sb.2 b hb).trans e) f0 f1 f3 f4 f5;obtain⟨o,e,c,d⟩:=id st';exact⟨u,rfl,pM (s:={s with heap:=h'}) e c d (by decide) ⟨x,H,I1,ru,⟨rfl,fun ys hy=>by rw[I.Hn hy hq];exact hx⟩,st',fun b hb=>(hf b hb).1⟩⟩
 done:=by
  intro X hP hw hK hc i pins s σ H E I hf st hg;subst hP hw hK;obtain⟨xs,hq,hx⟩:=hg;obtain⟨its,rv,p,hz⟩:=I.tuple hq;obtain⟨f0,f1,f2,f3,f4,f5⟩:=hf it (by simp);have hl:=rv.length;exact wpAny_pyNext_tuple_end (I.ok.hd hc) st (show s.heap.IsTuple a its.toArray from p) (by simp;lia) fun h' eb=>⟨rfl,I.turned (t':=s.toks) (fun b o hb e=>eb b o hb e) f0 f1 f3 f4 f5⟩
 self:=fun _ _ _ _ _ st h=>wpAny_pyIter_tupleiter st h
theorem kN{P:Program}{w:World}{K:PySem.W.Frag}{tg:Expr}(it:Addr)(lo:Int)(n:Nat):Turn P w K tg (Itr lo n) [it] it (fun i h=>IsRangeIter h it (lo+(i:Nat)*1) ((n:Int)-(i:Nat)) 1) where
 mem:=by simp
 obj:=fun i h st b hb=>by
  have e:b=it:=by simpa using hb
  subst e
  exact⟨_,st,fun v z=>by
   have z':Data.fields _=Data.cell v:=z
   cases z'⟩
 keep:=fun i h h' st k=>k it (by simp) _ st
 item:=by
  intro X hP hw hK hc i pins s σ H E I hf st hg;subst hP hw hK;obtain⟨f0,f1,f2,f3,f4,f5⟩:=hf it (by simp);have W:=Walks.range (prog:=X.prog) (w:=X.w) (I.ok.hd hc) it lo 1 n;refine W.item i s _ _ hg st fun v h' tk hv st' kk=>?_;obtain⟨t,rfl⟩:=hv;have I1:Inv X pins σ H {s with heap:=h',toks:=tk}:=I.turned (fun b o hb e=>kk b o (by simpa using hb) e) f0 f1 f3 f4 f5;refine⟨_,rfl,pM (s:={s with heap:=h',toks:=tk}) (n:="range_iterator") st' rfl rfl (by decide) ⟨.int (lo+i),H,I1,⟨t,?_⟩,⟨rfl,rfl⟩,st',fun b hb=>(hf b hb).1⟩⟩;rw[Int.mul_one]
 done:=by
  intro X hP hw hK hc i pins s σ H E I hf st hg;subst hP hw hK;obtain⟨f0,f1,f2,f3,f4,f5⟩:=hf it (by simp);exact wpAny_pyNext_range_end (I.ok.hd hc) st (by have:n<=i:=hg;lia) fun h' eb=>⟨rfl,I.turned (t':=s.toks) (fun b o hb e=>eb b o hb e) f0 f1 f3 f4 f5⟩
 self:=fun _ _ _ _ _ st h=>wpAny_pyIter_rangeiter st h
section
variable {X:Cx}{tg:Expr}
def sY (K:W.Frag)(tl:TE):TI:=fun σ H R=>tl σ H fun x H1=>∃a,x=.ref a/\(∃xs,SqL K H1 a xs)/\R (Itl K a) H1
def iTup (K:W.Frag)(tl:TE):TI:=fun σ H R=>tl σ H fun x H1=>∃a,x=.ref a/\(∃xs,SqT K H1 a xs)/\R (Itt K a) H1
theorem aJ{l:Expr}{tl:TE}(hl:PE X l tl):PI X tg l (sY X.K tl):=by
 intro pins s σ H R I h;refine thn (hl pins s σ H _ I h) fun v s1 hq20=>?_;obtain⟨x,H1,I1,r1,q1⟩:=hq20;obtain⟨a,e,⟨xs,hq⟩,q⟩:=q1;subst e;cases r1;obtain⟨its,rv,p,hz⟩:=I1.list hq;refine wpAny_pyIter_list p.isList ?_;refine⟨s1.heap.objs.size,[s1.heap.objs.size],_,_,H1,rfl,I1.kept (t':=s1.toks) fun b o e=>Dx _ e,oj a _,⟨_,Dy _ rfl,rfl,rfl⟩,fun b hb=>?_,q⟩;have e:b=s1.heap.objs.size:=by simpa using hb
 subst e;exact I1.IA (zU _) (I1.hok.fresh (zU _))
theorem qv{l:Expr}{tl:TE}(hl:PE X l tl):PI X tg l (iTup X.K tl):=by
 intro pins s σ H R I h;refine thn (hl pins s σ H _ I h) fun v s1 hq21=>?_;obtain⟨x,H1,I1,r1,q1⟩:=hq21;obtain⟨a,e,⟨xs,hq⟩,q⟩:=q1;subst e;cases r1;obtain⟨its,rv,p,hz⟩:=I1.tuple hq;refine wpAny_pyIter_tuple (show s1.heap.IsTuple a its.toArray from p) ?_;refine⟨s1.heap.objs.size,[s1.heap.objs.size],_,_,H1,rfl,I1.kept (t':=s1.toks) fun b o e=>Dx _ e,lp a _,⟨_,Dy _ rfl,rfl,rfl⟩,fun b hb=>?_,q⟩;have e:b=s1.heap.objs.size:=by simpa using hb
 subst e;exact I1.IA (zU _) (I1.hok.fresh (zU _))
theorem jY{pins:List (Addr×Obj)}{σ:St}{H:Hp}{s:Shared}{R:It->Hp->Prop}{E:Value->Shared->Prop}{lo hi:Int}{t u v:Tok}{tk:Nat}(I:Inv X pins σ H s)(h1:-(2^62)<=lo)(h2:lo<2^62)(h3:-(2^62)<=hi)(h4:hi<2^62)
  (q:R (Itr lo (hi-lo).toNat) H):(wq X) (pyIter (.ref s.heap.objs.size)) (PIE X pins σ tg R) E {s with heap:=s.heap.push {cls:=.type "range",data:=.fields #[.int lo t,.int hi u,.int 1 v]},toks:=tk}:=by
 refine wpAny_pyIter_range (IsRange.new ..) (small_one h1 h2 h3 h4) ?_;have I1:Inv X pins σ H {s with heap:=s.heap.push {cls:=.type "range",data:=.fields #[.int lo t,.int hi u,.int 1 v]},toks:=tk}:=I.kept fun b o e=>Dx _ e
 refine⟨(s.heap.push { cls:=.type "range",data:=.fields #[.int lo t,.int hi u,.int 1 v] }).objs.size,[(s.heap.push { cls:=.type "range",data:=.fields #[.int lo t,.int hi u,.int 1 v] }).objs.size],_,_,H,rfl,
  I1.kept (t':=tk) fun b o e=>Dx _ e,kN _ lo (hi-lo).toNat,?_,fun b hb=>?_,q⟩
 ·have e1:lo+((0:Nat):Int)*1=lo:=by simp
  have e2:(((hi-lo).toNat:Nat):Int)-((0:Nat):Int)=Builtin.Range.rangeSize lo hi 1:=by rw[rangeSize_one];split<;>lia
  show IsRangeIter _ _ (lo+((0:Nat):Int)*1) ((((hi-lo).toNat:Nat):Int)-((0:Nat):Int)) 1;rw[e1,e2];exact Dy _ rfl
 ·have e:b=(s.heap.push {cls:=.type "range",data:=.fields #[.int lo t,.int hi u,.int 1 v]}).objs.size:=by simpa using hb
  subst e;exact I1.IA (zU _) (I1.hok.fresh (zU _))
def vI (ta:TA):TI:=fun σ H R=>ta σ H fun vs H1=>∃j:Int,vs=[.int j]/\-(2^62)<=j/\j<2^62/\R (Itr 0 j.toNat) H1
def vR (ta:TA):TI:=fun σ H R=>ta σ H fun vs H1=>∃i j:Int,vs=[.int i,.int j]/\(-(2^62)<=i/\i<2^62/\-(2^62)<=j/\j<2^62)/\R (Itr i (j-i).toNat) H1
theorem bh{a:Expr}{ta:TA}{p pos:Pos}(hg:Gl X "range")(hm:X.mg "range"=none)(ha:PA X [a] ta)(hs:starEach [a] X.env=[(false,eval a X.env)]:=by rfl):PI X tg (.Call (.Name "range" p) [a] [] pos) (vI ta):=by
 intro pins s σ H R I h;refine Call_ (dv I hg hm boot_range (PyProof.Rows.callWith_type1 (thn (ha pos pins s σ H _ I h) fun us s1 hq22=>?_) hs rfl));obtain⟨vs,H1,I1,r1,q1⟩:=hq22;obtain⟨j,e,q1,q2,q⟩:=q1;subst e;cases r1 with
 |cons r rr=>
  cases rr;obtain⟨t,rfl⟩:=r;exact call_range_1 (jY I1 (by lia) (by lia) q1 q2 (by simpa using q))
theorem fu{a b:Expr}{ta:TA}{p pos:Pos}(hg:Gl X "range")(hm:X.mg "range"=none)(ha:PA X [a,b] ta)(hs:starEach [a,b] X.env=[(false,eval a X.env),(false,eval b X.env)]:=by rfl)(hs2:starEach [b] X.env=[(false,eval b X.env)]:=by rfl) :
  PI X tg (.Call (.Name "range" p) [a,b] [] pos) (vR ta):=by
 intro pins s σ H R I h;refine Call_ (dv I hg hm boot_range (PyProof.Rows.callWith_type1 (thn (ha pos pins s σ H _ I h) fun us s1 hq23=>?_) (by rw[hs,hs2]) (by rw[hs2];rfl)));obtain⟨vs,H1,I1,r1,q1⟩:=hq23;obtain⟨i,j,e,⟨q1,q2,q3,q4⟩,q⟩:=q1;subst e;cases r1 with
 |cons r rr=>
  cases rr with
  |cons r' rr=>
   cases rr;obtain⟨t,rfl⟩:=r;obtain⟨t',rfl⟩:=r';exact call_range_2 (jY I1 q1 q2 q3 q4 q)
def xa (wi:TI)(g:TG)(tb:TS):TS:=fun D σ H=>wi σ H fun J H1=>∃W:Nat->Nat->St->Hp->Prop,(∃m,W 0 m σ H1)/\∀i m σ H,W i m σ H ->
 (J.stop i H/\D.nx σ H)\/(J.go i H/\∃N:St->Hp->Prop,(∀σ' H',N σ' H'->∃m',m'<m/\W (i+1) m' σ' H')/\∀x H',J.yld i H x H'->g x σ H' fun σ2 H2=>tb {D with nx:=N,ct:=N,bk:=D.nx} σ2 H2)
def cH (fp:List Addr)(h:Heap):List (Addr×Obj):=fp.filterMap fun b=>(h.get? b).map fun o=>(b,o)
theorem bc{fp:List Addr}{h:Heap}{b:Addr}{o:Obj}(hb:b∈fp)(e:h.get? b=some o):(b,o)∈cH fp h:=AL.mpr ⟨b,hb,by rw[e];rfl⟩
theorem iT{fp:List Addr}{h:Heap}{p:Addr×Obj}(hp:p∈cH fp h):p.1∈fp/\h.get? p.1=some p.2:=by
 obtain⟨b,hb,e⟩:=AL.mp hp;cases q:h.get? b with
 |none=>rw[q] at e;cases e
 |some o=>
  rw[q] at e;have e':(b,o)=p:=Dj e;subst e';exact⟨hb,q⟩
theorem Inv.pinned{pins:List (Addr×Obj)}{σ:St}{H:Hp}{s:Shared}{fp:List Addr}(I:Inv X pins σ H s)(hf:∀b∈fp,Em X pins H b)(ho:∀b∈fp,∃o,s.heap.get? b=some o/\∀v,o.data≠.cell v):Inv X (pins++cH fp s.heap) σ H s:=
 I.EL fun p hp=>(zZ.mp hp).elim (fun z=>I.pin p (Ab _ z)) fun z=>by
  obtain⟨hb,e⟩:=iT z;obtain⟨f0,f1,f2,_⟩:=hf p.1 hb;obtain⟨o,e',d⟩:=ho p.1 hb;rw[e] at e';cases e';exact⟨e,f0,f1,f2,d⟩
theorem Inv.DZ{pins pl:List (Addr×Obj)}{σ:St}{H:Hp}{s:Shared}(I:Inv X (pins++pl) σ H s):Inv X pins σ H s:=I.EL fun p hp=>I.pin p (Ab _ (Aw _ hp))
theorem bV{iter:Expr}{body:List Stmt}{wi:TI}{g:TG}{tb:TS}{pos:Pos}(hp:PassesOwn (model X.prog X.w) X.A X.env X.xe)(hc:X.calm=true)(hi:PI X tg iter wi)(hg:PG X tg g)(hb:PSs X body tb)
  (hs:∀x,foldedSetIterable iter X.env x=pure x:=by intro _;rfl):PS X (.For tg iter body [] pos) (xa wi g tb):=by
 intro pins s σ H D I h;refine wpAny_For (thn (hi pins s σ H _ I h) fun v s1 h1=>thn h1 fun itv s2 h2=>?_) hs;obtain⟨it,fp,tn,J,H2,e,I2,T,st2,f2,W,⟨m0,w0⟩,turn⟩:=h2;subst e;have stat:∀{H':Hp},(∀b∈fp,H' b=none)->∀b∈fp,Em X pins H' b:=fun hn b hb=>⟨hn b hb,(f2 b hb).2⟩
 refine codeAny_forLoop_any (fun n s'=>∃i σ' H',Inv X pins σ' H' s'/\tn i s'.heap/\(∀b∈fp,H' b=none)/\W i n σ' H') ?_ m0 ⟨0,σ,H2,I2,st2,fun b hb=>(f2 b hb).1,w0⟩;rintro n s3 ⟨i,σ3,H3,I3,st3,fr3,w3⟩;rcases turn i n σ3 H3 w3 with ⟨stop,qn⟩|⟨go,N,hN,step⟩
 ·refine wpAny_passesOwn hp (thn (T.done X rfl rfl rfl hc i pins s3 σ3 H3 X.xe I3 (stat fr3) st3 stop) fun r s4 hq24=>?_);obtain⟨hr,I4⟩:=hq24;subst hr;exact wpAny_execs_nil ⟨σ3,H3,I4,qn⟩
 ·refine wpAny_passesOwn hp (thn (T.item X rfl rfl rfl hc i pins s3 σ3 H3 X.xe I3 (stat fr3) st3 go) fun r s4 hq25=>?_);obtain⟨u,hr,h4⟩:=hq25;subst hr;refine wpAny_passesOwn hp (thn h4 fun _ s5 hq26=>?_);obtain⟨x,H5,I5,r5,y5,st5,fr5⟩:=hq26;have I5':=I5.pinned (stat fr5) (T.obj _ _ st5);refine wpAny_passesOwn hp (thn (hg _ s5 σ3 H5 x u _ I5' r5 (step x H5 y5)) fun _ s6 hq27=>?_);obtain⟨σ6,H6,I6,q6⟩:=hq27;refine wpAny_passesOwn hp (thn (hb _ s6 σ6 H6 _ I6 q6) fun f s7 q7=>?_);have again:∀{σ7:St}{H7:Hp},Inv X (pins++cH fp s5.heap) σ7 H7 s7->N σ7 H7->∃m,m<n/\∃i σ' H',Inv X pins σ' H' s7/\tn i s7.heap/\(∀b∈fp,H' b=none)/\W i m σ' H':=fun {σ7 H7} I7 n7=>by
   obtain⟨m',hm,w7⟩:=hN σ7 H7 n7;refine⟨m',hm,i+1,σ7,H7,I7.DZ,T.keep _ _ _ st5 fun b hb o e=>(I7.pin (b,o) (Ab _ (Ab _ (bc hb e)))).1,fun b hb=>?_,w7⟩;obtain⟨o,e,d⟩:=T.obj _ _ st5 b hb;exact(I7.pin (b,o) (Ab _ (Ab _ (bc hb e)))).2.1
  cases f with
  |next=>obtain⟨σ7,H7,I7,n7⟩:=q7;exact again I7 n7
  |cont=>obtain⟨σ7,H7,I7,n7⟩:=q7;exact again I7 n7
  |brk=>obtain⟨σ7,H7,I7,q7⟩:=q7;exact⟨σ7,H7,I7.DZ,q7⟩
  |ret v=>obtain⟨x7,σ7,H7,I7,r7,q7⟩:=q7;exact⟨x7,σ7,H7,I7.DZ,r7,q7⟩
end
theorem cu{K:PySem.W.Frag}{a:Addr}{xs:List V}{g:TG}{tb:TS}{D:Ends}{σ:St}{H:Hp}(Pv:Nat->St->Hp->Prop)(h0:Pv 0 σ H)(hl:∀i σ H,i<=xs.length->Pv i σ H->SqL K H a xs)
  (hs:∀i x σ H,xs[i]?=some x->Pv i σ H->g x σ H fun σ2 H2=>tb {D with nx:=Pv (i+1),ct:=Pv (i+1),bk:=D.nx} σ2 H2)(hd:∀σ H,Pv xs.length σ H->D.nx σ H) :
  ∃W:Nat->Nat->St->Hp->Prop,(∃m,W 0 m σ H)/\∀i m σ H,W i m σ H ->
   ((Itl K a).stop i H/\D.nx σ H)\/((Itl K a).go i H/\∃N:St->Hp->Prop,(∀σ' H',N σ' H'->∃m',m'<m/\W (i+1) m' σ' H')/\∀x H',(Itl K a).yld i H x H'->g x σ H' fun σ2 H2=>tb {D with nx:=N,ct:=N,bk:=D.nx} σ2 H2):=by
 refine⟨fun i m σ H=>m=xs.length-i/\i<=xs.length/\Pv i σ H,⟨xs.length,by simp,Ag _,h0⟩,?_⟩;rintro i m σ H ⟨rfl,hi,p⟩;have q:=hl i σ H hi p;by_cases hlt:i<xs.length
 ·refine .inr ⟨⟨xs,xs[i],q,by simp[hlt]⟩,Pv (i+1),fun σ' H' p'=>⟨xs.length-(i+1),by lia,rfl,hlt,p'⟩,fun x H' y=>?_⟩;obtain⟨e,y⟩:=y;subst e;exact hs i x σ _ (y xs q) p
 ·have e:i=xs.length:=by lia
  subst e;exact .inl ⟨⟨xs,q,zU _⟩,hd σ H p⟩
theorem sG{K:PySem.W.Frag}{a:Addr}{xs:List V}{g:TG}{tb:TS}{D:Ends}{σ:St}{H:Hp}(Pv:Nat->St->Hp->Prop)(h0:Pv 0 σ H)(hl:∀i σ H,i<=xs.length->Pv i σ H->SqT K H a xs)
  (hs:∀i x σ H,xs[i]?=some x->Pv i σ H->g x σ H fun σ2 H2=>tb {D with nx:=Pv (i+1),ct:=Pv (i+1),bk:=D.nx} σ2 H2)(hd:∀σ H,Pv xs.length σ H->D.nx σ H) :
  ∃W:Nat->Nat->St->Hp->Prop,(∃m,W 0 m σ H)/\∀i m σ H,W i m σ H ->
   ((Itt K a).stop i H/\D.nx σ H)\/((Itt K a).go i H/\∃N:St->Hp->Prop,(∀σ' H',N σ' H'->∃m',m'<m/\W (i+1) m' σ' H')/\∀x H',(Itt K a).yld i H x H'->g x σ H' fun σ2 H2=>tb {D with nx:=N,ct:=N,bk:=D.nx} σ2 H2):=by
 refine⟨fun i m σ H=>m=xs.length-i/\i<=xs.length/\Pv i σ H,⟨xs.length,by simp,Ag _,h0⟩,?_⟩;rintro i m σ H ⟨rfl,hi,p⟩;have q:=hl i σ H hi p;by_cases hlt:i<xs.length
 ·refine .inr ⟨⟨xs,xs[i],q,by simp[hlt]⟩,Pv (i+1),fun σ' H' p'=>⟨xs.length-(i+1),by lia,rfl,hlt,p'⟩,fun x H' y=>?_⟩;obtain⟨e,y⟩:=y;subst e;exact hs i x σ _ (y xs q) p
 ·have e:i=xs.length:=by lia
  subst e;exact .inl ⟨⟨xs,q,zU _⟩,hd σ H p⟩
theorem fD{lo:Int}{n:Nat}{g:TG}{tb:TS}{D:Ends}{σ:St}{H:Hp}(Pv:Nat->St->Hp->Prop)(h0:Pv 0 σ H)
  (hs:∀i σ H,i<n->Pv i σ H->g (.int (lo+i)) σ H fun σ2 H2=>tb {D with nx:=Pv (i+1),ct:=Pv (i+1),bk:=D.nx} σ2 H2)(hd:∀σ H,Pv n σ H->D.nx σ H) :
  ∃W:Nat->Nat->St->Hp->Prop,(∃m,W 0 m σ H)/\∀i m σ H,W i m σ H ->
   ((Itr lo n).stop i H/\D.nx σ H)\/((Itr lo n).go i H/\∃N:St->Hp->Prop,(∀σ' H',N σ' H'->∃m',m'<m/\W (i+1) m' σ' H')/\∀x H',(Itr lo n).yld i H x H'->g x σ H' fun σ2 H2=>tb {D with nx:=N,ct:=N,bk:=D.nx} σ2 H2):=by
 refine⟨fun i m σ H=>m=n-i/\i<=n/\Pv i σ H,⟨n,by simp,Ag _,h0⟩,?_⟩;rintro i m σ H ⟨rfl,hi,p⟩;by_cases hlt:i<n
 ·refine .inr ⟨hlt,Pv (i+1),fun σ' H' p'=>⟨n-(i+1),by lia,rfl,hlt,p'⟩,fun x H' y=>?_⟩;obtain⟨e,y⟩:=y;subst e y;exact hs i σ _ hlt p
 ·have e:i=n:=by lia
  subst e;exact .inl ⟨zU _,hd σ H p⟩
abbrev R2:=V->V->Hp->VK->Prop
def OpR (X:Cx)(f:Value->Value->Sem Value)(r:R2):Prop:=
 ∀(pins:List (Addr×Obj))(s:Shared)(σ:St)(H:Hp)(x y:V)(v u:Value)(Q:VK),Inv X pins σ H s->RelV x v->RelV y u->r x y H Q ->
  (wq X) (f v u) (EP X pins σ Q) X.xe s
def UnR (X:Cx)(f:Value->Sem Value)(r:V->Hp->VK->Prop):Prop:=
 ∀(pins:List (Addr×Obj))(s:Shared)(σ:St)(H:Hp)(x:V)(v:Value)(Q:VK),Inv X pins σ H s->RelV x v->r x H Q ->
  (wq X) (f v) (EP X pins σ Q) X.xe s
def cg (X:Cx)(f:Value)(r:List V->Hp->VK->Prop):Prop:=
 ∀(pins:List (Addr×Obj))(s:Shared)(σ:St)(H:Hp)(xs:List V)(us:List Value)(Q:VK),Inv X pins σ H s->Vals xs us->r xs H Q ->
  (wq X) (call f us) (EP X pins σ Q) X.xe s
def TruR (X:Cx)(r:V->Hp->(Bool->Hp->Prop)->Prop):Prop:=
 ∀(pins:List (Addr×Obj))(s:Shared)(σ:St)(H:Hp)(x:V)(v:Value)(Q:Bool->Hp->Prop),Inv X pins σ H s->RelV x v->r x H Q ->
  (wq X) (truthy v) (TP X pins σ Q) X.xe s
def tOp (r:R2)(ta tb:TE):TE:=fun σ H Q=>ta σ H fun x H1=>tb σ H1 fun y H2=>r x y H2 Q
def tUn (r:V->Hp->VK->Prop)(ta:TE):TE:=fun σ H Q=>ta σ H fun x H1=>r x H1 Q
def rI (C:Int->Int->Prop)(g:Int->Int->V):R2:=fun x y H Q=>∃i j,x=.int i/\y=.int j/\C i j/\Q (g i j) H
def rI0 (g:Int->Int->V):R2:=fun x y H Q=>∃i j,x=.int i/\y=.int j/\Q (g i j) H
def rU (g:Int->V):V->Hp->VK->Prop:=fun x H Q=>∃i,x=.int i/\Q (g i) H
section
variable {X:Cx}{a b c:Expr}{ta tb tc:TE}{pos:Pos}
theorem vE(ha:PE X a ta)(hb:PE X b tb){pins:List (Addr×Obj)}{s:Shared}{σ:St}{H:Hp}{R:V->V->Hp->Prop}(I:Inv X pins σ H s)
  (h:ta σ H fun x H1=>tb σ H1 fun y H2=>R x y H2){Q:Value->Shared->Prop}{f:Value->Value->Sem Value}
  (hf:∀v u s2 x y H2,Inv X pins σ H2 s2->RelV x v->RelV y u->R x y H2->(wq X) (f v u) Q X.xe s2) :
  (wq X) (eval a X.env) (fun v s₁=>(wq X) (eval b X.env) (fun u s₂=>(wq X) (f v u) Q X.xe s₂) X.xe s₁) X.xe s:=by
 refine thn (ha pins s σ H _ I h) fun v s1 hq28=>?_;obtain⟨x,H1,I1,r1,q1⟩:=hq28;refine thn (hb pins s1 σ H1 _ I1 q1) fun u s2 hq29=>?_;obtain⟨y,H2,I2,r2,q2⟩:=hq29;exact hf v u s2 x y H2 I2 r1 r2 q2
theorem aA{op:Operator}{r:R2}(ho:OpR X (binaryOp op) r)(ha:PE X a ta)(hb:PE X b tb):PE X (.BinOp a op b pos) (tOp r ta tb):=by
 intro pins s σ H Q I h;exact wpAny_BinOp (vE ha hb I h fun v u s2 x y H2 I2 rx ry q=>ho pins s2 σ H2 x y v u Q I2 rx ry q)
theorem sq{op:UnaryOp}{r:V->Hp->VK->Prop}(ho:UnR X (unaryOp op) r)(ha:PE X a ta):PE X (.UnaryOp op a pos) (tUn r ta):=by
 intro pins s σ H Q I h;refine UnaryOp_ (thn (ha pins s σ H _ I h) fun v s1 hq30=>?_);obtain⟨x,H1,I1,r1,q1⟩:=hq30;exact ho pins s1 σ H1 x v Q I1 r1 q1
theorem opI{f:Value->Value->Sem Value}{C:Int->Int->Prop}{g:Int->Int->Int}
  (rule:∀(i j:Int)(t u:Tok)(s:Shared)(Q:Value->Shared->Prop)(E:Value->Shared->Prop),C i j->Q (.int (g i j) s.toks) {s with toks:=s.toks+1}->(wq X) (f (.int i t) (.int j u)) Q E s) :
  OpR X f (rI C fun i j=>.int (g i j)):=by
 intro pins s σ H x y v u Q I rx ry h;obtain⟨i,j,rfl,rfl,hc,q⟩:=h;obtain⟨t,rfl⟩:=rx;obtain⟨t',rfl⟩:=ry;exact rule i j t t' s _ _ hc ⟨.int (g i j),H,I.tok _,⟨_,rfl⟩,q⟩
theorem wZ{f:Value->Value->Sem Value}{g:Int->Int->Int}
  (rule:∀(i j:Int)(t u:Tok)(s:Shared)(Q:Value->Shared->Prop)(E:Value->Shared->Prop),Q (.int (g i j) s.toks) {s with toks:=s.toks+1}->(wq X) (f (.int i t) (.int j u)) Q E s) :
  OpR X f (rI0 fun i j=>.int (g i j)):=by
 intro pins s σ H x y v u Q I rx ry h;obtain⟨i,j,rfl,rfl,q⟩:=h;obtain⟨t,rfl⟩:=rx;obtain⟨t',rfl⟩:=ry;exact rule i j t t' s _ _ ⟨.int (g i j),H,I.tok _,⟨_,rfl⟩,q⟩
theorem vA{f:Value->Value->Sem Value}{g:Int->Int->Bool}
  (rule:∀(i j:Int)(t u:Tok)(s:Shared)(Q:Value->Shared->Prop)(E:Value->Shared->Prop),Q (.bool (g i j)) s->(wq X) (f (.int i t) (.int j u)) Q E s) :
  OpR X f (rI0 fun i j=>.bl (g i j)):=by
 intro pins s σ H x y v u Q I rx ry h;obtain⟨i,j,rfl,rfl,q⟩:=h;obtain⟨t,rfl⟩:=rx;obtain⟨t',rfl⟩:=ry;exact rule i j t t' s _ _ ⟨.bl (g i j),H,I,rfl,q⟩
def CDiv (i j:Int):Prop:=0<j/\j<1073741824
def CPow (i j:Int):Prop:=0<=j/\j<=1000000/\i.natAbs<2^64
def JU (i j:Int):Prop:=(-(2^64)<i/\i<2^64)\/(-(2^64)<j/\j<2^64)
theorem JU.ok{i j:Int}(h:JU i j):IntMulOk i j:=by
 rcases h with ⟨h1,h2⟩|⟨h1,h2⟩
 ·exact .of_left (intBits_le_64 h1 h2)
 ·exact .of_right (intBits_le_64 h1 h2)
theorem DV:OpR X (binaryOp .Add) (rI0 fun i j=>.int (i+j)):=wZ fun _ _ _ _ _ _ _ q=>add_int q
theorem ES:OpR X (binaryOp .Sub) (rI0 fun i j=>.int (i-j)):=wZ fun _ _ _ _ _ _ _ q=>sub_int q
theorem Et:OpR X (binaryOp .Mult) (rI JU fun i j=>.int (i*j)):=opI fun _ _ _ _ _ _ _ hc q=>mul_int q hc.ok
theorem GY:OpR X (binaryOp .FloorDiv) (rI CDiv fun i j=>.int (i/j)):=opI fun i j _ _ _ _ _ hc q=>by
 have h1:(0:Int)<j:=hc.1;have h2:j<1073741824:=hc.2;exact floordiv_int (by lia) (by rw[CN i (by lia)];exact q) (.inl (PyProof.noPylong_small (by lia)))
theorem Eu:OpR X (binaryOp .Mod) (rI (fun _ j=>0<j) fun i j=>.int (i % j)):=opI fun i j _ _ _ _ _ hc q=>by
 have h1:(0:Int)<j:=hc;exact mod_int' (by lia) (by rw[Int.fmod_eq_emod_of_nonneg i (by lia)];exact q)
theorem Gz:OpR X (binaryOp .Pow) (rI CPow fun i j=>.int (i^j.toNat)):=opI fun _ _ _ _ _ _ _ hc q=>pow_int_small hc.1 hc.2.1 hc.2.2 q
theorem unI{f:Value->Sem Value}{g:Int->Int}
  (rule:∀(i:Int)(t:Tok)(s:Shared)(Q:Value->Shared->Prop)(E:Value->Shared->Prop),Q (.int (g i) s.toks) {s with toks:=s.toks+1}->(wq X) (f (.int i t)) Q E s) :
  UnR X f (rU fun i=>.int (g i)):=by
 intro pins s σ H x v Q I rx h;obtain⟨i,rfl,q⟩:=h;obtain⟨t,rfl⟩:=rx;exact rule i t s _ _ ⟨.int (g i),H,I.tok _,⟨_,rfl⟩,q⟩
theorem Hb:UnR X (unaryOp .USub) (rU fun i=>.int (-i)):=unI fun _ _ _ _ _ q=>neg_int q
end
def Kr:V->V->Bool
 |.non,.non=>true|.non,.int _=>true|.int _,.non=>true|.non,.bl _=>true|.bl _,.non=>true|.non,.str _=>true|.str _,.non=>true
 |.int _,.int _=>true|.bl _,.bl _=>true|.str _,.str _=>true|.byt _,.byt _=>true
 |.int _,.str _=>true|.str _,.int _=>true|.bl _,.str _=>true|.str _,.bl _=>true
 |_,_=>false
def rEq:R2:=fun x y H Q=>Kr x y=true/\Q (.bl (decide (x=y))) H
def rNe:R2:=fun x y H Q=>Kr x y=true/\Q (.bl (!decide (x=y))) H
theorem gy{i j:Int}:decide (V.int i=V.int j)=(i==j):=by
 rw[Dz];simp
theorem qm{i j:Bool}:decide (V.bl i=V.bl j)=(i==j):=by
 rw[Dz];simp
theorem lU{i j:Str}:decide (V.str i=V.str j)=(i==j):=by
 rw[Dz];simp
theorem oe{i j:Array UInt8}:decide (V.byt i=V.byt j)=(i.toList==j.toList):=by
 rw[Dz];cases i;cases j;simp
section
variable {X:Cx}{a b c:Expr}{ta tb tc:TE}{pos:Pos}
theorem aQ{pins:List (Addr×Obj)}{σ:St}{H:Hp}{s:Shared}{Q:VK}{k k':Bool}(I:Inv X pins σ H s)(q:Q (.bl k) H)(e:k=k'):EP X pins σ Q (.bool k') s:=by
 subst e;exact⟨.bl k,H,I,rfl,q⟩
theorem Fb:OpR X (compareOp .Eq) rEq:=by
 intro pins s σ H x y v u Q I rx ry h;obtain⟨hs,q⟩:=h;cases x with
 |non=>
  cases rx;cases y with
  |non=>cases ry;exact PySem.EqNone.eq_none_none (aQ I q (by simp))
  |bl j=>cases ry;exact PySem.EqNone.eq_none_bool (aQ I q (by simp))
  |int j=>obtain⟨t',rfl⟩:=ry;exact PySem.EqNone.eq_none_int (aQ I q (by simp))
  |str j=>obtain⟨t',rfl⟩:=ry;exact PySem.EqNone.eq_none_str (aQ I q (by simp))
  |_=>exact absurd (show false=true from hs) Ax
 |bl i=>
  cases rx;cases y with
  |non=>cases ry;exact PySem.EqNone.eq_bool_none (aQ I q (by simp))
  |bl j=>cases ry;exact eq_bool (aQ I q qm)
  |str j=>obtain⟨t',rfl⟩:=ry;exact PySem.EqMixed.eq_bool_str (aQ I q (by simp))
  |_=>exact absurd (show false=true from hs) Ax
 |int i=>
  obtain⟨t,rfl⟩:=rx;cases y with
  |non=>cases ry;exact PySem.EqNone.eq_int_none (aQ I q (by simp))
  |int j=>obtain⟨t',rfl⟩:=ry;exact eq_int (aQ I q gy)
  |str j=>obtain⟨t',rfl⟩:=ry;exact PySem.EqMixed.eq_int_str (aQ I q (by simp))
  |_=>exact absurd (show false=true from hs) Ax
 |str i=>
  obtain⟨t,rfl⟩:=rx;cases y with
  |non=>cases ry;exact PySem.EqNone.eq_str_none (aQ I q (by simp))
  |bl j=>cases ry;exact PySem.EqMixed.eq_str_bool (aQ I q (by simp))
  |int j=>obtain⟨t',rfl⟩:=ry;exact PySem.EqMixed.eq_str_int (aQ I q (by simp))
  |str j=>obtain⟨t',rfl⟩:=ry;exact eq_str (aQ I q lU)
  |_=>exact absurd (show false=true from hs) Ax
 |byt i=>
  obtain⟨t,rfl⟩:=rx;cases y with
  |byt j=>obtain⟨t',rfl⟩:=ry;exact W.eq_bytes (aQ I q oe)
  |_=>exact absurd (show false=true from hs) Ax
 |_=>cases y<;>exact absurd (show false=true from hs) Ax
theorem GL:OpR X (compareOp .NotEq) rNe:=by
 intro pins s σ H x y v u Q I rx ry h;obtain⟨hs,q⟩:=h;cases x with
 |non=>
  cases rx;cases y with
  |non=>cases ry;exact PySem.EqNone.ne_none_none (aQ I q (by simp))
  |bl j=>cases ry;exact PySem.EqNone.ne_none_bool (aQ I q (by simp))
  |int j=>obtain⟨t',rfl⟩:=ry;exact PySem.EqNone.ne_none_int (aQ I q (by simp))
  |str j=>obtain⟨t',rfl⟩:=ry;exact PySem.EqNone.ne_none_str (aQ I q (by simp))
  |_=>exact absurd (show false=true from hs) Ax
 |bl i=>
  cases rx;cases y with
  |non=>cases ry;exact PySem.EqNone.ne_bool_none (aQ I q (by simp))
  |bl j=>cases ry;exact ne_bool (aQ I q (congrArg not qm))
  |str j=>obtain⟨t',rfl⟩:=ry;exact PySem.EqMixed.ne_bool_str (aQ I q (by simp))
  |_=>exact absurd (show false=true from hs) Ax
 |int i=>
  obtain⟨t,rfl⟩:=rx;cases y with
  |non=>cases ry;exact PySem.EqNone.ne_int_none (aQ I q (by simp))
  |int j=>obtain⟨t',rfl⟩:=ry;exact ne_int (aQ I q (congrArg not gy))
  |str j=>obtain⟨t',rfl⟩:=ry;exact PySem.EqMixed.ne_int_str (aQ I q (by simp))
  |_=>exact absurd (show false=true from hs) Ax
 |str i=>
  obtain⟨t,rfl⟩:=rx;cases y with
  |non=>cases ry;exact PySem.EqNone.ne_str_none (aQ I q (by simp))
  |bl j=>cases ry;exact PySem.EqMixed.ne_str_bool (aQ I q (by simp))
  |int j=>obtain⟨t',rfl⟩:=ry;exact PySem.EqMixed.ne_str_int (aQ I q (by simp))
  |str j=>obtain⟨t',rfl⟩:=ry;exact ne_str (aQ I q (congrArg not lU))
  |_=>exact absurd (show false=true from hs) Ax
 |byt i=>
  obtain⟨t,rfl⟩:=rx;cases y with
  |byt j=>obtain⟨t',rfl⟩:=ry;exact W.ne_bytes (aQ I q (congrArg not oe))
  |_=>exact absurd (show false=true from hs) Ax
 |_=>cases y<;>exact absurd (show false=true from hs) Ax
theorem HB:OpR X (compareOp .Lt) (rI0 fun i j=>.bl (decide (i<j))):=vA fun _ _ _ _ _ _ _ q=>lt_int q
theorem JJ:OpR X (compareOp .LtE) (rI0 fun i j=>.bl (decide (i<=j))):=vA fun _ _ _ _ _ _ _ q=>le_int q
theorem IG:OpR X (compareOp .Gt) (rI0 fun i j=>.bl (decide (j<i))):=vA fun _ _ _ _ _ _ _ q=>gt_int q
theorem GI:OpR X (compareOp .GtE) (rI0 fun i j=>.bl (decide (j<=i))):=vA fun _ _ _ _ _ _ _ q=>ge_int q
theorem GA:OpR X (compareOp .Is) (fun x y H Q=>y=.non/\Q (.bl (decide (x=.non))) H):=by
 intro pins s σ H x y v u Q I rx ry h;obtain⟨rfl,q⟩:=h;cases ry;refine is_none_gen (aQ I q ?_);cases x<;>first
  |(cases rx;rfl)
  |(obtain⟨t,rfl⟩:=rx;rfl)
theorem EI:OpR X (compareOp .IsNot) (fun x y H Q=>y=.non/\Q (.bl (!decide (x=.non))) H):=by
 intro pins s σ H x y v u Q I rx ry h;obtain⟨rfl,q⟩:=h;cases ry;refine isnot_none_gen (aQ I q ?_);cases x<;>first
  |(cases rx;rfl)
  |(obtain⟨t,rfl⟩:=rx;rfl)
theorem aE(b:Expr){op:CmpOp}(h:op≠.In:=by decide)(h2:op≠.NotIn:=by decide):behindInMarks op b=false:=by
 have e1:(op==CmpOp.In)=false:=by cases op<;>first|rfl|exact absurd rfl h
 have e2:(op==CmpOp.NotIn)=false:=by cases op<;>first|rfl|exact absurd rfl h2
 cases b<;>simp[behindInMarks,e1,e2]
theorem cM{op:CmpOp}{r:R2}(ho:OpR X (compareOp op) r)(ha:PE X a ta)(hb:PE X b tb)(hm:behindInMarks op b=false):PE X (.Compare a [op] [b] pos) (tOp r ta tb):=by
 intro pins s σ H Q I h;exact wpAny_Compare1 (vE ha hb I h fun v u s2 x y H2 I2 rx ry q=>ho pins s2 σ H2 x y v u Q I2 rx ry q) hm
def uO (t:TE):TT:=fun σ H Q=>t σ H fun x H'=>∃k,x=.bl k/\Q k H'
theorem aB{op:CmpOp}{r:R2}(ho:OpR X (compareOp op) r)(ha:PE X a ta)(hb:PE X b tb)(hm:behindInMarks op b=false):PT X (.Compare a [op] [b] pos) (uO (tOp r ta tb)):=by
 intro pins s σ H Q I h
 refine wpAny_isTrue_Compare1 (thn (ha pins s σ H _ I h) fun v s1 ⟨x,H1,I1,r1,q1⟩=>thn (hb pins s1 σ H1 _ I1 q1) fun u s2 ⟨y,H2,I2,r2,q2⟩ =>
  thn (ho pins s2 σ H2 x y v u _ I2 r1 r2 q2) fun c s3 ⟨z,H3,I3,r3,k,e,q3⟩=>?_) hm
 subst e;cases r3;exact wpAny_truthy_bool ⟨H3,I3,q3⟩
def uQ (r r':R2)(ta tb tc:TE):TE:=fun σ H Q=>ta σ H fun x H1=>tb σ H1 fun y H2=>r x y H2 fun z H3=>∃k,z=.bl k /\
 (if k=true then tc σ H3 fun w' H4=>r' y w' H4 Q else Q (.bl false) H3)
theorem ph{op op':CmpOp}{r r':R2}(ho:OpR X (compareOp op) r)(ho':OpR X (compareOp op') r')(ha:PE X a ta)(hb:PE X b tb)(hc:PE X c tc)
  (hm:lastMarks [op,op'] [b,c]=false:=by with_unfolding_all rfl):PT X (.Compare a [op,op'] [b,c] pos) (uO (uQ r r' ta tb tc)):=by
 intro pins s σ H Q I h
 refine isTrue_chain (thn (ha pins s σ H _ I h) fun v s1 ⟨x,H1,I1,r1,q1⟩=>test_link (thn (hb pins s1 σ H1 _ I1 q1) fun u s2 ⟨y,H2,I2,r2,q2⟩ =>
  thn (ho pins s2 σ H2 x y v u _ I2 r1 r2 q2) fun d s3 ⟨z,H3,I3,r3,k,e,q3⟩=>?_)) hm
 subst e;cases r3;refine wpAny_truthy_bool ?_;cases k with
 |false=>
  obtain⟨k',e',q'⟩:=q3;cases e';exact ite_ff ⟨H3,I3,q'⟩
 |true=>
  refine ite_tt (test_last (thn (hc pins s3 σ H3 _ I3 q3) fun w' s4 hq31=>?_));obtain⟨z',H4,I4,r4,q4⟩:=hq31;refine thn (ho' pins s4 σ H4 y z' u w' _ I4 r2 r4 q4) fun d' s5 ⟨z2,H5,I5,r5,k2,e2,q5⟩=>?_;subst e2;cases r5;exact wpAny_truthy_bool ⟨H5,I5,q5⟩
def wX (K:W.Frag)(x:V)(H:Hp)(k:Bool):Prop:=
 match x with
 |.non=>k=false
 |.bl b=>k=b
 |.int i=>k=(i != 0)
 |.str y=>y.length<=sizeLine/\k=((y.length:Int) != 0)
 |.byt y=>y.size<=sizeLine/\k=((y.size:Int) != 0)
 |.ref p=>(∃xs,SqL K H p xs/\k=!xs.isEmpty)\/(∃xs,SqT K H p xs/\k=!xs.isEmpty)\/∃kvs,H p=some (.dK kvs)/\k=!kvs.isEmpty
 |_=>False
theorem lq{κ:Type}{kvs:List (κ×V)}{vs:List (κ×Value)}(r:KV kvs vs):(!vs.isEmpty)=!kvs.isEmpty:=by
 cases r<;>rfl
theorem fX{xs:List V}{its:List Value}(r:Vals xs its):(!its.toArray.isEmpty)=!xs.isEmpty:=by
 cases r<;>simp
theorem EW:(sizeLine:Nat)<2^63:=by rw[sizeLine_eq];decide
theorem IW:TruR X (fun x H Q=>∃k,wX X.K x H k/\Q k H):=by
 intro pins s σ H x v Q I rx h;obtain⟨k,e,q⟩:=h;have hl:=EW;have hs:sizeLine=16777216:=sizeLine_eq;cases x with
 |non=>
  cases rx;have e':k=false:=e;subst e';exact truthy_none ⟨H,I,q⟩
 |bl b=>
  cases rx;have e':k=b:=e;subst e';exact wpAny_truthy_bool ⟨H,I,q⟩
 |int i=>
  obtain⟨t,rfl⟩:=rx;have e':k=(i != 0):=e;subst e';exact PySem.P.truthy_int ⟨H,I,q⟩
 |str y=>
  obtain⟨t,rfl⟩:=rx;obtain⟨hy,e'⟩:y.length<=sizeLine/\k=((y.length:Int) != 0):=e;subst e';exact PySem.P.truthy_str (by lia) ⟨H,I.tok _,q⟩
 |byt y=>
  obtain⟨t,rfl⟩:=rx;obtain⟨hy,e'⟩:y.size<=sizeLine/\k=((y.size:Int) != 0):=e;subst e';exact W.truthy_bytes (by lia) ⟨H,I.tok _,q⟩
 |ref p=>
  cases rx;have e':(∃xs,SqL X.K H p xs/\k=!xs.isEmpty)\/(∃xs,SqT X.K H p xs/\k=!xs.isEmpty)\/∃kvs,H p=some (.dK kvs)/\k=!kvs.isEmpty:=e;rcases e' with ⟨xs,hx,e'⟩|⟨xs,hx,e'⟩|⟨kvs,hx,e'⟩
  ·subst e';obtain⟨its,r,pl,hz⟩:=I.list hx;have hlen:=r.length;exact wpAny_truthy_list pl.isList (by simp only[Aj];lia) ⟨H,I.tok _,by rw[fX r];exact q⟩
  ·subst e';obtain⟨its,r,pl,hz⟩:=I.tuple hx;have hlen:=r.length;exact truthy_tuple pl (by simp only[Aj];lia) ⟨H,I.tok _,by rw[fX r];exact q⟩
  ·subst e';obtain⟨hz,hS,vs,r,m⟩:kvs.length<=sizeLine/\(p==sysModules)=false/\∃vs,KV kvs vs/\s.heap.DictOf (aL X.prog X.w) p vs:=I.hok p _ hx;have hlen:kvs.length=vs.length:=Paired.length r;exact wpAny_truthy_dict hS m (by lia) ⟨H,I.tok _,by rw[lq r];exact q⟩
 |_=>exact(show False from e).elim
theorem pJ(ha:PE X a ta)(he:∀whole,isTrue a X.env whole=(do let v <- whole;standAt a.pos;holding [v] (truthy v))) :
  PT X a (fun σ H Q=>ta σ H fun x H'=>∃k,wX X.K x H' k/\Q k H'):=by
 intro pins s σ H Q I h;refine isTrue_plain (thn (ha pins s σ H _ I h) fun v s1 hq32=>?_) (he _);obtain⟨x,H1,I1,r1,q1⟩:=hq32;exact IW pins s1 σ H1 x v Q I1 r1 q1
theorem EJ:OpR X (binaryOp .Add) (fun x y H Q=>∃i j,x=.str i/\y=.str j/\i.length+j.length<=sizeLine/\Q (.str (i++j)) H):=by
 intro pins s σ H x y v u Q I rx ry h;obtain⟨i,j,rfl,rfl,hz,q⟩:=h;obtain⟨t,rfl⟩:=rx;obtain⟨t',rfl⟩:=ry;exact add_str (fun t' tk=>⟨.str (i++j),H,I.tok _,⟨_,rfl⟩,q⟩) hz
def pj (b:Expr):Prop:=∀o i,subscripted b false o i=operate [o,i] (getItem o i)
theorem jz(ha:PE X a ta)(hb:PE X b tb)(hs:pj b) :
  PE X (.Subscript a b pos) (tOp (fun x y H Q=>∃z i c,x=.str z/\y=.int i/\0<=i/\i<2^63/\i<z.length/\z.cps[i.toNat]?=some c/\Q (.str ⟨#[c]⟩) H) ta tb):=by
 intro pins s σ H Q I h;refine Subscript_ (vE ha hb I h fun v u s2 x y H2 I2 rx ry q=>?_);obtain⟨z,i,c,rfl,rfl,h0,h63,h1,hc,q⟩:=q;obtain⟨t,rfl⟩:=rx;obtain⟨t',rfl⟩:=ry;have e:seqIndex? i z.length=some i.toNat:=PySem.StrLaws.seqIndex_nonneg h0 h1
 exact tail_any (typeIs_str s2 z t) slot_str_getitem.lookup (getItem_str (c:=c) (by
  have e1:decide (i < -(2^63:Int))=false:=De (by lia);have e2:decide (i≥2^63)=false:=De (by lia)
  rw[e1,e2] <;> rfl) (by rw[e]; exact hc) ⟨.str ⟨#[c]⟩,H2,I2.tok _,⟨_,rfl⟩,q⟩) (hs _ _)
theorem dF{x:V}{us:List Value}(r:Vals [x] us):∃u,us=[u]/\RelV x u:=by
 cases r with
 |cons r1 r2=>cases r2;exact⟨_,rfl,r1⟩
theorem qW{x y:V}{us:List Value}(r:Vals [x,y] us):∃u w',us=[u,w']/\RelV x u/\RelV y w':=by
 cases r with
 |cons r1 r2=>
  cases r2 with
  |cons r3 r4=>cases r4;exact⟨_,_,rfl,r1,r3⟩
theorem mU(hc:X.calm=true):cg X (.builtin "max") (fun xs H Q=>∃i j,xs=[.int i,.int j]/\Q (.int (if j>i then j else i)) H):=by
 intro pins s σ H xs us Q I r h;obtain⟨i,j,rfl,q⟩:=h;obtain⟨u,w',rfl,⟨t,rfl⟩,⟨t',rfl⟩⟩:=qW r;refine max_two_ints (I.ok.hd hc) fun h' tk k=>⟨_,H,I.kept k,?_,q⟩
 by_cases hj:j>i
 ·rw[Dc hj,Dc hj];exact⟨_,rfl⟩
 ·rw[CZ hj,CZ hj];exact⟨_,rfl⟩
theorem nX(hc:X.calm=true):cg X (.builtin "min") (fun xs H Q=>∃i j,xs=[.int i,.int j]/\Q (.int (if j<i then j else i)) H):=by
 intro pins s σ H xs us Q I r h;obtain⟨i,j,rfl,q⟩:=h;obtain⟨u,w',rfl,⟨t,rfl⟩,⟨t',rfl⟩⟩:=qW r;refine min_two_ints (I.ok.hd hc) fun h' tk k=>⟨_,H,I.kept k,?_,q⟩
 by_cases hj:j<i
 ·rw[Dc hj,Dc hj];exact⟨_,rfl⟩
 ·rw[CZ hj,CZ hj];exact⟨_,rfl⟩
theorem GZ:cg X (.type "int") (fun xs H Q=>(∃i,xs=[.int i]/\Q (.int i) H)\/∃k,xs=[.bl k]/\Q (.int (if k then 1 else 0)) H):=by
 intro pins s σ H xs us Q I r h;rcases h with ⟨i,rfl,q⟩|⟨k,rfl,q⟩
 ·obtain⟨u,rfl,t,rfl⟩:=dF r;exact call_int_int ⟨.int i,H,I,⟨_,rfl⟩,q⟩
 ·obtain⟨u,rfl,r1⟩:=dF r;cases r1;exact call_int_bool ⟨.int (if k then 1 else 0),H,I.tok _,⟨_,rfl⟩,q⟩
end
structure JR(h:Heap)(x dx C:Addr)(mA:Str->Option Value):Prop where
 obj:h.get? x=some (W.instObj C dx)
 ns:h.Ns1 dx mA
 ne:dx≠x
theorem nv{h:Heap}{dx:Addr}{mA:Str->Option Value}(n:h.Ns1 dx mA):∃od,h.get? dx=some od/\∀name,W.lookIn name od=some (mA name):=by
 obtain⟨o,es,ep,ho,hd,hk,_,hm⟩:=n;refine⟨o,ho,fun name=>?_⟩;have e:=hm name;unfold nsFind findBy at e;rw[<- Array.find?_toList] at e;unfold W.lookIn;rw[hd];dsimp only;split
 ·rename_i y q;rw[q] at e;exact congrArg some e
 ·rename_i q;rw[q] at e;have a:es.toList.any (·.refKey)=false:=by
   rw[Cj];intro y hy;obtain⟨z,t,hkey⟩:=hk y (Ck.mp hy);simp[DictEntry.refKey,hkey]
  have a':¬es.toList.any (·.refKey)=true:=by rw[a];exact Ax
  rw[CZ a'];exact congrArg some e
theorem JR.look{h:Heap}{x dx C:Addr}{mA:Str->Option Value}(I:JR h x dx C mA):∃od,W.InstAt h x (W.instObj C dx) C (some od)/\∀name,W.lookIn name od=some (mA name):=
 let ⟨od,ho,hl⟩:=nv I.ns
 ⟨od,⟨I.obj,rfl,rfl,ho⟩,hl⟩
def wo (f:Str)(v:V):List (Str×V)->List (Str×V)
 |[]=>[(f,v)]
 |(g,x)::r=>if g=f then (g,v)::r else (g,x)::wo f v r
theorem GD.some_of{v:V}{o:Option Value}(r:GD (some v) o):∃u,o=some u/\RelV v u:=by
 cases o with
 |none=>exact(show False from r).elim
 |some u=>exact⟨u,rfl,r⟩
section
variable {P:Program}{w:World}{H H':Hp}{h h':Heap}{a C dx:Addr}{fs fs':List (Str×V)}
theorem qU(hok:HOk P w H h)(e:H a=some (.ins C dx fs)):∃mA,JR h a dx C mA/\(∀f,GD (fs.lookup f) (mA f))/\PySem.Within mA (fs.map (·.1))/\fs.length<=1000/\H dx=some (.own a):=by
 obtain⟨d,z,ne,ob,mA,n,r,q⟩:=(show Eb P w H h a (.ins C dx fs) from hok a _ e)
 exact⟨mA,⟨ob,n,ne⟩,r,q,z,d⟩
end
structure Cls(K:W.Frag)(C:Addr):Prop where
 pg:W.plainGet K C Str.empty=true
 hd:W.hasDictIn K C=true
 po:W.plainOver K C=true
 sa:W.findIn K (.ref C) "__setattr__"=some (some (.builtin "object.__setattr__"))
theorem Cls.get{K:W.Frag}{C:Addr}(c:Cls K C)(f:Str):W.plainGet K C f=true:=c.pg
section
variable {X:Cx}{pins:List (Addr×Obj)}{σ:St}{H:Hp}{s:Shared}{A:Around}{E:Value->Shared->Prop}{Q:Value->Shared->Prop}{c:Value}{b:Bool}
inductive FQ(K:W.Frag)(H:Hp):V->Value->Prop where
 |non:FQ K H .non (.type "NoneType")
 |bl (x:Bool):FQ K H (.bl x) (.type "bool")
 |int (i:Int):FQ K H (.int i) (.type "int")
 |str (x:Str):FQ K H (.str x) (.type "str")
 |flt (x:UInt64):FQ K H (.flt x) (.type "float")
 |lst {a:Addr}{xs:List V} (e:H a=some (.lst xs)):FQ K H (.ref a) (.type "list")
 |frz {a:Addr}{o:Obj}{xs:List V} (e:H a=some (.frz o (.lst xs))):FQ K H (.ref a) (.type "list")
 |tup {a:Addr}{xs:List V} (e:H a=some (.tup xs)):FQ K H (.ref a) (.type "tuple")
 |dK {a:Addr}{kvs:List (Key×V)} (e:H a=some (.dK kvs)):FQ K H (.ref a) (.type "dict")
 |dT {a:Addr}{kvs:List (List Key×V)} (e:H a=some (.dT kvs)):FQ K H (.ref a) (.type "dict")
 |ins {a C dx:Addr}{fs:List (Str×V)} (e:H a=some (.ins C dx fs)) (cl:Cls K C) (ha:W.findIn K (.ref C) "__class__"=some (some (.builtin "object.__class__")))
   (hn:W.specialIn K (.builtin "object.__class__") "__get__"=some (some (.builtin "getset_descriptor.__get__"))) (htk:W.takesIn K (.builtin "object.__class__")=some true)
   (hm:W.mroIn K C (.type "object")=some true):FQ K H (.ref a) (.ref C)
theorem ng{x:V}{u t:Value}(I:Inv X pins σ H s)(rx:RelV x u)(ty:FQ X.K H x t)(e:W.kitOne X.K t c=some b)(h:∀tk,Q (.bool b) {s with toks:=tk}) :
  wpAny (model X.prog X.w) A (call (.builtin "isinstance") [u,c]) Q E s:=by
 cases ty with
 |non=>cases (show u=Value.none from rx);exact W.kia_one W.kitx_none I.kIn True.intro e (fun z=>nomatch z) h
 |bl y=>cases (show u=Value.bool y from rx);exact W.kia_one W.kitx_bool I.kIn True.intro e (fun z=>nomatch z) h
 |int i=>obtain⟨t,q⟩:=(show ∃t,u=Value.int i t from rx);cases q;exact W.kia_one W.kitx_int I.kIn True.intro e (fun z=>nomatch z) h
 |str y=>obtain⟨t,q⟩:=(show ∃t,u=Value.str y t from rx);cases q;exact W.kia_one W.kitx_str I.kIn True.intro e (fun z=>nomatch z) h
 |flt y=>obtain⟨t,q⟩:=(show ∃t,u=Value.float y t from rx);cases q;exact W.kia_one W.kitx_float I.kIn True.intro e (fun z=>nomatch z) h
 |@lst a xs ea=>
  cases (show u=Value.ref a from rx);obtain⟨_,_,n,_,h1⟩:=(show Eb X.prog X.w H s.heap a (.lst xs) from I.hok a _ ea)
  exact W.kia_one W.kitx_list I.kIn ⟨_,h1,rfl⟩ e (fun z=>nomatch z) h
 |@frz a ob xs ea=>
  cases (show u=Value.ref a from rx);obtain⟨_,_,_,n,_,h1⟩:=(show Eb X.prog X.w H s.heap a (.frz ob (.lst xs)) from I.hok a _ ea)
  exact W.kia_one W.kitx_list I.kIn ⟨_,h1,rfl⟩ e (fun z=>nomatch z) h
 |@tup a xs ea=>
  cases (show u=Value.ref a from rx);obtain⟨_,_,_,p⟩:=(show Eb X.prog X.w H s.heap a (.tup xs) from I.hok a _ ea)
  obtain⟨o,h1,h2,_⟩:=p;exact W.kia_one W.kitx_tuple I.kIn ⟨o,h1,h2⟩ e (fun z=>nomatch z) h
 |@dK a kvs ea=>
  cases (show u=Value.ref a from rx);obtain⟨_,_,vs,_,p⟩:=(show Eb X.prog X.w H s.heap a (.dK kvs) from I.hok a _ ea)
  obtain⟨o,es,ep,h1,h2,_⟩:=p;exact W.kia_one W.kitx_dict I.kIn ⟨o,h1,h2.1⟩ e (fun z=>nomatch z) h
 |@dT a kvs ea=>
  cases (show u=Value.ref a from rx);obtain⟨_,_,xs,_,o,es,ep,h1,h2,_⟩:=(show Eb X.prog X.w H s.heap a (.dT kvs) from I.hok a _ ea)
  exact W.kia_one W.kitx_dict I.kIn ⟨o,h1,h2.1⟩ e (fun z=>nomatch z) h
 |@ins a C dx fs ea cl ha hn htk hm=>
  cases (show u=Value.ref a from rx);obtain⟨mA,O,_⟩:=qU I.hok ea;obtain⟨od,J,_⟩:=O.look;exact W.kia_one (W.kitx_own (cl.get _) cl.hd ha hn htk hm) I.kIn J e (fun z=>nomatch z) h
end
structure EG(k:Nat)(A:Around):Prop where
 hd:A.handled=none
 dp:A.depth+3*k+5<recursionLimit
 un:A.units+16*k+200<cLine
theorem EG.mono{j k:Nat}{A:Around}(r:EG k A)(h:j<=k):EG j A:=⟨r.hd,by have:=r.dp;lia,by have:=r.un;lia⟩
theorem EG.deeper{k:Nat}{A:Around}(r:EG (k+1) A)(env:Env):EG k (A.deeper env):=
 ⟨r.hd,by have:=r.dp;show A.depth+1+3*k+5<_;lia,by have:=r.un;show A.units+3+16*k+200<_;lia⟩
theorem EG.in1{k:Nat}{A:Around}(r:EG (k+1) A):EG k A.in1:=
 ⟨r.hd,by have:=r.dp;show A.depth+3*k+5<_;lia,by have:=r.un;show A.units+1+16*k+200<_;lia⟩
theorem EG.depth{k:Nat}{A:Around}(r:EG k A):A.depth<recursionLimit:=by have:=r.dp;lia
theorem EG.units{k:Nat}{A:Around}(r:EG k A):A.units+64<cLine:=by have:=r.un;lia
def Hz:TA:=fun _ H Q=>Q [] H
def fF (ta:TE)(tr:TA):TA:=fun σ H Q=>ta σ H fun x H1=>tr σ H1 fun xs H2=>Q (x::xs) H2
section
variable {X:Cx}{e:Expr}{es:List Expr}{te:TE}{t:TA}{pos:Pos}
theorem DT:PA X [] Hz:=fun _ _ _ _ H Q I h=>Calls.spliced_nil ⟨[],H,I,.nil,h⟩
theorem DJ(ha:PE X e te)(hr:PA X es t)(hs:starEach (e::es) X.env=(false,eval e X.env)::starEach es X.env:=by rfl):PA X (e::es) (fF te t):=by
 intro pos pins s σ H Q I h;rw[hs];show wpAny _ _ (spliced ((false,eval e X.env)::backTo pos (starEach es X.env))) _ _ s;refine Calls.spliced_cons (thn (ha pins s σ H _ I h) fun u s1 hq33=>?_);obtain⟨x,H1,I1,r1,q1⟩:=hq33;refine thn (hr pos pins s1 σ H1 _ I1 q1) fun us s2 hq34=>?_;obtain⟨xs,H2,I2,r2,q2⟩:=hq34;exact⟨x::xs,H2,I2,.cons r1 r2,q2⟩
def tTup (t:TA):TE:=fun σ H Q=>t σ H fun xs H1=>xs.length<=sizeLine/\∀p,H1 p=none->Q (.ref p) (upd H1 p (.tup xs))
def tLst (t:TA):TE:=fun σ H Q=>t σ H fun xs H1=>xs.length<=sizeLine/\∀p,H1 p=none->Q (.ref p) (upd H1 p (.lst xs))
theorem aN{x1}(h:PA X es t):PE X (.Tuple es x1 pos) (tTup t):=by
 intro pins s σ H Q I hq;refine wpAny_Tuple_spliced (thn (h pos pins s σ H _ I hq) fun us s1 hq35=>?_);obtain⟨xs,H1,I1,r,z,q⟩:=hq35;refine⟨by rw[<- r.length];exact z,?_⟩;have hf:H1 s1.heap.objs.size=none:=I1.hok.fresh (zU _);refine⟨.ref s1.heap.objs.size,upd H1 s1.heap.objs.size (.tup xs),I1.laid (t':=s1.toks) (fun b u e=>Dx _ e) (zU _) ?_,rfl,q _ hf⟩;exact⟨z,us,r,⟨_,Dy _ rfl,rfl,_,rfl⟩⟩
theorem aS(h:PA X es t):PE X (.List es pos) (tLst t):=by
 intro pins s σ H Q I hq;refine wpAny_List_spliced (thn (h pos pins s σ H _ I hq) fun us s1 hq36=>?_);obtain⟨xs,H1,I1,r,z,q⟩:=hq36;refine⟨by rw[<- r.length];exact z,?_⟩;have hf:H1 s1.heap.objs.size=none:=I1.hok.fresh (zU _);refine⟨.ref s1.heap.objs.size,upd H1 s1.heap.objs.size (.lst xs),I1.laid (t':=s1.toks) (fun b u e=>Dx _ e) (zU _) ?_,rfl,q _ hf⟩;exact⟨z,us,0,r,Dy _ rfl⟩
end
abbrev Sp:=List V->Hp->VK->XK->Prop
abbrev CXT:=List Env->Hp->Shared->XK->Value->Shared->Prop
structure IS(P:Program)(w:World)(K:W.Frag)(mg:Str->Option Value)(base:Heap)(A:Around)(outer:List Env)(s:Shared)(H:Hp):Prop where
 frames:A.frames=some outer
 mod:Mod K mg base
 bs:∀b o,base.get? b=some o->s.heap.get? b=some o/\H b=none
 bsz:base.objs.size<=s.heap.objs.size
 Gi:s.heap.FunFrames base outer
 frf:∀b∈frs outer,H b=none
 hok:HOk P w H s.heap
 bare:AllBare s.gens
def CE (outer:List Env)(P:Program)(w:World)(H:Hp)(s:Shared)(Q:VK)(u:Value)(s':Shared):Prop:=
 ∃v H',s'.os=s.os/\AllBare s'.gens/\Un (frs outer) [] H H' s.heap s'.heap/\HOk P w H' s'.heap/\RelV v u/\Q v H'
def CR (CX:CXT)(outer:List Env)(P:Program)(w:World)(H:Hp)(s:Shared)(Q:VK)(E:XK)(r:Result)(s':Shared):Prop:=
 match r with
 |.ok (.ret u)=>CE outer P w H s Q u s'
 |.ok _=>False
 |.error e=>CX outer H s E e s'
structure DQ(P:Program)(w:World)(K:W.Frag)(mg:Str->Option Value)(base:Heap)(CX:CXT)(k:Nat)(f:Addr)(fd:FuncData)(ps:List Str)(sp:Sp):Prop where
 len:∀vs H Q E,sp vs H Q E->vs.length=ps.length
 run:∀(A:Around)(outer:List Env)(s:Shared)(H:Hp)(args:Args)(us:List Value)(vs:List V)(Q:VK)(E:XK),EG k A->IS P w K mg base A outer s H->BindsTo s fd args (ps.zip us)->Vals vs us->sp vs H Q E ->
  codeAny (model P w) A (.call (.ref f) args) (CR CX outer P w H s Q E) s
theorem DQ.mono{P:Program}{w:World}{K:W.Frag}{mg:Str->Option Value}{base:Heap}{CX:CXT}{j k:Nat}{f:Addr}{fd:FuncData}{ps:List Str}{sp:Sp}(F:DQ P w K mg base CX j f fd ps sp)(h:j<=k) :
  DQ P w K mg base CX k f fd ps sp:=⟨F.len,fun A outer s H args us vs Q E hr=>F.run A outer s H args us vs Q E (hr.mono h)⟩
theorem IS.in1{P:Program}{w:World}{K:W.Frag}{mg:Str->Option Value}{base:Heap}{A:Around}{outer:List Env}{s:Shared}{H:Hp}(e:IS P w K mg base A outer s H) :
  IS P w K mg base A.in1 outer s H:=⟨e.frames,e.mod,e.bs,e.bsz,e.Gi,e.frf,e.hok,e.bare⟩
section
variable {X:Cx}{pins:List (Addr×Obj)}{σ:St}{H:Hp}{s s':Shared}
theorem Inv.Kx(I:Inv X pins σ H s):IS X.prog X.w X.K X.mg X.base X.A X.stack s H:=
 ⟨I.ok.frames,I.ok.mod,I.bs,Ak I.ok.bsz I.sz,I.stack,I.Fj,I.hok,I.bare⟩
theorem Inv.after{Q:VK}{u:Value}(I:Inv X pins σ H s)(h:CE X.stack X.prog X.w H s Q u s'):EP X pins σ Q u s':=by
 obtain⟨v,H',os,bare,un,hok,r,q⟩:=h;obtain⟨hh,g,d,t,os'⟩:=s';obtain rfl:os'=s.os:=os;exact⟨v,H',I.call (h':=hh) (g':=g) (d':=d) (t':=t) (ch:=[]) un hok bare (fun b z=>absurd z (by simp)),r,q⟩
end
def nG (sp:Sp)(dvs:List V)(E:XK)(t:TA):TE:=fun σ H Q=>t σ H fun vs H1=>sp (vs++dvs) H1 Q E
def Binds(K:W.Frag)(fd:FuncData)(ps:List Str)(ds:List Value):Prop:=
 ∀(s:Shared)(us:List Value),K.In s.heap->(us++ds).length=ps.length->BindsTo s fd ⟨us,[]⟩ (ps.zip (us++ds))
theorem Binds.all{K:W.Frag}{fd:FuncData}{ps:List Str}(h:∀us:List Value,us.length=ps.length->bindArgs fd ⟨us,[]⟩=pure (ps.zip us)):Binds K fd ps []:=fun s us _ hl=>by
 rw[AA] at hl ⊢;exact .of_eq (h us hl)
def lI (CX:CXT)(X:Cx)(E:XK):Prop:=∀(pins:List (Addr×Obj))(σ:St)(H:Hp)(s:Shared)(e:Value)(s':Shared),Inv X pins σ H s->CX X.stack H s E e s'->X.xe e s'
section
variable {X:Cx}{CX:CXT}{k:Nat}{f C:Addr}{fd:FuncData}{ps:List Str}{sp:Sp}{dvs:List V}{ds:List Value}{E:XK}{x m:Str}{p pos apos:Pos}{e o:Expr}{es:List Expr}{ta:TE}{t:TA}
theorem vq{pins:List (Addr×Obj)}{σ:St}{H:Hp}{s:Shared}{Q:VK}{us:List Value}{vs:List V}(F:DQ X.prog X.w X.K X.mg X.base CX k f fd ps sp)(hr:EG k X.A)(hb:Binds X.K fd ps ds)(hd:Vals dvs ds)(hx:lI CX X E)
  (I:Inv X pins σ H s)(r:Vals vs us)(h:sp (vs++dvs) H Q E):(wq X) (call (.ref f) us) (EP X pins σ Q) X.xe s:=by
 have r2:Vals (vs++dvs) (us++ds):=r.append hd;have hl:(us++ds).length=ps.length:=by rw[<- r2.length];exact F.len _ _ _ _ h
 refine wpAny_call (codeAny_mono (F.run X.A X.stack s H ⟨us,[]⟩ (us++ds) (vs++dvs) Q E hr I.Kx (hb s us I.kIn hl) r2 h) fun r s' hq=>?_);cases r with
 |error e=>exact hx pins σ H s e s' I hq
 |ok fl=>
  cases fl with
  |ret u=>exact I.after hq
  |next=>exact False.elim hq
  |brk=>exact False.elim hq
  |cont=>exact False.elim hq
theorem jJ(F:DQ X.prog X.w X.K X.mg X.base CX k f fd ps sp)(hr:EG k X.A)(hg:Gl X x)(hm:X.mg x=some (.ref f))(hk:W.keepIn X.K (.ref f)=true)(hb:Binds X.K fd ps ds)(hd:Vals dvs ds)(hx:lI CX X E)
  (ha:PA X (e::es) t)(hdb:(x==("__debug__":Str))=false:=by decide)(he:starEach (e::es) X.env=(false,eval e X.env)::starEach es X.env:=by rfl)(hpl:(backTo pos (starEach es X.env)).any (·.1)=false:=by rfl) :
  PE X (.Call (.Name x p) (e::es) [] pos) (nG sp dvs E t):=by
 intro pins s σ H Q I h;refine wpAny_Call_Name_kw (mI I hg hm ?_ hdb);refine W.callWith_K (h₀:=X.base) I.ok.mod.kin hk (thn (ha pos pins s σ H _ I h) fun us s1 hq37=>?_) he hpl;obtain⟨vs,H1,I1,r,q⟩:=hq37;refine⟨I1.kIn,?_⟩;exact vq F hr hb hd hx I1 r q
end
def PK (X:Cx)(kws:List Keyword)(t:TA):Prop:=
 ∀(pos:Pos)(pins:List (Addr×Obj))(s:Shared)(σ:St)(H:Hp)(Q:List V->Hp->Prop),Inv X pins σ H s->t σ H Q->(wq X) (evalAll ((backToKw pos (keywordEach kws X.env)).map (·.2))) (AP X pins σ Q) X.xe s
section
variable {X:Cx}{CX:CXT}{k:Nat}{f C:Addr}{fd:FuncData}{ps ks:List Str}{sp:Sp}{E:XK}{x m:Str}{p pos apos kpos:Pos}{e o:Expr}{es:List Expr}{kws:List Keyword}{te ta:TE}{t tk:TA}{nm:Option Str}
theorem Il:PK X [] Hz:=fun _ _ _ _ H Q I h=>wpAny_evalAll_nil ⟨[],H,I,.nil,h⟩
theorem jL(ha:PE X e te)(hr:PK X kws t):PK X (⟨nm,e,kpos⟩::kws) (fF te t):=by
 intro pos pins s σ H Q I h;show wpAny _ _ (evalAll ((do let v <- eval e X.env;standAt pos;pure v)::(backToKw pos (keywordEach kws X.env)).map (·.2))) _ _ s;refine wpAny_evalAll_cons (CU (thn (ha pins s σ H _ I h) fun u s1 hq38=>?_));obtain⟨x,H1,I1,r1,q1⟩:=hq38;refine CU (wpAny_standAt (CV ?_));refine thn (hr pos pins s1 σ H1 _ I1 q1) fun us s2 hq39=>?_;obtain⟨xs,H2,I2,r2,q2⟩:=hq39;exact⟨x::xs,H2,I2,.cons r1 r2,q2⟩
variable {g:List Value->List Value->List Value}{gV:List V->List V->List V}
end
structure DK(N P:List Str)(sc:Scope):Prop where
 kind:sc.kind=.function
 co:sc.isCoroutine=false
 gen:sc.isGenerator=false
 nd:N.Nodup
 pre:N.take P.length=P
 par:∀x∈P,sc.names.lookup x=some .local\/sc.names.lookup x=some .cell
 Jh:∀y∈sc.names,y.2≠.free
theorem iV{kindOf:Str->Option NameKind}{x:Str}:∀{binds:List (Str×Value)}{m:Str->Option Value},(∀v,(x,v)∉binds)->bindL kindOf binds m x=m x
 |[],_,_=>rfl
 |(n,v)::r,m,h=>by
  unfold bindL;rw[iV fun w hw=>h w (Af _ hw)];split
  ·have:x≠n:=by rintro rfl;exact h v zX
   simp[this]
  ·rfl
theorem iP{kindOf:Str->Option NameKind}{x:Str}:∀{binds:List (Str×Value)}{m:Str->Option Value},(∀v,(x,v)∉binds)->bindC kindOf binds m x=m x
 |[],_,_=>rfl
 |(n,v)::r,m,h=>by
  unfold bindC;rw[iP fun w hw=>h w (Af _ hw)];split
  ·rfl
  ·have:x≠n:=by rintro rfl;exact h v zX
   simp[this]
theorem iH{kindOf:Str->Option NameKind}{x:Str}{v:Value}:∀{P:List Str}{vs:List Value}{i:Nat}{m:Str->Option Value},P.Nodup->P[i]?=some x->vs[i]?=some v->kindOf x=some .local ->
  bindL kindOf (P.zip vs) m x=some v
 |[],_,_,_,_,h,_,_=>by simp at h
 |_::_,[],_,_,_,_,h,_=>by simp at h
 |p::P,w::vs,0,m,nd,h1,h2,hk=>by
  simp at h1 h2;subst h1;subst h2;show bindL kindOf ((p,w)::P.zip vs) m p=_;unfold bindL;rw[iV fun v hv=>(Bo.mp nd).1 (Cm hv).1,Dc hk];simp
 |p::P,w::vs,i+1,m,nd,h1,h2,hk=>by
  show bindL kindOf ((p,w)::P.zip vs) m x=_;unfold bindL;exact iH (i:=i) (Bo.mp nd).2 (by simpa using h1) (by simpa using h2) hk
theorem iy{kindOf:Str->Option NameKind}{x:Str}{v:Value}:∀{P:List Str}{vs:List Value}{i:Nat}{m:Str->Option Value},P.Nodup->P[i]?=some x->vs[i]?=some v->kindOf x≠some .local ->
  bindC kindOf (P.zip vs) m x=some v
 |[],_,_,_,_,h,_,_=>by simp at h
 |_::_,[],_,_,_,_,h,_=>by simp at h
 |p::P,w::vs,0,m,nd,h1,h2,hk=>by
  simp at h1 h2;subst h1;subst h2;show bindC kindOf ((p,w)::P.zip vs) m p=_;unfold bindC;rw[iP fun v hv=>(Bo.mp nd).1 (Cm hv).1,CZ hk];simp
 |p::P,w::vs,i+1,m,nd,h1,h2,hk=>by
  show bindC kindOf ((p,w)::P.zip vs) m x=_;unfold bindC;exact iy (i:=i) (Bo.mp nd).2 (by simpa using h1) (by simpa using h2) hk
def start(N:List Str)(vs:List V):St:=vs.map some++List.replicate (N.length-vs.length) none
def bJ (CX:CXT)(P:Program)(w:World)(K:W.Frag)(mg:Str->Option Value)(base:Heap)(N:List Str)(qual:Str)(scope:Scope)(f:Addr)(cd:Value)(A:Around)(outer:List Env)(s:Shared)(H:Hp)(E:XK):Cx where
 prog:=P
 w:=w
 K:=K
 mg:=mg
 base:=base
 A:=A.deeper (envOfC qual scope s.heap.objs.size f cd)
 N:=N
 s₀:=s
 H₀:=H
 env:=envOfC qual scope s.heap.objs.size f cd
 outer:=outer
 stack:=envOfC qual scope s.heap.objs.size f cd::outer
 ex:=[]
 calm:=A.handled.isNone
 fn:=fun _=>true
 pn:=[]
 xe:=fun e s'=>wpAny (model P w) (A.deeper (envOfC qual scope s.heap.objs.size f cd)) (leaving (envOfC qual scope s.heap.objs.size f cd) e) (fun _ s''=>CX outer H s E e s'') (fun e' s''=>CX outer H s E e' s'') s'
theorem ke{sc:Scope}{n:Nat}{x:Str}(h:sc.names.lookup x=some .cell):∃c,(cellsFrom n sc.names []).lookup x=some c:=by
 have q:=W.cellsFrom_some sc.names n [] (.inl h);exact BD.mp q
theorem lJ{CX:CXT}{P:Program}{w:World}{K:W.Frag}{mg:Str->Option Value}{base:Heap}{N ps:List Str}{qual:Str}{scope:Scope}{f:Addr}{cd:Value}{A:Around}{outer:List Env}{s s1:Shared}{H:Hp}{E:XK}{us:List Value}{vs:List V}
  (S:DK N ps scope)(e0:IS P w K mg base A outer s H)(hl:vs.length=ps.length)(r:Vals vs us)
  (x:InCallC s s.heap.objs.size (bindL (envOfC qual scope s.heap.objs.size f cd).kindOf (ps.zip us) fun _=>none) (cellsFrom (s.heap.objs.size+1) scope.names []) (bindC (envOfC qual scope s.heap.objs.size f cd).kindOf (ps.zip us) fun _=>none) s1) :
  Inv (bJ CX P w K mg base N qual scope f cd A outer s H E) [] (start N vs) H s1:=by
 have hpl:ps.length<=N.length:=by have:=congrArg List.length S.pre;rw[Az] at this;lia
 obtain⟨h1,tk,rfl,hk⟩:=x.done;have noA:∀b:Addr,b∉(bJ CX P w K mg base N qual scope f cd A outer s H E).ex:=fun b z=>absurd (show b∈([]:List Addr) from z) (by simp)
 refine⟨⟨e0.mod,S.kind,rfl,rfl,zU _,fun y z c h1 h2=>?_,fun y hy=>?_,fun y c _ h=>?_,fun h=>CO.mp h,Around.frames_deeper e0.frames,.inr ⟨rfl,rfl⟩,fun b z=>absurd z (noA b),e0.bs,e0.bsz,fun b _ _=>noA b,fun b z=>absurd z (noA b),e0.Gi,e0.frf⟩,
  rfl,e0.bare,Un.kept hk,⟨_,x.toInCall.ns,fun i y v h1 h2 h3=>?_⟩,fun y c h=>⟨_,x.cell y c h⟩,e0.hok.fresh (zU _),fun y c h=>?_,fun p hp=>absurd (show p∈([]:List (Addr×Obj)) from hp) (by simp),e0.hok.kept hk,?_⟩
 ·exact name_of_addr x.apart (PySem.mem_of_lookup h1) (PySem.mem_of_lookup h2)
 ·have hy:scope.names.lookup y=some .cell\/scope.names.lookup y=some .free:=hy;rcases hy with hy|hy
  ·exact ke hy
  ·exact absurd rfl (S.Jh _ (PySem.mem_of_lookup hy))
 ·exact AS (x.above y c (PySem.mem_of_lookup h))
 ·have hi:i<vs.length:=by
   unfold start at h2;by_cases hi:i<vs.length
   ·exact hi
   ·rw[Bh (by simpa using hi)] at h2;rw[Co] at h2;split at h2<;>cases h2
  have ha:vs[i]?=some v:=by
   unfold start at h2;rw[BE (by simpa using hi),Ao] at h2;cases e:vs[i]? with
   |none=>rw[e] at h2;cases h2
   |some a=>rw[e] at h2;cases h2;rfl
  obtain⟨u,hu,rv⟩:=r.get ha;have hp:ps[i]?=some y:=by
   rw[<- S.pre,List.getElem?_take_of_lt (by lia)];exact h1
  have ndP:ps.Nodup:=by rw[<- S.pre];exact S.nd.sublist (List.take_sublist _ _)
  refine⟨u,rv,?_⟩;rcases S.par y (Aq hp) with k|k
  ·exact .inl ⟨k,iH ndP hp hu k⟩
  ·obtain⟨c,e⟩:=ke (n:=s.heap.objs.size+1) k;refine .inr ⟨.inl k,c,e,?_⟩;have q:=x.cell y c e;rw[iy ndP hp hu (by show scope.names.lookup y≠_;rw[k];decide)] at q;exact q
 ·exact e0.hok.fresh (AS (x.above y c (PySem.mem_of_lookup h)))
 ·unfold start;show _=N.length;rw[zW,zV,BF];lia
theorem tW{CX:CXT}{P:Program}{w:World}{K:W.Frag}{mg:Str->Option Value}{base:Heap}{k:Nat}{f:Addr}{name qual:Str}{params:Arguments}{body:List Stmt}{scope:Scope}{dV kV doc pm cdv ct oc:Value}{an od:Option Addr}
  {osl:Array (Option Value)}{N ps:List Str}{sp:Sp}(lk:K.lookup f=some ⟨oc,od,.func (W.fnOf name qual params body scope dV kV doc pm an cdv ct),osl⟩)(hcd:W.codeIn K cdv qual=true)(S:DK N ps scope)
  (len:∀vs H Q E,sp vs H Q E->vs.length=ps.length)
  (hbody:∀(A:Around) (outer:List Env) (s:Shared) (H:Hp) (vs:List V) (Q:VK) (E:XK),EG k (A.deeper (envOfC qual scope s.heap.objs.size f cdv))->sp vs H Q E ->
   ∃t,PSs (bJ CX P w K mg base N qual scope f cdv A outer s H E) body t/\t { nx:=fun _ H'=>Q .non H',rt:=Q } (start N vs) H) :
  DQ P w K mg base CX (k+1) f (W.fnOf name qual params body scope dV kV doc pm an cdv ct) ps sp:=by
 refine⟨len,fun A outer s H args us vs Q E hr e0 hb r hsp=>?_⟩;have hl:=len _ _ _ _ hsp;have KX:K.In s.heap:=e0.mod.kin.keeps fun b o e=>(e0.bs b o e).1;have lim:s.heap.NoLimit:=e0.mod.nolimit.keeps fun b o e=>(e0.bs b o e).1;have hkind:∀y∈ps.zip us,scope.names.lookup y.1=some .local\/(scope.names.lookup y.1=some .cell/\((cellsFrom (s.heap.objs.size+1) scope.names []).lookup y.1).isSome=true):=fun⟨n,v⟩ hy=>by
  rcases S.par n (Cm hy).1 with q|q
  ·exact .inl q
  ·exact .inr ⟨q,W.cellsFrom_some _ _ _ (.inl q)⟩
 refine codeAny_call_function hr.depth (KX _ _ lk) rfl S.co S.gen rfl (W.codeRec_of KX hcd) (hb _ _ _ _ ?_);refine wpAny_newFunctionEnv_cells S.kind hkind fun env he s1 x=>?_;subst he;refine⟨lim.keeps x.toInCall.keep,codeAny_func ?_⟩;obtain⟨t,ht,hq⟩:=hbody A outer s H vs Q E (hr.deeper _) hsp;have I:Inv (bJ CX P w K mg base N qual scope f cdv A outer s H E) [] (start N vs) H s1:=lJ S e0 hl r x;refine Df (ht [] s1 (start N vs) H _ I hq) (fun fl s' hs=>?_) fun e s' hs=>hs;have fin:∀{σ':St}{H':Hp}{v:V}{u:Value},Inv (bJ CX P w K mg base N qual scope f cdv A outer s H E) [] σ' H' s'->RelV v u->Q v H'->CE outer P w H s Q u s':=
  fun {σ' H' v u} J rv q=>⟨v,H',J.os,J.bare,J.base,J.hok,rv,q⟩
 cases fl with
 |ret u=>
  obtain⟨v,σ',H',J,rv,q⟩:=hs;exact fin J rv q
 |next=>
  obtain⟨σ',H',J,q⟩:=hs;exact fin (v:=V.non) (u:=Value.none) J rfl q
 |brk=>
  obtain⟨_,_,_,q⟩:=hs;exact False.elim q
 |cont=>
  obtain⟨_,_,_,q⟩:=hs;exact False.elim q
section
variable {X:Cx}{x:Str}{p pos:Pos}{e:Expr}{es:List Expr}{t:TA}{id T:String}{r:List V->Hp->VK->Prop}
def tCB (r:List V->Hp->VK->Prop)(t:TA):TE:=fun σ H Q=>t σ H fun vs H1=>r vs H1 Q
theorem aP(hc:cg X (.builtin id) r)(hg:Gl X x)(hm:X.mg x=none)(hv:bootBuiltins x=some (.builtin id))(ha:PA X (e::es) t)(hn:x≠"__name__":=by decide)(hdb:(x==("__debug__":Str))=false:=by decide)
  (he:starEach (e::es) X.env=(false,eval e X.env)::starEach es X.env:=by rfl)(hpl:(backTo pos (starEach es X.env)).any (·.1)=false:=by rfl):PE X (.Call (.Name x p) (e::es) [] pos) (tCB r t):=by
 intro pins s σ H Q I h;refine wpAny_Call_Name_kw (dv I hg hm hv ?_ hn hdb);refine PyProof.Rows.callWith_builtin1 (thn (ha pos pins s σ H _ I h) fun us s1 hq40=>?_) he hpl;obtain⟨vs,H1,I1,r1,q1⟩:=hq40;exact hc pins s1 σ H1 vs us Q I1 r1 q1
theorem bI(hc:cg X (.type T) r)(hg:Gl X x)(hm:X.mg x=none)(hv:bootBuiltins x=some (.type T))(ha:PA X (e::es) t)(hn:x≠"__name__":=by decide)(hdb:(x==("__debug__":Str))=false:=by decide)
  (he:starEach (e::es) X.env=(false,eval e X.env)::starEach es X.env:=by rfl)(hpl:(backTo pos (starEach es X.env)).any (·.1)=false:=by rfl):PE X (.Call (.Name x p) (e::es) [] pos) (tCB r t):=by
 intro pins s σ H Q I h;refine wpAny_Call_Name_kw (dv I hg hm hv ?_ hn hdb);refine PyProof.Rows.callWith_type1 (thn (ha pos pins s σ H _ I h) fun us s1 hq41=>?_) he hpl;obtain⟨vs,H1,I1,r1,q1⟩:=hq41;exact hc pins s1 σ H1 vs us Q I1 r1 q1
end
end L2
namespace HT
open PySem PyProof.Rows
def lexLt:List Int->List Int->Bool
 |[],[]=>false
 |[],_::_=>true
 |_::_,[]=>false
 |x::xs,y::ys=>if x=y then lexLt xs ys else decide (x<y)
theorem Eh(x y:Int)(xs ys:List Int):lexLt (x::xs) (y::ys)=if x=y then lexLt xs ys else decide (x<y):=rfl
theorem Fs:lexLt [] []=false:=rfl
theorem EZ(y:Int)(ys:List Int):lexLt [] (y::ys)=true:=rfl
theorem EY(x:Int)(xs:List Int):lexLt (x::xs) []=false:=rfl
theorem Gh(A:Around)(s:Shared)(a:Int)(t:Tok)(c:Int)(u:Tok):∃e,SeqAt.EqAt A s (.int a t) (.int c u) e/\(e=true↔a=c):=
 ⟨(a==c),SeqAt.EqAt.int_int a t c u,by simp⟩
theorem ER(A:Around)(s:Shared)(a:Int)(t:Tok)(c:Int)(u:Tok)(prog:Program)(w:World)(E:Value->Shared->Prop)(Q:Value->Shared->Prop)(h:Q (.bool (decide (a<c))) s) :
  wpAny (model prog w) A (richCompare .Lt (.int a t) (.int c u)) Q E s:=
 (PyProof.Rows.lt_int h:wpAny (model prog w) A (compareOp .Lt (.int a t) (.int c u)) Q E s)
section
variable {prog:Program}{w:World}{A:Around}{E:Value->Shared->Prop}{s:Shared}
def sIx (n d:Nat):Option Int->Nat
 |none=>d
 |some v=>if v<0 then (v+(n:Int)).toNat else min v.toNat n
theorem Fu(n d:Nat):sIx n d none=d:=rfl
theorem Gd(n d k:Nat):sIx n d (some (k:Int))=min k n:=by
 show(if (k:Int)<0 then ((k:Int)+(n:Int)).toNat else min (k:Int).toNat n)=min k n;rw[CZ (by lia),AM]
theorem Iz(n d:Nat)(hd:d<=n)(o:Option Int):sIx n d o<=n:=by
 cases o with
 |none=>exact hd
 |some v=>
  show(if v<0 then (v+(n:Int)).toNat else min v.toNat n)<=n;by_cases hv:v<0
  ·rw[Dc hv];lia
  ·rw[CZ hv];exact Nat.min_le_right _ _
end
end HT
namespace L2
open PySem PySem.Spec PyProof.Rows
abbrev TO:=St->Hp->(Option Int->Hp->Prop)->Prop
def PO (X:Cx)(e:Option Expr)(t:TO):Prop:=
 ∀(pins:List (Addr×Obj))(s:Shared)(σ:St)(H:Hp)(Q:Option Int->Hp->Prop),Inv X pins σ H s->t σ H Q ->
  (wq X) (evalPart e X.env) (fun u s'=>∃o H',Inv X pins σ H' s'/\IsPart u o/\Q o H') X.xe s
def IL:TO:=fun _ H Q=>Q none H
def vO (t:TE):TO:=fun σ H Q=>t σ H fun x H1=>∃i,x=.int i/\Q (some i) H1
theorem eD{ns:List Int}:∀{us:List Value},Vals (ns.map V.int) us->IntsAre us ns:=by
 induction ns with
 |nil=>intro us r;rw[BO] at r;cases r;exact .nil
 |cons n ns ih=>
  intro us r;rw[Av] at r;cases r with
  |cons r1 r2=>
   obtain⟨t,e⟩:=r1;subst e;exact .cons n t (ih r2)
section
variable {X:Cx}{e:Expr}{te:TE}{lo hi:Option Expr}{tl th:TO}{pos p2:Pos}
theorem Ea:PO X none IL:=by
 intro pins s σ H Q I h;rw[evalPart_none];exact CV ⟨none,H,I,.none,h⟩
theorem bo(h:PE X e te):PO X (some e) (vO te):=by
 intro pins s σ H Q I hw;rw[evalPart_some];refine thn (h pins s σ H _ I hw) fun u s1 hq42=>?_;obtain⟨x,H1,I1,r1,q1⟩:=hq42;obtain⟨i,rfl,q⟩:=q1;obtain⟨t,rfl⟩:=r1;exact⟨some i,H1,I1,.int i t,q⟩
def SlR (X:Cx)(r:V->Option Int->Option Int->Hp->VK->Prop):Prop:=
 ∀(pins:List (Addr×Obj))(s:Shared)(σ:St)(H:Hp)(x:V)(v vl vu:Value)(lo hi:Option Int)(sl:Addr)(Q:VK),Inv X pins σ H s->RelV x v->s.heap.IsSliceOf sl vl vu .none->IsPart vl lo->IsPart vu hi->r x lo hi H Q ->
  ∃T id,typeLookup (.type T) "__getitem__"=pure (some (.builtin id))/\s.TypeIs v T/\(wq X) (getItem v (.ref sl)) (EP X pins σ Q) X.xe s
def tSl (r:V->Option Int->Option Int->Hp->VK->Prop)(te:TE)(tl th:TO):TE:=fun σ H Q=>te σ H fun x H1=>tl σ H1 fun l H2=>th σ H2 fun u H3=>r x l u H3 Q
theorem aV{r:V->Option Int->Option Int->Hp->VK->Prop}(hr:SlR X r)(he:PE X e te)(hl:PO X lo tl)(hu:PO X hi th):PE X (.Subscript e (.Slice lo hi none p2) pos) (tSl r te tl th):=by
 intro pins s σ H Q I h;refine Subscript_ (thn (he pins s σ H _ I h) fun v s1 hq43=>?_);obtain⟨x,H1,I1,r1,q1⟩:=hq43;refine wpAny_Slice (thn (hl pins s1 σ H1 _ I1 q1) fun vl s2 hq44=>?_);obtain⟨l,H2,I2,pl,q2⟩:=hq44;refine thn (hu pins s2 σ H2 _ I2 q2) fun vu s3 ⟨u,H3,I3,pu,q3⟩=>?_;rw[evalPart_none];refine CV ?_;have I4:Inv X pins σ H3 {s3 with heap:=s3.heap.push {cls:=.type "slice",data:=.fields #[vl,vu,.none]}}:=I3.kept (t':=s3.toks) fun b ob q=>Dx _ q;obtain⟨T,id,hT,ht,hg⟩:=hr pins {s3 with heap:=s3.heap.push {cls:=.type "slice",data:=.fields #[vl,vu,.none]}} σ H3 x v vl vu l u s3.heap.objs.size Q I4 r1 (Heap.IsSliceOf.new ..) pl pu q3;show (wq X) (subscriptTail e (.Slice lo hi none p2) v (.ref s3.heap.objs.size)) (EP X pins σ Q) X.xe {s3 with heap:=s3.heap.push {cls:=.type "slice",data:=.fields #[vl,vu,.none]}};exact tail_any (ops:=[.ref s3.heap.objs.size,v]) ht hT hg (by with_unfolding_all rfl)
def sO (xs:List V)(lo hi:Option Int):List V:=(xs.drop (HT.sIx xs.length 0 lo)).take (HT.sIx xs.length xs.length hi-HT.sIx xs.length 0 lo)
theorem ji(xs:List V)(lo hi:Option Int):(sO xs lo hi).length<=xs.length:=by
 unfold sO;rw[Az,Cp];lia
end
def ixN (n:Nat)(i:Int):Option Nat:=if 0<=i then (if i<n then some i.toNat else none) else if -(n:Int)<=i then some (i+n).toNat else none
def atI {α:Type}(xs:List α)(i:Int):Option α:=(ixN xs.length i).bind fun j=>xs[j]?
theorem lG{n:Nat}{i:Int}{j:Nat}(h:ixN n i=some j):seqIndex? i n=some j/\j<n/\-(n:Int)<=i/\i<n:=by
 unfold ixN at h;by_cases h0:0<=i
 ·rw[Dc h0] at h;by_cases h1:i<n
  ·rw[Dc h1] at h;have e:i.toNat=j:=Dj h;exact⟨by rw[seqIndex_of h0 h1,e],by lia,by lia,h1⟩
  ·rw[CZ h1] at h;cases h
 ·rw[CZ h0] at h;by_cases h1:-(n:Int)<=i
  ·rw[Dc h1] at h;have e:(i+n).toNat=j:=Dj h;exact⟨by rw[seqIndex_neg (by lia) h1,e],by lia,h1,by lia⟩
  ·rw[CZ h1] at h;cases h
theorem jI{α:Type}{xs:List α}{i:Int}{v:α}(h:atI xs i=some v):∃j,seqIndex? i xs.length=some j/\xs[j]?=some v/\j<xs.length/\-(xs.length:Int)<=i/\i<xs.length:=by
 unfold atI at h;cases e:ixN xs.length i with
 |none=>rw[e] at h;cases h
 |some j=>
  rw[e] at h;obtain⟨h1,h2,h3,h4⟩:=lG e;exact⟨j,h1,h,h2,h3,h4⟩
theorem aW{α:Type}{xs:List α}{j:Nat}{v:α}(h:xs[j]?=some v):atI xs (j:Int)=some v:=by
 have hj:j<xs.length:=(Ai.mp h).1;have e:ixN xs.length (j:Int)=some j:=by
  unfold ixN;rw[Dc (by lia),Dc (by lia)];simp
 unfold atI;rw[e];exact h
def rA (b:Expr):Prop:=∀o i,subscripted b false o i=operate [o,i] (getItem o i)
def IxR (X:Cx)(r:R2):Prop:=
 ∀(value slice:Expr)(pins:List (Addr×Obj))(s:Shared)(σ:St)(H:Hp)(x y:V)(v u:Value)(Q:VK),Inv X pins σ H s->RelV x v->RelV y u->r x y H Q ->
  subscripted slice false v u=operate [v,u] (getItem v u)->(wq X) (subscriptTail value slice v u) (EP X pins σ Q) X.xe s
def MtR (X:Cx)(id:String)(r:V->List V->Hp->VK->Prop):Prop:=
 ∀(pins:List (Addr×Obj))(s:Shared)(σ:St)(H:Hp)(x:V)(xs:List V)(v:Value)(us:List Value)(Q:VK),Inv X pins σ H s->RelV x v->Vals xs us->r x xs H Q ->
  (wq X) (call (.builtin id) (v::us)) (EP X pins σ Q) X.xe s
section
variable {X:Cx}{a b:Expr}{ta tb:TE}{pos:Pos}
theorem aK{r:R2}(hr:IxR X r)(ha:PE X a ta)(hb:PE X b tb)(hs:rA b):PE X (.Subscript a b pos) (tOp r ta tb):=by
 intro pins s σ H Q I h;exact Subscript_ (vE ha hb I h fun v u s2 x y H2 I2 rx ry q=>hr a b pins s2 σ H2 x y v u Q I2 rx ry q (hs _ _))
def iQ (K:W.Frag):R2:=fun x y H Q=>∃p xs i v,x=.ref p/\y=.int i/\SqL K H p xs/\atI xs i=some v/\Q v H
def sJ (K:W.Frag):R2:=fun x y H Q=>∃p xs i v,x=.ref p/\y=.int i/\SqT K H p xs/\atI xs i=some v/\Q v H
def rIxS:R2:=fun x y H Q=>∃z i c,x=.str z/\y=.int i/\z.length<=sizeLine/\atI z.cps.toList i=some c/\Q (.str ⟨#[c]⟩) H
theorem DO:IxR X (iQ X.K):=by
 intro value slice pins s σ H x y v u Q I rx ry h hs;obtain⟨p,xs,i,z,rfl,rfl,hq,he,q⟩:=h;cases rx;obtain⟨t,rfl⟩:=ry;obtain⟨its,r,pl,hz⟩:=I.list hq;obtain⟨j,h1,h2,h3,h4,h5⟩:=jI he;obtain⟨w,ew,rw'⟩:=r.get h2;have hl:=r.length;have hn:=EW;have fin:EP X pins σ Q w s:=⟨z,H,I,rw',q⟩
 by_cases h0:0<=i
 ·have hj:i.toNat=j:=by
   rw[seqIndex_of h0 h5] at h1;exact Dj h1
  exact item_listR pl.isList h0 (by lia) (by rw[hj];simpa using ew) fin hs
 ·have hj:(i+(its.toArray.size:Int)).toNat=j:=by
   rw[seqIndex_neg (by lia) h4] at h1;rw[Aj,<- hl];exact Dj h1
  exact subscriptTail_builtinR (x:=w) pl.isList.typeIs slot_list_getitem.lookup
   (wpAny_getItem_list_neg (Q:=fun r s'=>r=w/\EP X pins σ Q r s') pl.isList (by lia) (by rw[Aj]<;>lia) (by lia) (by rw[hj];simpa using ew) ⟨rfl,fin⟩) hs
theorem Ek:IxR X (sJ X.K):=by
 intro value slice pins s σ H x y v u Q I rx ry h hs;obtain⟨p,xs,i,z,rfl,rfl,hq,he,q⟩:=h;cases rx;obtain⟨t,rfl⟩:=ry;obtain⟨its,r,pl,hz⟩:=I.tuple hq;obtain⟨j,h1,h2,h3,h4,h5⟩:=jI he;obtain⟨w,ew,rw'⟩:=r.get h2;have hl:=r.length;have hn:=EW;have fin:EP X pins σ Q w s:=⟨z,H,I,rw',q⟩
 exact subscriptTail_builtinR (x:=w) pl.typeIs slot_tuple_getitem.lookup
  (getItem_tuple (j:=j) (Q:=fun r s'=>r=w/\EP X pins σ Q r s') pl (by lia) (by lia) (by rw[Aj,<- hl];exact h1) (by simpa using ew) ⟨rfl,fin⟩) hs
theorem IY:IxR X rIxS:=by
 intro value slice pins s σ H x y v u Q I rx ry h hs;obtain⟨z,i,c,rfl,rfl,hz,he,q⟩:=h;obtain⟨t,rfl⟩:=rx;obtain⟨t',rfl⟩:=ry;obtain⟨j,h1,h2,h3,h4,h5⟩:=jI he;have hl:z.cps.toList.length=z.length:=by simp[Str.length]
 rw[hl] at h1 h4 h5;have hn:=EW
 exact tail_any (typeIs_str s z t) slot_str_getitem.lookup (getItem_str (c:=c) (by
  have e1:decide (i < -(2^63:Int))=false:=De (by lia);have e2:decide (i≥2^63)=false:=De (by lia)
  rw[e1,e2,Bool.or_false]) (by rw[h1]; simpa using h2) ⟨.str ⟨#[c]⟩,H,I.tok _,⟨_,rfl⟩,q⟩) hs
theorem kJ(its:List Value)(n j:Nat)(u:Value):Obj.mapSeq (·.setIfInBounds j u) {cls:=.type "list",data:=.seq its.toArray n}={cls:=.type "list",data:=.seq (its.set j u).toArray n}:=by
 simp[Obj.mapSeq]
theorem Inv.lst{pins:List (Addr×Obj)}{σ:St}{H:Hp}{s:Shared}{p:Addr}{xs:List V}(I:Inv X pins σ H s)(h:H p=some (.lst xs)) :
  ∃(its:List Value)(n:Nat),Vals xs its/\s.heap.get? p=some {cls:=.type "list",data:=.seq its.toArray n}/\xs.length<=sizeLine:=by
 obtain⟨z,its,n,r,e⟩:=I.hok p _ h;exact⟨its,n,r,e,z⟩
theorem Inv.Jn{pins:List (Addr×Obj)}{σ:St}{H:Hp}{s:Shared}{p:Addr}{xs ys:List V}{its its':List Value}{n n':Nat}{f:Obj->Obj}(I:Inv X pins σ H s)(h:H p=some (.lst xs))
  (ho:s.heap.get? p=some {cls:=.type "list",data:=.seq its.toArray n})(hf:f {cls:=.type "list",data:=.seq its.toArray n}={cls:=.type "list",data:=.seq its'.toArray n'})(r:Vals ys its')(hz:ys.length<=sizeLine)(t:Nat) :
  Inv X pins σ (upd H p (.lst ys)) {s with heap:=s.heap.update p f,toks:=t}:=by
 have e:(s.heap.update p f).get? p=some {cls:=.type "list",data:=.seq its'.toArray n'}:=by
  rw[Heap.get?_update_self f ho (by rw[hf]<;>rfl),hf]
 refine I.write (x:=p) (e:=p) (by rw[h];trivial) (.inl rfl) (fun b u hb q=>(Heap.get?_update_other _ _ (Dw hb)).trans q) ⟨_,e⟩ ?_;exact⟨hz,its',n',r,e⟩
def JT:V->V->V->Hp->(Hp->Prop)->Prop:=fun o i v H Q=>∃p xs k j,o=.ref p/\i=.int k/\H p=some (.lst xs)/\ixN xs.length k=some j/\Q (upd H p (.lst (xs.set j v)))
theorem set_list:wV X JT:=by
 intro pins s σ H o i v ov iv u Q I ro ri rv h;obtain⟨p,xs,k,j,rfl,rfl,hp,hj,q⟩:=h;cases ro;obtain⟨t,rfl⟩:=ri;obtain⟨its,n,r,ho,hz⟩:=I.lst hp;obtain⟨h1,h2,h3,h4⟩:=lG hj;have hl:=r.length;have hn:=EW;have I':Inv X pins σ (upd H p (.lst (xs.set j v))) {s with heap:=s.heap.update p (Obj.mapSeq (·.setIfInBounds j u))}:=
  I.Jn hp ho (kJ its n j u) (r.set rv j) (by rw[List.length_set];exact hz) s.toks
 by_cases h0:0<=k
 ·have hk:k.toNat=j:=by
   rw[seqIndex_of h0 h4] at h1;exact Dj h1
  exact W.ki_setAt ho h0 (by lia) (by rw[Aj,<- hl];exact h4) (by rw[hk];exact⟨_,I',q⟩)
 ·have hk:(k+(its.toArray.size:Int)).toNat=j:=by
   rw[seqIndex_neg (by lia) h3] at h1;rw[Aj,<- hl];exact Dj h1
  exact W.ki_setBack ho (by lia) (by rw[Aj,<- hl];exact h3) (by lia) (by rw[hk];exact⟨_,I',q⟩)
theorem iL(lo hi:Option Int)(n:Nat):(sliceBounds lo hi none n).1=((HT.sIx n 0 lo:Nat):Int)/\(sliceBounds lo hi none n).2.1=((HT.sIx n n hi:Nat):Int)/\(sliceBounds lo hi none n).2.2=1:=by
 refine⟨?_,?_,rfl⟩
 ·cases lo with
  |none=>simp[sliceBounds,HT.sIx]
  |some i=>
   simp only[sliceBounds,HT.sIx,Option.getD_none,show(1:Int)>0 by decide,if_true];by_cases h:i<0
   ·simp only[h,if_true]<;>lia
   ·simp only[h,if_false]<;>lia
 ·cases hi with
  |none=>simp[sliceBounds,HT.sIx]
  |some i=>
   simp only[sliceBounds,HT.sIx,Option.getD_none,show(1:Int)>0 by decide,if_true];by_cases h:i<0
   ·simp only[h,if_true]<;>lia
   ·simp only[h,if_false]<;>lia
theorem gk(its:List Value)(lo hi:Option Int):slicePick its.toArray lo hi none=((its.drop (HT.sIx its.length 0 lo)).take (HT.sIx its.length its.length hi-HT.sIx its.length 0 lo)).toArray:=by
 obtain⟨h1,h2,h3⟩:=iL lo hi its.toArray.size;unfold slicePick;rw[h1,h2,h3];simp only[sliceRange_one,pick_run,Aj]<;>rfl
def rSlL (K:W.Frag):V->Option Int->Option Int->Hp->VK->Prop:=fun x lo hi H Q=>∃a xs,x=.ref a/\SqL K H a xs/\∀p,H p=none->Q (.ref p) (upd H p (.lst (sO xs lo hi)))
theorem IV:SlR X (rSlL X.K):=by
 intro pins s σ H x v vl vu lo hi sl Q I rx hs pl pu h;obtain⟨a,xs,rfl,hx,q⟩:=h;cases rx;obtain⟨its,r,ht,hz⟩:=I.list hx;have hlen:=r.length;refine⟨"list",_,slot_list_getitem.lookup,ht.isList.typeIs,?_⟩;refine wpAny_getItem_list_slice ht.isList hs pl pu .none (by simp) ?_ (by rw[Aj]<;>lia);rw[gk,<- hlen];refine⟨.ref s.heap.objs.size,_,I.laid (t':=s.toks) (o:=.lst (sO xs lo hi)) (fun b ob q=>Dx _ q) (zU _) ?_,rfl,q _ (I.hok.fresh (zU _))⟩;exact⟨Ak (ji xs lo hi) hz,_,0,(r.drop (HT.sIx xs.length 0 lo)).take (HT.sIx xs.length xs.length hi-HT.sIx xs.length 0 lo),Dy _ rfl⟩
def Fm:V->Bool
 |.non=>true
 |.bl _=>true
 |.int _=>true
 |.str _=>true
 |_=>false
def eqV:V->V->Bool
 |.non,.non=>true
 |.bl a,.bl b=>a==b
 |.bl a,.int b=>(if a then 1 else 0)==b
 |.int a,.bl b=>a==(if b then 1 else 0)
 |.int a,.int b=>a==b
 |.str a,.str b=>a==b
 |_,_=>false
theorem tJ{A:Around}{s:Shared}{y x:V}{u v:Value}(ry:RelV y u)(rx:RelV x v)(fy:Fm y=true)(fx:Fm x=true):SeqAt.EqAt A s u v (eqV y x):=by
 cases y with
 |non=>
  cases ry;cases x with
  |non=>cases rx;exact SeqAt.EqAt.same _
  |bl b=>cases rx;exact SeqAt.EqAt.none_bool b
  |int b=>obtain⟨t,rfl⟩:=rx;exact SeqAt.EqAt.none_int b t
  |str b=>obtain⟨t,rfl⟩:=rx;exact SeqAt.EqAt.none_str b t
  |_=>exact absurd (show false=true from fx) Ax
 |bl a=>
  cases ry;cases x with
  |non=>cases rx;exact SeqAt.EqAt.bool_none a
  |bl b=>cases rx;exact SeqAt.EqAt.bool_bool a b
  |int b=>obtain⟨t,rfl⟩:=rx;exact SeqAt.EqAt.bool_int a b t
  |str b=>obtain⟨t,rfl⟩:=rx;exact SeqAt.EqAt.bool_str a b t
  |_=>exact absurd (show false=true from fx) Ax
 |int a=>
  obtain⟨t',rfl⟩:=ry;cases x with
  |non=>cases rx;exact SeqAt.EqAt.int_none a t'
  |bl b=>cases rx;exact SeqAt.EqAt.int_bool a t' b
  |int b=>obtain⟨t,rfl⟩:=rx;exact SeqAt.EqAt.int_int a t' b t
  |str b=>obtain⟨t,rfl⟩:=rx;exact SeqAt.EqAt.int_str a t' b t
  |_=>exact absurd (show false=true from fx) Ax
 |str a=>
  obtain⟨t',rfl⟩:=ry;cases x with
  |non=>cases rx;exact SeqAt.EqAt.str_none a t'
  |bl b=>cases rx;exact SeqAt.EqAt.str_bool a t' b
  |int b=>obtain⟨t,rfl⟩:=rx;exact SeqAt.EqAt.str_int a t' b t
  |str b=>obtain⟨t,rfl⟩:=rx;exact SeqAt.EqAt.str_str a t' b t
  |_=>exact absurd (show false=true from fx) Ax
 |_=>exact absurd (show false=true from fy) Ax
def eqU (x:V)(u:Value):Bool:=match u with
 |.none=>eqV .non x
 |.bool b=>eqV (.bl b) x
 |.int i _=>eqV (.int i) x
 |.str z _=>eqV (.str z) x
 |_=>false
theorem qo{x y:V}{u:Value}(r:RelV y u)(f:Fm y=true):eqU x u=eqV y x:=by
 cases y with
 |non=>cases r;rfl
 |bl b=>cases r;rfl
 |int i=>obtain⟨t,rfl⟩:=r;rfl
 |str z=>obtain⟨t,rfl⟩:=r;rfl
 |_=>exact absurd (show false=true from f) Ax
theorem jx{x:V}:∀{xs:List V}{us:List Value},Vals xs us->xs.all Fm=true->us.any (eqU x)=xs.any fun y=>eqV y x
 |_,_,.nil,_=>rfl
 |y::xs,u::us,.cons r t,f=>by
  rw[List.all_cons,AG] at f;rw[Bp,Bp,qo r f.1,jx t f.2]
theorem gK{A:Around}{s:Shared}{x:V}{v:Value}(rx:RelV x v)(fx:Fm x=true):∀{xs:List V}{us:List Value},Vals xs us->xs.all Fm=true->∀u∈us,SeqAt.EqAt A s u v (eqU x u)
 |_,_,.nil,_=>fun u hu=>by cases hu
 |y::xs,u::us,.cons r t,f=>fun u' hu=>by
  rw[List.all_cons,AG] at f;rcases Ad.mp hu with rfl|hu
  ·rw[qo r f.1];exact tJ r rx f.1 fx
  ·exact gK rx fx t f.2 u' hu
def inV (x:V)(xs:List V):Bool:=xs.any fun y=>eqV y x
def rIn (K:W.Frag)(neg:Bool):R2:=fun x y H Q=>∃p xs,y=.ref p/\(SqL K H p xs\/SqT K H p xs)/\Fm x=true/\xs.all Fm=true/\Q (.bl (if neg then !inV x xs else inV x xs)) H
theorem FH:OpR X (compareOp .NotIn) (rIn X.K true):=by
 intro pins s σ H x y v u Q I rx ry h;obtain⟨p,xs,rfl,hq,fx,fs,q⟩:=h;cases ry;rcases hq with hq|hq
 ·obtain⟨its,r,pl,hz⟩:=I.list hq;refine SeqAt.notIn_listAt (eqU x) pl.isList (fun w hw=>gK rx fx r fs w (by simpa using hw)) ⟨.bl _,H,I,rfl,?_⟩;rw[show its.toArray.any (eqU x)=its.any (eqU x) by simp,jx r fs];exact q
 ·obtain⟨its,r,pl,hz⟩:=I.tuple hq;refine SeqAt.notIn_tupleAt (eqU x) pl (fun w hw=>gK rx fx r fs w (by simpa using hw)) ⟨.bl _,H,I,rfl,?_⟩;rw[show its.toArray.any (eqU x)=its.any (eqU x) by simp,jx r fs];exact q
theorem DP:cg X (.builtin "len") (fun xs H Q=>∃p ys,xs=[.ref p]/\(SqL X.K H p ys\/SqT X.K H p ys)/\Q (.int ys.length) H):=by
 intro pins s σ H xs us Q I r h;obtain⟨p,ys,rfl,hq,q⟩:=h;obtain⟨u,rfl,rx⟩:=dF r;cases rx;have hn:=EW;rcases hq with hq|hq
 ·obtain⟨its,r',pl,hz⟩:=I.list hq;have hlen:=r'.length;exact Calls.call_len_list pl.isList (by simp only[Aj]<;>lia) ⟨.int ys.length,H,I.tok _,⟨s.toks+1,by rw[Aj,hlen]⟩,q⟩
 ·obtain⟨its,r',pl,hz⟩:=I.tuple hq;have hlen:=r'.length;exact len_tuple pl (by simp only[Aj]<;>lia) ⟨.int ys.length,H,I.tok _,⟨s.toks+1,by rw[Aj,hlen]⟩,q⟩
theorem DM:cg X (.builtin "len") (fun xs H Q=>∃z,xs=[.str z]/\z.length<=sizeLine/\Q (.int z.length) H):=by
 intro pins s σ H xs us Q I r h;obtain⟨z,rfl,hz,q⟩:=h;obtain⟨u,rfl,t,rfl⟩:=dF r;have hn:=EW;exact len_str (by lia) ⟨.int z.length,H,I.tok _,⟨_,rfl⟩,q⟩
theorem Ed:cg X (.type "list") (fun xs H Q=>∃p ys,xs=[.ref p]/\(SqL X.K H p ys\/SqT X.K H p ys)/\∀l,H l=none->Q (.ref l) (upd H l (.lst ys))):=by
 intro pins s σ H xs us Q I r h;obtain⟨p,ys,rfl,hq,q⟩:=h;obtain⟨u,rfl,rx⟩:=dF r;cases rx;have fin:∀(its:List Value),Vals ys its->ys.length<=sizeLine->∀(h':Heap)(c':Nat),(∀b o',s.heap.get? b=some o'->h'.get? b=some o') ->
   h'.get? s.heap.objs.size=some {cls:=.type "list",dict:=none,data:=.seq its.toArray c',slots:=#[]}->EP X pins σ Q (.ref s.heap.objs.size) {s with heap:=h'}:=fun its r' hz h' c' kp e=>
  ⟨.ref s.heap.objs.size,_,I.laid (t':=s.toks) kp (zU _) (show Eb X.prog X.w _ h' _ (.lst ys) from⟨hz,its,c',r',e⟩),rfl,q _ (I.hok.fresh (zU _))⟩
 rcases hq with hq|hq
 ·obtain⟨its,r',pl,hz⟩:=I.list hq;have hlen:=r'.length;obtain⟨o,ho,hc,n,hd⟩:=pl.isList;exact call_list_seq p (.inl rfl) ho hc hd (fun h' c' kp e=>fin its r' hz h' c' kp e) (by simp only[Aj]<;>lia)
 ·obtain⟨its,r',pl,hz⟩:=I.tuple hq;have hlen:=r'.length;obtain⟨o,ho,hc,n,hd⟩:=pl;exact call_list_seq p (.inr rfl) ho hc hd (fun h' c' kp e=>fin its r' hz h' c' kp e) (by simp only[Aj]<;>lia)
theorem Fv:cg X (.type "tuple") (fun xs H Q=>∃p ys,xs=[.ref p]/\((SqL X.K H p ys/\∀l,H l=none->Q (.ref l) (upd H l (.tup ys)))\/(SqT X.K H p ys/\Q (.ref p) H))):=by
 intro pins s σ H xs us Q I r h;obtain⟨p,ys,rfl,h⟩:=h;obtain⟨u,rfl,rx⟩:=dF r;cases rx;rcases h with ⟨hq,q⟩|⟨hq,q⟩
 ·obtain⟨its,r',pl,hz⟩:=I.list hq;have hlen:=r'.length;refine call_tuple_list pl.isList (fun h' kp=>?_) (by simp only[Aj]<;>lia);have I1:Inv X pins σ H {s with heap:=h'}:=I.kept (t':=s.toks) kp;have I2:Inv X pins σ (upd H h'.objs.size (.tup ys)) {s with heap:=h'.push {cls:=.type "tuple",data:=.seq its.toArray}}:=
   I1.laid (t':=s.toks) (fun b o e=>Dx _ e) (zU _) (show Eb X.prog X.w _ _ _ (.tup ys) from⟨hz,its,r',IsTup.new _ _⟩)
  exact⟨.ref h'.objs.size,_,I2,rfl,q _ (I1.hok.fresh (zU _))⟩
 ·obtain⟨its,r',pl,hz⟩:=I.tuple hq;exact call_tuple_same pl ⟨.ref p,H,I,rfl,q⟩
def tyV (K:W.Frag)(T:String)(x:V)(H:Hp):Prop:=match x with
 |.str _=>T="str"
 |.int _=>T="int"
 |.ref p=>(T="list"/\∃xs,SqL K H p xs)\/(T="tuple"/\∃o,K.lookup p=some o/\o.cls=.type "tuple"/\o.dict=none) \/
   (T="dict"/\((∃kvs,H p=some (.dK kvs))\/∃kvs,H p=some (.dT kvs)))\/(T="set"/\∃S n,H p=some (.set S n))
 |_=>False
theorem tP{pins:List (Addr×Obj)}{σ:St}{H:Hp}{s:Shared}{T:String}{x:V}{v:Value}(I:Inv X pins σ H s)(r:RelV x v)(ty:tyV X.K T x H) :
  s.TypeIs v T/\∀a,v=.ref a->∃ob,s.heap.get? a=some ob/\ob.dict=none:=by
 cases x with
 |str z=>
  obtain⟨t,rfl⟩:=r;cases (show T="str" from ty);exact⟨typeIs_str s z t,fun _ e=>nomatch e⟩
 |int i=>
  obtain⟨t,rfl⟩:=r;cases (show T="int" from ty);exact⟨typeIs_int s i t,fun _ e=>nomatch e⟩
 |ref p=>
  cases r;rcases ty with ⟨rfl,xs,hq⟩|⟨rfl,o,hk,hc,hd⟩|⟨rfl,hk⟩|⟨rfl,S,n,hk⟩
  ·obtain⟨its,_,pl,_⟩:=I.list hq;refine⟨pl.isList.typeIs,fun a e=>?_⟩;cases e;obtain⟨o,n,e,c,hd,_⟩:=pl;exact⟨o,e,hd⟩
  ·refine⟨⟨o,I.kIn p o hk,hc⟩,fun a e=>?_⟩;cases e;exact⟨o,I.kIn _ o hk,hd⟩
  ·have z:∃o,s.heap.get? p=some o/\o.ExactDict:=by
    rcases hk with ⟨kvs,hk⟩|⟨kvs,hk⟩
    ·obtain⟨_,_,_,_,o,_,_,e,ex,_⟩:=I.hok p _ hk;exact⟨o,e,ex⟩
    ·obtain⟨_,_,_,_,o,_,_,e,ex,_⟩:=I.hok p _ hk;exact⟨o,e,ex⟩
   obtain⟨o,e,ex⟩:=z;refine⟨⟨o,e,ex.1⟩,fun a e2=>?_⟩;cases e2;exact⟨o,e,ex.2.1⟩
  ·obtain⟨o,_,_,_,e,ex,_⟩:=I.hok p _ hk;refine⟨⟨o,e,ex.1⟩,fun a e2=>?_⟩;cases e2;exact⟨o,e,ex.2.1⟩
 |_=>exact False.elim ty
def tBM (K:W.Frag)(T:String)(r:V->List V->Hp->VK->Prop)(to:TE)(t:TA):TE:=fun σ H Q=>to σ H fun x H1=>tyV K T x H1/\t σ H1 fun xs H2=>r x xs H2 Q
variable {o e:Expr}{es:List Expr}{to:TE}{t:TA}{name:Str}{apos cpos:Pos}{T id:String}{r:V->List V->Hp->VK->Prop}
theorem gu(pa:PlainAttrs T)(slot:Slot T name id)(hty:typeOf (.builtin id)=pure (.type "method_descriptor"))(hm:MtR X id r)(ho:PE X o to)(ha:PA X (e::es) t)
  (hbase:attributeBase o name X.env (eval o X.env)=eval o X.env:=by rfl)
  (hfew:((backTo cpos (starEach (e::es) X.env)).all (fun x=>!x.1) && (backToKw cpos (keywordEach [] X.env)).all (fun x=>x.1.isSome)
   && decide ((e::es).length+([]:List Keyword).length+(if ([]:List Keyword).isEmpty then 0 else 1) < 30))=true:=by rfl)
  (hline:(apos.endLine==cpos.line)=true:=by rfl) (hs:starEach (e::es) X.env=(false,eval e X.env)::starEach es X.env:=by rfl) (hplain:(backTo cpos (starEach es X.env)).any (·.1)=false:=by rfl) :
  PE X (.Call (.Attribute o name apos) (e::es) [] cpos) (tBM X.K T r to t):=by
 intro pins s σ H Q I h;refine wpAny_Call_method_late hbase hfew hline rfl (thn (ho pins s σ H _ I h) fun v s1 hq45=>?_);obtain⟨x,H1,I1,r1,ty,q1⟩:=hq45;obtain⟨h1,h2⟩:=tP I1 r1 ty;refine⟨T,id,pa,slot,hty,h1,h2,?_⟩;have hA:=ha cpos pins s1 σ H1 _ I1 q1;rw[hs] at hA ⊢;refine Calls.callWith_builtin (by show(false||(backTo cpos (starEach es X.env)).any (·.1))=false;rw[hplain]<;>rfl) (Calls.evalArgs_plain ?_);refine thn hA fun us s2 hq46=>?_;obtain⟨vs,H2,I2,r2,q2⟩:=hq46;exact hm pins s2 σ H2 x vs v us Q I2 r1 r2 q2
end
def MtM (X:Cx)(id:String)(r:V->List V->Hp->VK->Prop):Prop:=
 ∀(pins:List (Addr×Obj))(s:Shared)(σ:St)(H:Hp)(x:V)(xs:List V)(v:Value)(us:List Value)(Q:VK),Inv X pins σ H s->RelV x v->Vals xs us->r x xs H Q ->
  (wq X) (call (.builtin id) (v::us)) (EP X pins σ Q) X.xe s
theorem Vals.one:∀{x:V}{us:List Value},Vals [x] us->∃u,us=[u]/\RelV x u
 |_,_,.cons r .nil=>⟨_,rfl,r⟩
theorem Vals.eraseIdx:∀{xs:List V}{us:List Value}(i:Nat),Vals xs us->Vals (xs.eraseIdx i) (us.eraseIdx i)
 |_,_,_,.nil=>.nil
 |_,_,0,.cons _ t=>t
 |_,_,i+1,.cons r t=>.cons r (Vals.eraseIdx i t)
theorem iI{α:Type}:∀(l:List α)(i:Nat),(l.eraseIdx i).length<=l.length
 |[],_=>zU _
 |_::_,0=>AH _
 |_::r,i+1=>DA (iI r i)
section
variable {X:Cx}{pins:List (Addr×Obj)}{σ:St}{H:Hp}{s:Shared}{l b:Addr}{xs ys zs:List V}
theorem Inv.Ko{its its':List Value}{n:Nat}{f:Array Value->Array Value}{t':Nat}(I:Inv X pins σ H s)(hH:H l=some (.lst xs))
  (e:s.heap.get? l=some {cls:=.type "list",data:=.seq its.toArray n})(hf:f its.toArray=its'.toArray)(hv:Vals ys its')(hz:ys.length<=sizeLine) :
  Inv X pins σ (upd H l (.lst ys)) {s with heap:=s.heap.update l (Obj.mapSeq f),toks:=t'}:=by
 have q:=PySem.IsL.update e f;rw[hf] at q;refine I.write (x:=l) (e:=l) (by rw[hH];exact trivial) (.inl rfl) (fun b' u hb hu=>(Heap.get?_update_other s.heap (Obj.mapSeq f) (Dw hb)).trans hu) ⟨_,q⟩ ?_;exact⟨hz,its',_,hv,q⟩
theorem Inv.lnew{its:List Value}{t':Nat}(I:Inv X pins σ H s)(hv:Vals ys its)(hz:ys.length<=sizeLine) :
  Inv X pins σ (upd H s.heap.objs.size (.lst ys)) {s with heap:=s.heap.push {cls:=.type "list",data:=.seq its.toArray},toks:=t'}:=
 I.laid (fun _ _ q=>Dx _ q) (zU _) ⟨hz,its,0,hv,Dy _ rfl⟩
theorem Inv.fresh(I:Inv X pins σ H s):H s.heap.objs.size=none:=I.hok.fresh (zU _)
theorem Inv.HD(I:Inv X pins σ H s)(hH:H l=some (.lst xs)):xs.length<=sizeLine/\∃(its:List Value)(n:Nat),Vals xs its/\xs.length=its.length/\s.heap.get? l=some {cls:=.type "list",data:=.seq its.toArray n}:=by
 obtain⟨z,its,n,r,e⟩:=I.hok l _ hH;exact⟨z,its,n,r,r.length,e⟩
end
section
variable {X:Cx}
def Hg:V->List V->Hp->VK->Prop:=fun x vs H Q=>∃l xs y,x=.ref l/\vs=[y]/\H l=some (.lst xs)/\xs.length<sizeLine/\Q .non (upd H l (.lst (xs++[y])))
theorem FI:MtM X "list.append" Hg:=by
 intro pins s σ H x vs v us Q I rx rv h;obtain⟨l,xs,y,rfl,rfl,hH,hz,q⟩:=h;cases rx;obtain⟨u,rfl,ru⟩:=rv.one;obtain⟨z,its,n,r,hl,e⟩:=I.HD hH;refine call_meets F.slot_list_append ⟨_,e,rfl⟩ F.entry_list_append (F.args_list_append_2 _ _) (PySem.list_append l its.toArray n u (by rw[Aj];lia)) ⟨e,?_⟩;refine⟨.non,_,I.Ko (its':=its++[u]) hH e (by simp) (r.append (.cons ru .nil)) ?_,rfl,q⟩;rw[zW,List.length_singleton];lia
def IZ:V->List V->Hp->VK->Prop:=fun x vs H Q=>∃l xs i k y,x=.ref l/\vs=[.int i]/\H l=some (.lst xs)/\-(2^63)<=i/\i<2^63/\seqIndex? i xs.length=some k/\xs[k]?=some y/\Q y (upd H l (.lst (xs.eraseIdx k)))
theorem HJ:MtM X "list.pop" IZ:=by
 intro pins s σ H x vs v us Q I rx rv h;obtain⟨l,xs,i,k,y,rfl,rfl,hH,h1,h2,hk,hy,q⟩:=h;cases rx;obtain⟨u,rfl,ru⟩:=rv.one;obtain⟨t,rfl⟩:=ru;obtain⟨z,its,n,r,hl,e⟩:=I.HD hH;obtain⟨w,hw,rw'⟩:=r.get hy;refine call_meets F.slot_list_pop ⟨_,e,rfl⟩ F.entry_list_pop (F.args_list_pop_2 _ _)
  (MeetsSeq.list_pop_at l its.toArray n i t k w (fitsIndex_both h1 h2) (by rw[Aj,<- hl];exact hk) (by rw[<- AO];exact hw) (by rw[Aj];lia)) ⟨e,?_⟩
 refine⟨y,_,I.Ko (its':=its.eraseIdx k) hH e ?_ (r.eraseIdx k) ?_,rw',q⟩
 ·show its.toArray.eraseIdxIfInBounds k=(its.eraseIdx k).toArray;rw[List.eraseIdxIfInBounds_toArray]
 ·have:=iI xs k;lia
def rCat:R2:=fun x y H Q=>∃l b xs zs,x=.ref l/\y=.ref b/\H l=some (.lst xs)/\H b=some (.lst zs)/\xs.length+zs.length<=sizeLine/\∀p,H p=none->Q (.ref p) (upd H p (.lst (xs++zs)))
theorem Ff:OpR X (binaryOp .Add) rCat:=by
 intro pins s σ H x y v u Q I rx ry h;obtain⟨l,b,xs,zs,rfl,rfl,hH,hB,hz,q⟩:=h;cases rx;cases ry;obtain⟨z,its,n,r,hl,e⟩:=I.HD hH;obtain⟨z2,its2,n2,r2,hl2,e2⟩:=I.HD hB;refine PySem.P.add_list e e2 ?_ (by rw[Aj,Aj];lia);have ea:its.toArray++its2.toArray=(its++its2).toArray:=by simp
 rw[ea];exact⟨.ref _,_,I.lnew (t':=s.toks) (r.append r2) (by rw[zW];lia),rfl,q _ I.fresh⟩
end
end L2
namespace Att
open PySem PySem.W PySem.Calls PyProof.Rows
theorem fv{P:Params}{h:Heap}:∀(ns:List Int)(vs:List Value),WellAll P h vs (ns.map WData.int)->IntsAre vs ns:=by
 intro ns;induction ns with
 |nil=>
  intro vs w;rw[BO] at w;cases w;exact .nil
 |cons n ns ih=>
  intro vs w;rw[Av] at w;cases w with
  |cons a b=>
   cases a;exact .cons _ _ (ih _ b)
theorem mB{l:OpenLaw}{n:Nat}(hn:l.most=some n){P:Params}{h:Heap}{args:List WData}{vals:List Value}
  (hpre:l.row.toRowW.claim.pre args=true)(hwl:WellAll P h vals args) :
  ∃a vs ns,vals=[Value.ref a]/\args=[WData.list (ns.map WData.int)]/\h.get? a=some {cls:=.type "list",data:=.seq vs.toArray}/\IntsAre vs ns/\ns.length<=n:=by
 have hsh:WShape.hasAll [] args [.list .int]=true:=(pre_splitW hpre).1;have hc:l.pre.holds [] {args:=args}=true:=(pre_splitW hpre).2;obtain⟨d,r,rfl,h1,h2⟩:=hasAllW_cons hsh;obtain rfl:=hasAllW_nil h2;obtain⟨xs,rfl,h3⟩:=hasW_list h1;obtain⟨ns,rfl⟩:=items_int h3;have hlen:ns.length<=n:=by
  unfold OpenLaw.pre at hc;have h4:(WTm.not (.lt (.lit (.int (n:Int))) (.len (.arg 0)))).holds [] {args:=[.list (ns.map .int)]}=true:=by
   have h4:=(holds_andW hc).1;rw[hn] at h4;exact h4
  have h5:=condW_of h4 (w_not (w_lt w_lit (w_len_list (w_arg rfl))));rw[zV] at h5;refine Cq fun q=>?_;have q':(n:Int)<((ns.length:Nat):Int):=by lia
  first
   |(rw[Dd q'] at h5;exact absurd h5 (by decide))
   |(simp at h5;lia)
 cases hwl with
 |cons w1 w2=>
  cases w2;cases w1 with
  |list ho hall=>exact⟨_,_,ns,rfl,rfl,ho,fv ns _ hall,hlen⟩
theorem lF(l:OpenLaw)(args:List WData):l.row.toRowW.claim.post args (.bool true) args=true:=
 postW_of (r:=l.row.toRowW) (X:=(true==true))
  (show WShape.has [] (.bool true) .bool=true by first|rfl|decide|simp[WShape.has,WShape.arms,WShape.armsAll])
  (show(WTm.eq .res (.lit (.bool true))).value [] {args:=args,res:=some (.bool true),after:=args}=some (.bool (true==true)) from w_eq_bool (w_res rfl) w_lit) rfl
theorem FU{l:OpenLaw}{n:Nat}{q:Program}{loose:List Str}{XP:(Str->Option Value)->Heap->Prop}{YP:World->Heap->Prop}{d:DefRec}
  (hn:l.most=some n)(hdf:d.params.defaults=[])
  (call:∀(w:World) (s₀ s₁:Shared) (mg mb:Str->Option Value) (fa:Addr) (o:Obj) (pm cd doc:Value) (a:Addr) (vs:List Value) (ns:List Int),
   Ground q loose [] XP w s₀ mg mb s₁.heap->YP w s₁.heap ->
   s₁.heap.get? fa=some o->o.data=.func (docDef d.name d.params d.body d.scope pm cd doc)->s₁.heap.CodeRec cd d.name->mg d.name=some (.ref fa) ->
   s₁.heap.get? a=some {cls:=.type "list",data:=.seq vs.toArray}->IntsAre vs ns->ns.length<=n->s₁.gens=#[] ->
   codeAny (model l.prog w) callerA (.call (.ref fa) ⟨[.ref a],[]⟩) (fun r s'=>r=.ok (.ret (.bool true))/\OldK s₁.heap s'.heap/\s'.os=s₁.os/\AllBare s'.gens) s₁) :
  WalkO q loose XP YP l.row.toRowW d [] (fun f vs=>PySem.call f vs):=by
 intro w s₀ s₁ mg mb G Y fa o pm cd doc dV kV ho hd hcd hD hmg hg args vals as hpre hlay hrd hwl hlo;obtain rfl:dV=.none:=Dflts.none hD hdf;obtain rfl:kV=.none:=Dflts.noKw hD;obtain⟨a,vs,ns,rfl,rfl,hobj,hints,hlen⟩:=mB hn hpre hwl;refine enter_call (codeAny_mono (call w s₀ s₁ mg mb fa o pm cd doc a vs ns G Y ho (fd_plain hd) hcd hmg hobj hints hlen hg) fun r s' hq=>?_);obtain⟨rfl,h2,h3,h4⟩:=hq;exact⟨.inl ⟨.bool true,.bool true,[],rfl,fun _=>rfl,.bool true,lF l _,fun _=>⟨List.Pairwise.nil,fun _ hm=>(nomatch hm)⟩⟩,h2,h3,h4⟩
end Att
namespace L2
open PySem PySem.Spec PyProof.Rows
theorem FC:∀{vs:List Value}{ns:List Int},IntsAre vs ns->Vals (ns.map V.int) vs
 |_,_,.nil=>.nil
 |_,_,.cons n t h=>.cons ⟨t,rfl⟩ (FC h)
def bW (s:Stmt):Arguments:=match s with
 |.FunctionDef _ a _ _ _ _ _ _ _ _=>a
 |_=>{posonlyargs:=[],args:=[],vararg:=none,kwonlyargs:=[],kw_defaults:=[],kwarg:=none,defaults:=[]}
def bA (s:Stmt):List Stmt:=match s with
 |.FunctionDef _ _ b _ _ _ _ _ _ _=>b
 |_=>[]
def aq (s:Stmt):Scope:=match s with
 |.FunctionDef _ _ _ _ _ _ sc _ _ _=>sc
 |_=>{kind:=.function,names:=[],isGenerator:=false,isCoroutine:=false}
abbrev CX0:CXT:=fun _ _ _ _ _ _=>False
abbrev E0:XK:=fun _ _ _=>False
theorem qT{X:Cx}:lI CX0 X E0:=fun _ _ _ _ _ _ _ h=>h.elim
structure Fun(K:W.Frag)(x qual:Str)(st:Stmt)(f:Addr)(fd:FuncData):Prop where
 ex:∃(oc:Value)(od:Option Addr)(kV doc pm:Value)(an:Option Addr)(cdv ct:Value)(osl:Array (Option Value)),
  fd=W.fnOf x qual (bW st) (bA st) (aq st) .none kV doc pm an cdv ct/\K.lookup f=some ⟨oc,od,.func fd,osl⟩/\W.codeIn K cdv qual=true
 kp:W.keepIn K (.ref f)=true
section
variable {P:Program}{w:World}{K:PySem.W.Frag}{mg:Str->Option Value}{base:Heap}
theorem Fun.ok{x qual:Str}{st:Stmt}{f:Addr}{fd:FuncData}{N ps:List Str}{k:Nat}{sp:Sp}(F:Fun K x qual st f fd)(S:DK N ps (aq st))(len:∀vs H Q E,sp vs H Q E->vs.length=ps.length)
  (hbody:∀(cdv:Value) (A:Around) (outer:List Env) (s:Shared) (H:Hp) (vs:List V) (Q:VK) (E:XK),EG k (A.deeper (envOfC qual (aq st) s.heap.objs.size f cdv))->sp vs H Q E ->
   ∃t,PSs (bJ CX0 P w K mg base N qual (aq st) f cdv A outer s H E).nox (bA st) t/\t { nx:=fun _ H'=>Q .non H',rt:=Q } (start N vs) H):DQ P w K mg base CX0 (k+1) f fd ps sp:=by
 obtain⟨oc,od,kV,doc,pm,an,cdv,ct,osl,rfl,lk,hcd⟩:=F.ex;refine tW lk hcd S len fun A outer s H vs Q E hr hsp=>?_;obtain⟨t,h,q⟩:=hbody cdv A outer s H vs Q E hr hsp;exact⟨t,h.nox,q⟩
theorem Fun.binds{x qual:Str}{st:Stmt}{f:Addr}{fd:FuncData}{ps:List Str}(F:Fun K x qual st f fd)
  (h:∀(kV doc pm:Value)(an:Option Addr)(cdv ct:Value)(us:List Value),us.length=ps.length->bindArgs (W.fnOf x qual (bW st) (bA st) (aq st) .none kV doc pm an cdv ct) ⟨us,[]⟩=pure (ps.zip us)):Binds K fd ps []:=by
 obtain⟨oc,od,kV,doc,pm,an,cdv,ct,osl,rfl,lk,hcd⟩:=F.ex;exact .all (h kV doc pm an cdv ct)
theorem oa{x qual:Str}{st:Stmt}{f:Addr}{oc:Value}{od an:Option Addr}{osl:Array (Option Value)}{kV doc pm cdv ct:Value}(l:K.lookup f=some ⟨oc,od,.func (W.fnOf x qual (bW st) (bA st) (aq st) .none kV doc pm an cdv ct),osl⟩)
  (c:W.codeIn K cdv qual=true)(k:W.keepIn K (.ref f)=true):Fun K x qual st f (W.fnOf x qual (bW st) (bA st) (aq st) .none kV doc pm an cdv ct):=⟨⟨oc,od,kV,doc,pm,an,cdv,ct,osl,rfl,l,c⟩,k⟩
end
theorem ie{A:Around}{k:Nat}(hr:EG k A):A.units+1<cLine:=Bi (Nat.add_le_add_left (by decide:1<=64) _) hr.units
section
variable {X:Cx}
theorem pv(i:Nat){x:Str}{pos:Pos}(hN:X.N[i]?=some x:=by rfl)(hv:Vis X.env.scope x:=by first|exact Or.inl rfl|exact Or.inr (Or.inl rfl)|exact Or.inr (Or.inr rfl))(hd:(x==("__debug__":Str))=false:=by decide)
  (hcd:(x==("__classdict__":Str))=false:=by decide):PE X (.Name x pos) (sH i):=sP hN hv hd hcd
end
theorem wR{A B:Prop}(h:B):if false=true then A else B:=by
 rw[CZ Ax];exact h
theorem wU{A B:Prop}(h:A):if true=true then A else B:=by
 rw[Dc rfl];exact h
theorem rO{c A B:Prop} [Decidable c](h1:c->A)(h2:¬c->B):if c then A else B:=by
 by_cases h:c
 ·rw[Dc h];exact h1 h
 ·rw[CZ h];exact h2 h
def DN (H H':Hp):Prop:=∀b o,H b=some o->H' b=some o
theorem DN.refl(H:Hp):DN H H:=fun _ _ h=>h
theorem DN.trans{H H1 H2:Hp}(a:DN H H1)(b:DN H1 H2):DN H H2:=fun c o h=>b c o (a c o h)
theorem DN.free{H H':Hp}(e:DN H H'){l:Addr}(h:H' l=Option.none):H l=Option.none:=by
 cases q:H l with
 |none=>rfl
 |some o=>
  rw[e l o q] at h;cases h
theorem DN.seq{K:W.Frag}{H H':Hp}{a:Addr}{xs:List V}(e:DN H H')(h:SqL K H a xs):SqL K H' a xs:=by
 rcases h with (h|⟨o,h⟩)|h
 ·exact .inl (.inl (e _ _ h))
 ·exact .inl (.inr ⟨o,e _ _ h⟩)
 ·exact .inr h
theorem tcut{a b:TS}{D:Ends}{σ:St}{H:Hp}(g:∀D',D'=D->∀R,R=b->sM a R D' σ H):sM a b D σ H:=g _ rfl _ rfl
theorem tcuts{R a b:TS}{D:Ends}{σ:St}{H:Hp}(h:R=sM a b)(g:∀R,R=b->sM a R D σ H):R D σ H:=by subst h;exact g _ rfl
theorem tcutl{R b:TS}{D:Ends}{σ:St}{H:Hp}(h:R=b)(g:b D σ H):R D σ H:=by subst h;exact g
theorem tcutn{D D':Ends}{σ:St}{H:Hp}(h:D'=D)(g:D.nx σ H):D'.nx σ H:=by subst h;exact g
theorem tcutr{D D':Ends}{v:V}{H:Hp}(h:D'=D)(g:D.rt v H):D'.rt v H:=by subst h;exact g
def cC (cells:List (Str×Addr)):List (Str×NameKind)->List (Str×Addr)->List (Str×Addr)
 |[],acc=>acc
 |(n,k)::r,acc=>cC cells r (if k==.free then (n,(cells.lookup n).getD 0)::acc else acc)
theorem bM{scope:Scope}{env:Env}(h:∀y∈scope.names,y.2=.free->∃c,env.cells.lookup y.1=some c):closureFor scope env=pure (cC env.cells scope.names []):=by
 unfold closureFor;have key:∀(l:List (Str×NameKind))(acc:List (Str×Addr)),(∀y∈l,y.2=.free->∃c,env.cells.lookup y.1=some c) ->
   (forIn l acc (fun x r=>match x with
    | (name,kind)=>if (kind == NameKind.free)=true then do let a <- cellOf env name; pure (ForInStep.yield ((name,a)::r)) else pure (ForInStep.yield r)):Sem (List (Str×Addr)))=pure (cC env.cells l acc):=by
  intro l;induction l with
  |nil=>intro acc _;rfl
  |cons y r ih=>
   intro acc hl;obtain⟨n,k⟩:=y;rw[BP];have ih':=fun acc=>ih acc fun y hy=>hl y (Af _ hy);by_cases hk:(k==NameKind.free)=true
   ·obtain⟨c,hc⟩:=hl (n,k) zX (by simpa using hk);have e1:cellOf env n=pure c:=by unfold cellOf;have hc':env.cells.lookup n=some c:=hc;rw[hc']
    dsimp only;rw[Dc hk,e1];simp only[pure_bind];rw[ih'];unfold cC;rw[Dc hk];have hc':env.cells.lookup n=some c:=hc;rw[hc']
    conv=>rhs;unfold cC
    rfl
   ·dsimp only;rw[CZ hk];simp only[pure_bind];rw[ih']
    conv=>rhs;unfold cC
    rw[CZ hk]
 have:=key scope.names [] h;simp only[bind_pure] at *;exact this
theorem dN{cells:List (Str×Addr)}:∀{l:List (Str×NameKind)}{acc:List (Str×Addr)}{x:Str}{c:Addr},(∀y∈l,y.2=.free->∃c,cells.lookup y.1=some c)->(∀x c,acc.lookup x=some c->cells.lookup x=some c) ->
  (cC cells l acc).lookup x=some c->cells.lookup x=some c
 |[],_,_,_,_,ha,e=>ha _ _ e
 |(n,k)::r,acc,x,c,h,ha,e=>by
  unfold cC at e;refine dN (fun y hy=>h y (Af _ hy)) ?_ e;intro x c e;by_cases hk:(k==NameKind.free)=true
  ·rw[Dc hk] at e;obtain⟨c',hc⟩:=h (n,k) zX (by simpa using hk);have hc':cells.lookup n=some c':=hc;rw[AV] at e;by_cases hx:(x==n)=true
   ·rw[hx] at e;have hxn:x=n:=by simpa using hx
    subst hxn;simp only[hc',Option.getD_some] at e;rw[hc'];exact e
   ·have hx':(x==n)=false:=by simpa using hx
    rw[hx'] at e;exact ha _ _ e
  ·rw[CZ hk] at e;exact ha _ _ e
theorem eY{cells:List (Str×Addr)}:∀{l:List (Str×NameKind)}{acc:List (Str×Addr)}{x:Str},((x,NameKind.free)∈l\/(acc.lookup x).isSome=true)->((cC cells l acc).lookup x).isSome=true
 |[],_,_,h=>by
  rcases h with h|h
  ·cases h
  ·exact h
 |(n,k)::r,acc,x,h=>by
  unfold cC;refine eY ?_;rcases h with h|h
  ·rcases Ad.mp h with e|h
   ·right
    cases e;simp[AV]
   ·exact .inl h
  ·right
   split
   ·rw[AV];split
    ·rfl
    ·exact h
   ·exact h
theorem dG{env:Env}{x:Str}:∀{names:List (Str×NameKind)},names.lookup x=some .free ->
  (names.map fun(n,k)=>if (k==NameKind.free&&env.scope.kind==.function&&env.kindOf n==some .cell) then (n,NameKind.cell) else (n,k)).lookup x=some .cell \/
  (names.map fun(n,k)=>if (k==NameKind.free&&env.scope.kind==.function&&env.kindOf n==some .cell) then (n,NameKind.cell) else (n,k)).lookup x=some .free
 |[],h=>by simp at h
 |(n,k')::r,h=>by
  have ih:=@dG env x r;rw[AV] at h;rw[Av,AV];by_cases hx:(x==n)=true
  ·simp only[hx] at h;have hk:k'=.free:=Dj h;by_cases c:(k'==NameKind.free&&env.scope.kind==.function&&env.kindOf n==some .cell)=true
   ·rw[Dc c];simp only[hx];exact .inl trivial
   ·rw[CZ c];simp only[hx,hk];exact .inr trivial
  ·have hx':(x==n)=false:=by simpa using hx
   simp only[hx'] at h;by_cases c:(k'==NameKind.free&&env.scope.kind==.function&&env.kindOf n==some .cell)=true
   ·rw[Dc c];simp only[hx'];exact ih h
   ·rw[CZ c];simp only[hx'];exact ih h
def cx (js:List Nat)(σ:St):St:=js.map fun j=>(σ[j]?).join
theorem oN{l:List (Str×NameKind)}{acc:List (Str×Addr)}(h:∀y∈l,y.2≠.cell) :
  (forIn l acc (fun x r=>match x with
   | (name,kind)=>if (kind == NameKind.cell)=true then do let a <- alloc { cls:=.type "cell",data:=.cell none }; pure (ForInStep.yield ((name,a)::r)) else pure (ForInStep.yield r)):Sem (List (Str×Addr)))=pure acc:=by
 induction l generalizing acc with
 |nil=>rfl
 |cons y r ih=>
  obtain⟨n,k⟩:=y;rw[BP];have hk:¬(k==NameKind.cell)=true:=fun z=>h (n,k) zX (by simpa using z);dsimp only;rw[CZ hk];simp only[pure_bind];exact ih fun y hy=>h y (Af _ hy)
theorem rH{t:Str}{a b:List (Str×NameKind)}{acc:List (Str×Addr)}(ha:∀y∈a,y.2≠.cell)(hb:∀y∈b,y.2≠.cell) :
  (forIn (a++(t,NameKind.cell)::b) acc (fun x r=>match x with
   | (name,kind)=>if (kind == NameKind.cell)=true then do let a <- alloc { cls:=.type "cell",data:=.cell none }; pure (ForInStep.yield ((name,a)::r)) else pure (ForInStep.yield r)):Sem (List (Str×Addr)))=(do let c <- alloc { cls:=.type "cell",data:=.cell none }; pure ((t,c)::acc)):=by
 induction a generalizing acc with
 |nil=>
  rw[Cr,BP];dsimp only;rw[Dc (show(NameKind.cell==NameKind.cell)=true from rfl)];simp only[bind_assoc,pure_bind]
  congr 1
  funext c
  exact oN hb
 |cons y r ih=>
  obtain⟨n,k⟩:=y;rw[List.cons_append,BP];have hk:¬(k==NameKind.cell)=true:=fun z=>ha (n,k) zX (by simpa using z);dsimp only;rw[CZ hk];simp only[pure_bind];exact ih fun y hy=>ha y (Af _ hy)
def Gv(names:List (Str×NameKind)):Option Str->Prop
 |none=>∀y∈names,y.2≠.cell
 |some t=>∃a b,names=a++(t,NameKind.cell)::b/\(∀y∈a,y.2≠.cell)/\∀y∈b,y.2≠.cell
def uB (t:Option Str)(C:Addr)(cl:List (Str×Addr)):List (Str×Addr):=match t with
 |none=>cl
 |some t=>(t,C+1)::cl
theorem rP{M:Model}{A:Around}{E:Value->Shared->Prop}{s:Shared}{scope:Scope}{globals:Addr}{cl:List (Str×Addr)}{qual:Str}{func:Option Addr}{code:Value}{around:Option Env}{builtins:Addr}{Q:Env->Shared->Prop}{t:Option Str}(h1:Gv scope.names t)(hk:scope.kind=.function)
  (h:∀h',h'.Ns s.heap.objs.size (fun _=>none)->(∀x,t=some x->h'.IsCell (s.heap.objs.size+1) none)->(∀b o,s.heap.get? b=some o->h'.get? b=some o)->Q (newEnv scope s.heap.objs.size globals (uB t s.heap.objs.size cl) qual func code around builtins) {s with heap:=h'}) :
  wpAny M A (newFunctionEnv scope globals cl [] qual func code around builtins) Q E s:=by
 cases t with
 |none=>
  refine wpAny_newFunctionEnv h1 (by intro y hy;simp at hy) (fun h' n b=>h h' n (fun _ z=>by cases z) fun a o e=>?_) hk;exact b.extBut a o (Aa (Di e)) (Dx _ e)
 |some t=>
 obtain⟨a,b,e,ha,hb⟩:=h1;unfold newFunctionEnv;refine CU (wpAny_alloc ?_);dsimp only;rw[e,rH ha hb];refine CU (CU (wpAny_alloc (CV ?_)));refine CU (CV (CV ?_));have z:(s.heap.push {cls:=.type (if around.isSome=true then "dict" else "frame"),data:=.dict #[]}).objs.size=s.heap.objs.size+1:=DG _ _;have q:=h ((s.heap.push {cls:=.type (if around.isSome=true then "dict" else "frame"),data:=.dict #[]}).push {cls:=.type "cell",data:=.cell none}) ⟨_,#[],_,Dx _ (Dy _ rfl),rfl,(by intro e he;simp at he),fun _=>rfl⟩ (fun _ _=>⟨_,by rw[<- z];exact Dy _ rfl,rfl⟩) (fun b o e=>Dx _ (Dx _ e));dsimp only;rw[z];cases around<;>exact q
def ba (X:Cx)(scope:Scope)(t:Option Str)(C:Addr)(fp:List Addr)(N:List Str)(s:Shared)(H:Hp):Cx:=
 {X with N:=N,s₀:=s,H₀:=H,env:=compEnvC scope (uB t C (cC X.env.cells scope.names [])) C X.env,outer:=X.stack,stack:=X.stack,ex:=fp,fn:=fun y=>match t with|some t=>y==t|none=>false,xe:=fun _ _=>False}
structure DS(X:Cx)(scope:Scope)(t:Option Str)(ts:List Str)(cap:List Str)(js:List Nat):Prop where
 kind:scope.kind=.function
 one:Gv scope.names t
 names:∀y∈scope.names,y.2=.local->scope.names.lookup y.1=some .local
 free:∀y∈scope.names,y.2=.free->X.env.kindOf y.1=some .cell\/X.env.kindOf y.1=some .free
 IE:cap.map some=js.map fun j=>X.N[j]?
 JK:∀y∈cap,scope.names.lookup y=some .free
 JV:∀x∈cap,t≠some x
 nd:(ts++cap).Nodup
abbrev aF(X:Cx)(scope:Scope)(C:Addr)(fp:List Addr)(N:List Str)(s:Shared)(H:Hp):Cx:=ba X scope none C fp N s H
abbrev aU(X:Cx)(scope:Scope)(ts:List Str)(cap:List Str)(js:List Nat):Prop:=DS X scope none ts cap js
theorem cB{env:Env}{t:Option Str}{x:Str}{k:NameKind}:∀{names:List (Str×NameKind)},(∀y∈names,y.2=.cell->t=some y.1) ->
  (names.map fun(n,k)=>if (k==NameKind.free&&env.scope.kind==.function&&env.kindOf n==some .cell) then (n,NameKind.cell) else (n,k)).lookup x=some k->(k=.cell\/k=.free)->t=some x\/(x,NameKind.free)∈names
 |[],_,h,_=>by simp at h
 |(n,k')::r,hc,h,hk=>by
  rw[Av,AV] at h;have ih:=@cB env t x k r (fun y hy=>hc y (Af _ hy));by_cases c:(k'==NameKind.free&&env.scope.kind==.function&&env.kindOf n==some .cell)=true
  ·rw[Dc c] at h;have hf:k'=.free:=by
    have:=(AG _ _▸(AG _ _▸c).1).1;simpa using this
   by_cases hx:(x==n)=true
   ·have:x=n:=by simpa using hx
    subst this;subst hf;exact .inr zX
   ·have hx':(x==n)=false:=by simpa using hx
    simp only[hx'] at h;exact(ih h hk).imp id (Af _)
  ·rw[CZ c] at h;by_cases hx:(x==n)=true
   ·simp only[hx] at h;have:x=n:=by simpa using hx
    subst this;have hkk:k'=k:=Dj h;subst hkk;rcases hk with hk|hk
    ·exact .inl (hc (x,k') zX hk)
    ·subst hk;exact .inr zX
   ·have hx':(x==n)=false:=by simpa using hx
    simp only[hx'] at h;exact(ih h hk).imp id (Af _)
theorem Gv.is{names:List (Str×NameKind)}:∀{t:Option Str},Gv names t->∀y∈names,y.2=.cell->t=some y.1
 |none,h,y,hy,e=>absurd e (h y hy)
 |some t,h,y,hy,e=>by
  obtain⟨a,b,rfl,ha,hb⟩:=h;rcases zZ.mp hy with z|z
  ·exact absurd e (ha y z)
  ·rcases Ad.mp z with z|z
   ·rw[z]
   ·exact absurd e (hb y z)
theorem bg{names:List (Str×NameKind)}{y:Str}{k:NameKind}(h:names.lookup y=some k):(y,k)∈names:=PySem.mem_of_lookup h
section
variable {X:Cx}{pins:List (Addr×Obj)}{σ:St}{H:Hp}{s:Shared}{scope:Scope}{t:Option Str}{ts cap:List Str}{js:List Nat}{fp:List Addr}{C D:Addr}
theorem DS.cells(CS:DS X scope t ts cap js)(ok:X.Ok):∀y∈scope.names,y.2=.free->∃c,X.env.cells.lookup y.1=some c:=fun y hy hf=>ok.has _ (CS.free y hy hf)
theorem DS.Hw(CS:aU X scope ts cap js):∀y∈scope.names,y.2≠.cell:=CS.one
theorem DS.look(CS:aU X scope ts cap js)(ok:X.Ok){x:Str}{c:Addr}(e:(cC X.env.cells scope.names []).lookup x=some c):X.env.cells.lookup x=some c:=
 dN (CS.cells ok) (fun _ _ z=>by simp at z) e
theorem DS.FF(CS:DS X scope t ts cap js)(ok:X.Ok){x:Str}{c:Addr}(e:(uB t C (cC X.env.cells scope.names [])).lookup x=some c):(t=some x/\c=C+1)\/X.env.cells.lookup x=some c:=by
 have old:(cC X.env.cells scope.names []).lookup x=some c->X.env.cells.lookup x=some c:=fun e=>dN (CS.cells ok) (fun _ _ z=>by simp at z) e;cases t with
 |none=>exact .inr (old e)
 |some t=>
  replace e:((t,C+1)::cC X.env.cells scope.names []).lookup x=some c:=e
  rw[AV] at e;by_cases hx:(x==t)=true
  ·rw[hx] at e;injection e with e;exact .inl ⟨by rw[show x=t by simpa using hx],e.symm⟩
  ·rw[show(x==t)=false by simpa using hx] at e;exact .inr (old e)
theorem DS.IH(CS:DS X scope t ts cap js){x:Str}(hx:t≠some x)(hm:(x,NameKind.free)∈scope.names)(ok:X.Ok):∃c,(uB t C (cC X.env.cells scope.names [])).lookup x=some c/\X.env.cells.lookup x=some c:=by
 obtain⟨c,e⟩:=BD.mp (eY (cells:=X.env.cells) (acc:=[]) (.inl hm));refine⟨c,?_,dN (CS.cells ok) (fun _ _ z=>by simp at z) e⟩;cases t with
 |none=>exact e
 |some t=>
  show((t,C+1)::cC X.env.cells scope.names []).lookup x=_;rw[AV,beq_false_of_ne (fun z=>hx (by rw[z]))];exact e
theorem jF(I:Inv X pins σ H s)(CS:DS X scope t ts cap js)(hf:∀b∈fp,Em X pins H b)(hfl:∀b∈fp,b<s.heap.objs.size)(hC:s.heap.objs.size<=C):(ba X scope t C fp (ts++cap) s H).Ok where
 mod:=I.ok.mod
 kind:=CS.kind
 glob:=I.ok.glob
 blt:=I.ok.blt
 above:=hC
 inj:=fun x y c h1 h2=>by
  have big:∀{x},X.env.cells.lookup x=some (C+1)->False:=fun {x} e=>by
   obtain⟨v,o,ho,_⟩:=I.cell x _ e;exact absurd (Di ho) (Nat.not_lt.mpr (Bj hC))
  rcases CS.FF I.ok h1 with ⟨a,b⟩|a
  ·rcases CS.FF I.ok h2 with ⟨a',b'⟩|a'
   ·exact Dj (a.symm.trans a')
   ·rw[b] at a';exact(big a').elim
  ·rcases CS.FF I.ok h2 with ⟨a',b'⟩|a'
   ·rw[b'] at a;exact(big a).elim
   ·exact I.ok.inj x y c a a'
 has:=fun x hx=>by
  have:t=some x\/(x,NameKind.free)∈scope.names:=by
   rcases hx with hx|hx
   ·exact cB (env:=X.env) CS.one.is hx (.inl rfl)
   ·exact cB (env:=X.env) CS.one.is hx (.inr rfl)
  by_cases hxt:t=some x
  ·subst hxt;exact⟨C+1,by show((x,C+1)::cC X.env.cells scope.names []).lookup x=_;rw[AV,beq_self_eq_true]⟩
  ·obtain⟨c,e,_⟩:=CS.IH hxt (this.resolve_left hxt) I.ok;exact⟨c,e⟩
 cab:=fun x c h e=>by
  cases t with
  |none=>cases (show false=true from h)
  |some t=>
   have hx:x=t:=by simpa using(show(x==t)=true from h)
   have e':((t,C+1)::cC X.env.cells scope.names []).lookup x=some c:=e;rw[hx,AV,beq_self_eq_true] at e';injection e' with e';rw[<- e'];exact Bj hC
 hd:=I.ok.hd
 frames:=I.ok.frames
 stk:=.inl rfl
 exf:=fun b hb=>⟨Aa (Ah (hfl b hb) hC),fun x c e=>by
  rcases CS.FF I.ok e with ⟨_,q⟩|q
  ·rw[q];exact Dw (Aa (Ah (hfl b hb) (Bj hC)))
  ·exact(hf b hb).2.2.2.2.1 x c q⟩
 bs:=I.bs
 bsz:=Ak I.ok.bsz I.sz
 IQ:=fun b o e hb=>by
  rcases (hf b hb).2.2.2.1 with z|z
  ·exact I.ok.IQ b o e z
  ·have q:=(I.ok.bs b o e).1;rw[z] at q;cases q
 Iv:=fun b hb z=>by
  rcases Ad.mp (I.FD b z) with q|q
  ·exact(hf b hb).2.1 q
  ·exact(hf b hb).2.2.1 q
 Gi:=I.stack
 frf:=I.Fj
theorem iG{s₄:Shared}{m:Str->Option Value}{pins':List (Addr×Obj)}(I:Inv X pins σ H s)(CS:DS X scope t ts cap js)(hf:∀b∈fp,Em X pins H b)(hfl:∀b∈fp,b<s.heap.objs.size)(hC:s.heap.objs.size<=C)
  (old:∀b o,s.heap.get? b=some o->s₄.heap.get? b=some o)(hn:s₄.heap.Ns C m)(hcl:∀x,t=some x->s₄.heap.IsCell (C+1) none)(hos:s₄.os=s.os)(hb:AllBare s₄.gens)
  (hp:∀p∈pins',s₄.heap.get? p.1=some p.2/\H p.1=none/\p.1≠C/\p.1∉frs X.stack/\∀v,p.2.data≠.cell v) :
  Inv (ba X scope t C fp (ts++cap) s H) pins' (List.replicate ts.length none++cx js σ) H s₄ where
 ok:=jF I CS hf hfl hC
 os:=hos
 bare:=hb
 base:=Un.kept old
 loc:=⟨m,hn,fun i x v h1 h2 h3=>by
  by_cases hi:i<ts.length
  ·rw[BE (by simpa using hi)] at h2;rw[Co] at h2;split at h2<;>cases h2
  ·have h1':cap[i-ts.length]?=some x:=by
    have:=h1;show cap[i-ts.length]?=some x;rw[show(ba X scope t C fp (ts++cap) s H).N=ts++cap from rfl,Bh (by lia)] at this;exact this
   rw[Bh (by simpa using hi),BF] at h2;unfold cx at h2;rw[Ao] at h2;cases hj:js[i-ts.length]? with
   |none=>rw[hj] at h2;cases h2
   |some j=>
    rw[hj] at h2;have h2':(σ[j]?).join=some v:=Dj h2;have hσ:σ[j]?=some (some v):=by
     cases e:σ[j]? with
     |none=>rw[e] at h2';cases h2'
     |some o=>rw[e] at h2';rw[show o=some v from h2']
    have hN:X.N[j]?=some x:=by
     have:=congrArg (fun l=>l[i-ts.length]?) CS.IE;simp only[Ao,h1',hj] at this;exact(Dj this).symm
    have hfr:=CS.JK x (Aq h1');have hk:=CS.free _ (bg hfr) rfl;obtain⟨m0,hn0,hl⟩:=I.loc;obtain⟨u,r,l⟩:=hl j x v hN hσ (.inr hk);refine⟨u,r,?_⟩;rcases l with ⟨k,_⟩|⟨k,c,e,z⟩
    ·rcases hk with q|q<;>(rw[q] at k;cases k)
    ·have hxt:t≠some x:=CS.JV x (Aq h1');obtain⟨c',e',e2⟩:=CS.IH (C:=C) hxt (bg hfr) I.ok;have e3:X.env.cells.lookup x=some c:=e;rw[e3] at e2;cases e2;obtain⟨o,ho,hd⟩:=z
     exact .inr ⟨dG hfr,c,e',⟨o,old _ _ ho,hd⟩⟩⟩
 cell:=fun x c e=>by
  rcases CS.FF I.ok e with ⟨p,q⟩|q
  ·rw[q];exact⟨none,hcl x p⟩
  ·obtain⟨v,o,ho,hd⟩:=I.cell x c q;exact⟨v,o,old _ _ ho,hd⟩
 free:=I.hok.fresh hC
 Es:=fun x c e=>by
  rcases CS.FF I.ok e with ⟨_,q⟩|q
  ·rw[q];exact I.hok.fresh (Bj hC)
  ·exact I.Es x c q
 pin:=fun p hp'=>by
  rcases zZ.mp hp' with z|z
  ·obtain⟨e,n,ne,nf,d⟩:=I.pin p (Aw _ z);refine⟨old _ _ e,n,Aa (Ah (Di e) hC),fun q=>?_,d⟩;rcases Ad.mp (I.FD _ q) with q|q
   ·exact ne q
   ·exact nf q
  ·exact hp p z
 hok:=I.hok.kept old
 len:=by
  show(List.replicate ts.length none++cx js σ).length=(ts++cap).length;have:=congrArg List.length CS.IE;simp only[zV] at this;rw[zW,zW,BF,cx,zV,this]
theorem oq{s₄:Shared}{m:Str->Option Value}{pins':List (Addr×Obj)}(I:Inv X pins σ H s)(CS:aU X scope ts cap js)(hf:∀b∈fp,Em X pins H b)(hfl:∀b∈fp,b<s.heap.objs.size)(hC:s.heap.objs.size<=C)
  (old:∀b o,s.heap.get? b=some o->s₄.heap.get? b=some o)(hn:s₄.heap.Ns C m)(hos:s₄.os=s.os)(hb:AllBare s₄.gens)
  (hp:∀p∈pins',s₄.heap.get? p.1=some p.2/\H p.1=none/\p.1≠C/\p.1∉frs X.stack/\∀v,p.2.data≠.cell v) :
  Inv (aF X scope C fp (ts++cap) s H) pins' (List.replicate ts.length none++cx js σ) H s₄:=iG I CS hf hfl hC old hn (fun _ z=>by cases z) hos hb hp
end
def Jc:TT:=fun _ H Q=>Q true H
def ig (J:It)(k:Nat)(js:List Nat)(g:TG)(tc:TT)(te:TE)(σ:St)(H1:Hp)(Q:VK):Prop:=
 ∃W:Nat->Nat->List V->Hp->Prop,(∃m,W 0 m [] H1)/\∀i m ys H,W i m ys H ->
  (J.stop i H/\ys.length<=sizeLine/\∀p,H p=none->Q (.ref p) (upd H p (.lst ys))) \/
  (J.go i H/\ys.length<sizeLine/\∀x H',J.yld i H x H'->g x (List.replicate k none++cx js σ) H' fun σ2 H2=>tc σ2 H2 fun b H3=>if b=true then te σ2 H3 fun y H4=>∃m',m'<m/\W (i+1) m' (ys++[y]) H4 else ∃m',m'<m/\W (i+1) m' ys H3)
def ux (wi:TI)(k:Nat)(js:List Nat)(g:TG)(tc:TT)(te:TE):TE:=fun σ H Q=>wi σ H fun J H1=>ig J k js g tc te σ H1 Q
def PTs (X:Cx)(ifs:List Expr)(t:TT):Prop:=
 ∀(pins:List (Addr×Obj))(s:Shared)(σ:St)(H:Hp)(Q:Bool->Hp->Prop),Inv X pins σ H s->t σ H Q ->
  (wq X) (forIn ifs true fun c r=>if r=true then do let ok <- isTrue c X.env (eval c X.env);pure (ForInStep.yield ok) else pure (ForInStep.yield r)) (TP X pins σ Q) X.xe s
theorem aR{X:Cx}:PTs X [] Jc:=fun _ _ _ H _ I h=>wpAny_tests_nil ⟨H,I,h⟩
theorem bz{X:Cx}{c:Expr}{t:TT}(h:PT X c t):PTs X [c] t:=fun pins s σ H Q I hw=>wpAny_tests_one (h pins s σ H Q I hw)
theorem kQ{prog:Program}{w:World}{A:Around}{R:Result->Shared->Prop}{s:Shared}{elt target iter:Expr}{ifs:List Expr}{scope:Scope}{pos:Pos}{it acc:Value}{env:Env}(I:Nat->Shared->Prop)
  (turn:∀n s,I n s->wpAny (model prog w) A (pyNext it) (fun r s₁=>match r with
   |none=>R (.ok .next) s₁
   | some v=>wpAny (model prog w) A (letOwnedTupleGo target it v) (fun _ s₁'=>wpAny (model prog w) A (assign target env v) (fun _ s₂ =>
     wpAny (model prog w) A (forIn ifs true fun c r=>if r=true then do let ok <- isTrue c env (eval c env); pure (ForInStep.yield ok) else pure (ForInStep.yield r)) (fun ok s₃ =>
      if ok=true then wpAny (model prog w) A (eval elt env) (fun x s₄ =>
       wpAny (model prog w) A (call (.builtin "list.append") [acc,x]) (fun _ s₅=>∃m,m < n/\I m s₅) (fun _ _=>False) s₄) (fun _ _=>False) s₃
      else ∃m,m < n/\I m s₃) (fun _ _=>False) s₂) (fun _ _=>False) s₁') (fun _ _=>False) s₁) (fun _ _=>False) s)
  (n:Nat) (h:I n s):codeAny (model prog w) A (.compLoop (.ListComp elt [⟨target,iter,ifs,0⟩] scope pos) 0 it acc env) R s:=by
 refine codeAny_loop rfl I (fun n s hI=>?_) n h;show wpAny _ A ((compTurn (.ListComp elt [⟨target,iter,ifs,0⟩] scope pos) 0 it acc env).onRaise (fun x=>do noteFrame x env;theTreesLotGoes x)) _ _ s;refine wpAny_noted ?_;rw[compTurn_list];refine CU (wpAny_standAt (CU (Df (turn n s hI) (fun r s₁ h₁=>?_) fun _ _ h'=>h'.elim)));cases r with
 |none=>exact CV h₁
 |some v=>
  refine CU (Df h₁ (fun _ s₁' h₁'=>?_) fun _ _ h'=>h'.elim);refine CU (Df h₁' (fun _ s₂ h₂=>CU (Df h₂ (fun ok s₃ h₃=>?_) fun _ _ h'=>h'.elim)) fun _ _ h'=>h'.elim);cases ok with
  |false=>exact CV ⟨rfl,h₃⟩
  |true=>
   exact CU (CU (Df h₃ (fun x s₄ h₄=>CU (Df h₄ (fun _ s₅ h₅=>CV (CV ⟨rfl,h₅⟩)) fun _ _ h'=>h'.elim)) fun _ _ h'=>h'.elim))
abbrev cS(its:List Value)(n:Nat):Obj:={cls:=.type "list",data:=.seq its.toArray n}
section
variable {X:Cx}{pins:List (Addr×Obj)}{σ:St}{H:Hp}{s:Shared}{scope:Scope}{t:Option Str}{ts cap:List Str}{js:List Nat}{fp:List Addr}{C D:Addr}
theorem iY{s':Shared}{σ':St}{H':Hp}{ys:List V}{its:List Value}{n:Nat}(I:Inv X pins σ H s)(hf:∀b∈fp,Em X pins H b)
  (hC:s.heap.objs.size<=C)(hD:s.heap.objs.size<=D)(I':Inv (ba X scope t C fp (ts++cap) s H) [(D,cS its n)] σ' H' s')(hv:Vals ys its)(hz:ys.length<=sizeLine):Inv X pins σ (upd H' D (.lst ys)) s':=by
 obtain⟨hDg,hDn,hDC,hDs,hDd⟩:=I'.pin (D,cS its n) (Ab _ zX);have nD:∀b o,s.heap.get? b=some o->b≠D:=fun b o e=>Aa (Ah (Di e) hD);have nDt:∀b o,H b=some o->b≠D:=fun b o e=>Aa (Ah (I.hok.lt e) hD);have u:=I'.base;refine I.JP (ch:=fp) I'.os ⟨fun b o e n hb hx=>u.keep b o e n hb hx,fun b o e n hb hx=>u.slot b o e n hb hx,fun b o e n hx=>?_,fun b o e hx=>u.there b o e hx,fun b xs e=>?_,fun b o xs e=>?_,fun b ps e=>?_⟩ ?_ I'.bare fun b hb=>?_
 ·rw[ar (nD b o e)];exact u.free b o e n hx
 ·rw[ar (nDt b _ e)];exact u.Ha b xs e
 ·rw[ar (nDt b _ e)];exact u.GG b o xs e
 ·rw[ar (nDt b _ e)];exact u.GH b ps e
 ·intro b o e;by_cases hb:b=D
  ·subst hb;rw[ae] at e;cases e;exact⟨hz,its,n,hv,hDg⟩
  ·rw[ar hb] at e;refine(I'.hok b o e).GB (fun _ _ _ q=>q) (fun c q=>?_) fun c xs q=>?_
   ·by_cases hc:c=D
    ·subst hc;rw[hDn] at q;cases q
    ·rw[ar hc];exact q
   ·by_cases hc:c=D
    ·subst hc;rw[hDn] at q;cases q
    ·rw[ar hc];exact q
 ·obtain⟨f0,f1,f2,f3,f4,f5⟩:=hf b hb;exact⟨f3,f1,f4,f5⟩
theorem cV{pins':List (Addr×Obj)}{σ':St}{H':Hp}{s':Shared}(I:Inv X pins σ H s)(CS:DS X scope t ts cap js)(hf:∀b∈fp,Em X pins H b)(I':Inv (ba X scope t C fp (ts++cap) s H) pins' σ' H' s') :
  Inv (ba X scope t C fp (ts++cap) s H) pins' (List.replicate ts.length none++cx js σ) H' s':=by
 refine⟨I'.ok,I'.os,I'.bare,I'.base,?_,I'.cell,I'.free,I'.Es,I'.pin,I'.hok,?_⟩
 ·obtain⟨m,hn,_⟩:=I'.loc;refine⟨m,hn,fun i x v h1 h2 h3=>?_⟩;by_cases hi:i<ts.length
  ·rw[BE (by simpa using hi)] at h2;rw[Co] at h2;split at h2<;>cases h2
  ·have h1':cap[i-ts.length]?=some x:=by
    have:=h1;rw[show(ba X scope t C fp (ts++cap) s H).N=ts++cap from rfl,Bh (by lia)] at this;exact this
   rw[Bh (by simpa using hi),BF] at h2;unfold cx at h2;rw[Ao] at h2;cases hj:js[i-ts.length]? with
   |none=>rw[hj] at h2;cases h2
   |some j=>
    rw[hj] at h2;have h2':(σ[j]?).join=some v:=Dj h2;have hσ:σ[j]?=some (some v):=by
     cases e:σ[j]? with
     |none=>rw[e] at h2';cases h2'
     |some o=>rw[e] at h2';rw[show o=some v from h2']
    have hN:X.N[j]?=some x:=by
     have:=congrArg (fun l=>l[i-ts.length]?) CS.IE;simp only[Ao,h1',hj] at this;exact(Dj this).symm
    have hfr:=CS.JK x (Aq h1');have hk:=CS.free _ (bg hfr) rfl;obtain⟨m0,hn0,hl⟩:=I.loc;obtain⟨u,r,l⟩:=hl j x v hN hσ (.inr hk);refine⟨u,r,?_⟩;rcases l with ⟨k,_⟩|⟨k,c,e,z⟩
    ·rcases hk with q|q<;>(rw[q] at k;cases k)
    ·have hxt:t≠some x:=CS.JV x (Aq h1');obtain⟨c',e',e2⟩:=CS.IH (C:=C) hxt (bg hfr) I.ok;have e3:X.env.cells.lookup x=some c:=e;rw[e3] at e2;cases e2;obtain⟨o,ho,hd⟩:=z;have nfp:c∉fp:=fun q=>(hf c q).2.2.2.2.1 x c e rfl;obtain⟨sl,hg⟩:=I'.base.any ho (I.Es x c e) nfp;exact .inr ⟨dG hfr,c,e',⟨_,hg,hd⟩⟩
 ·show(List.replicate ts.length none++cx js σ).length=(ts++cap).length;have:=congrArg List.length CS.IE;simp only[zV] at this;rw[zW,zW,BF,cx,zV,this]
structure HQ(X:Cx)(tg:Expr)(J:It)(fp:List Addr)(it:Addr)(tn:Nat->Heap->Prop):Prop where
 item:∀(i:Nat)(pins:List (Addr×Obj))(s:Shared)(σ:St)(H:Hp)(E:Value->Shared->Prop),Inv X pins σ H s->(∀b∈fp,Em X pins H b)->tn i s.heap->J.go i H ->
  (wq X) (pyNext (.ref it)) (fun r s1=>∃u,r=some u /\
   (wq X) (letOwnedTupleGo tg (.ref it) u) (fun _ s2=>∃x H',Inv X pins σ H' s2/\RelV x u/\J.yld i H x H'/\tn (i+1) s2.heap/\∀b∈fp,H' b=none) E s1) E s
 done:∀(i:Nat)(pins:List (Addr×Obj))(s:Shared)(σ:St)(H:Hp)(E:Value->Shared->Prop),Inv X pins σ H s->(∀b∈fp,Em X pins H b)->tn i s.heap->J.stop i H ->
  (wq X) (pyNext (.ref it)) (fun r s1=>r=none/\Inv X pins σ H s1) E s
structure TurnOk(P:Program)(w:World)(fp:List Addr)(it:Addr)(tn:Nat->Heap->Prop):Prop where
 obj:∀i h,tn i h->∀b∈fp,∃o,h.get? b=some o/\∀v,o.data≠.cell v
 keep:∀i h h',tn i h->(∀b∈fp,∀o,h.get? b=some o->h'.get? b=some o)->tn i h'
 self:∀(A:Around)(i:Nat)(s:Shared)(Q:Value->Shared->Prop)(E:Value->Shared->Prop),tn i s.heap->Q (.ref it) s->wpAny (model P w) A (pyIter (.ref it)) Q E s
theorem jd{tg elt iter:Expr}{ifs:List Expr}{pos:Pos}{g:TG}{tc:TT}{te:TE}{J:It}{it:Addr}{tn:Nat->Heap->Prop}{W:Nat->Nat->List V->Hp->Prop}{m0:Nat}{E:Value->Shared->Prop}
  {RR:Value->Addr->Result->Shared->Prop}{Fin:List V->Hp->Prop}
  (I:Inv X pins σ H s)(T:TurnOk X.prog X.w fp it tn)(TA:∀C,HQ (ba X scope t C fp (ts++cap) s H) tg J fp it tn)(st:tn 0 s.heap)(hf:∀b∈fp,Em X pins H b)(CS:DS X scope t ts cap js)
  (hg:∀C fp s H,PG (ba X scope t C fp (ts++cap) s H) tg g)(ht:∀C fp s H,PTs (ba X scope t C fp (ts++cap) s H) ifs tc)(he:∀C fp s H,PE (ba X scope t C fp (ts++cap) s H) elt te)
  (w0:W 0 m0 [] H)
  (turn:∀i m ys H,W i m ys H->(J.stop i H/\ys.length<=sizeLine/\Fin ys H)\/(J.go i H/\ys.length < sizeLine/\∀x H',J.yld i H x H'->g x (List.replicate ts.length none++cx js σ) H' fun σ2 H2=>tc σ2 H2 fun b H3 =>
   if b=true then te σ2 H3 fun y H4=>∃m',m' < m/\W (i+1) m' (ys++[y]) H4 else ∃m',m' < m/\W (i+1) m' ys H3))
  (hRR:∀D C s' H' ys m,Inv X pins σ (upd H' D (.lst ys)) s'->s'.heap.Ns C m->s.heap.objs.size<=C->s.heap.objs.size<=D->C≠D->H' C=none->H' D=none->Fin ys H'->RR (.ref D) C (.ok .next) s') :
  (wq X) (newList []) (fun acc s₃=>(wq X) (newFunctionEnv scope X.env.globals (cC X.env.cells scope.names []) [] X.env.qual none .none (some X.env)) (fun cenv s₄ =>
   codeAny (model X.prog X.w) X.A (.compStart (.ListComp elt [⟨tg,iter,ifs,0⟩] scope pos) 0 (.ref it) acc { cenv with scope:=relabel scope X.env }) (RR acc cenv.locals) s₄) E s₃) E s:=by
 refine wpAny_newObj_type (rP CS.one CS.kind (fun h₁ hns₁ hcl₁ hold₁=>?_));dsimp only at hns₁ hcl₁ hold₁ ⊢;generalize hH2:s.heap.push {cls:=.type "list",dict:=none,data:=.seq ([]:List Value).toArray}=H2 at hns₁ hcl₁ hold₁ ⊢;have hCs:H2.objs.size=s.heap.objs.size+1:=by rw[<- hH2,DG]
 have hDC:s.heap.objs.size≠H2.objs.size:=by rw[hCs];exact Aa (AI _)
 have hCle:s.heap.objs.size<=H2.objs.size:=by rw[hCs];exact AH _
 have below:∀b,b<s.heap.objs.size->b≠H2.objs.size:=fun b hb=>by rw[hCs];exact Aa (AW hb)
 have old:∀b o,s.heap.get? b=some o->h₁.get? b=some o:=fun b o e=>hold₁ b o (hH2▸Dx _ e);have hacc:h₁.get? s.heap.objs.size=some (cS [] 0):=hold₁ _ _ (hH2▸Dy _ rfl);have hfl:∀b∈fp,b<s.heap.objs.size:=fun b hb=>by obtain⟨o,e,_⟩:=T.obj _ _ st b hb;exact Di e
 have st₁:tn 0 h₁:=T.keep _ _ _ st fun b _ o e=>old b o e;have hDstk:s.heap.objs.size∉frs X.stack:=fun z=>by
  obtain⟨_,o,ho,_⟩:=I.stack.mem z;exact absurd (Di ho) (AC _)
 have I0:Inv (ba X scope t H2.objs.size fp (ts++cap) s H) [(s.heap.objs.size,cS [] 0)] (List.replicate ts.length none++cx js σ) H {s with heap:=h₁,toks:=s.toks}:=
  iG I CS hf hfl hCle old hns₁ hcl₁ rfl I.bare fun p hp=>by
   have e:p=(s.heap.objs.size,cS [] 0):=by simpa using hp
   subst e;exact⟨hacc,I.hok.fresh (zU _),hDC,hDstk,fun v z=>by cases z⟩
 have stat:∀{H':Hp}{ys:List Value}{n:Nat},(∀b∈fp,H' b=none)->∀b∈fp,Em (ba X scope t H2.objs.size fp (ts++cap) s H) [(s.heap.objs.size,cS ys n)] H' b:=fun {H' ys n} hn b hb=>by
  obtain⟨f0,f1,f2,f3,f4,f5⟩:=hf b hb;refine⟨hn b hb,below b (hfl b hb),?_,.inl hb,fun x c e=>?_,fun p hp=>?_⟩
  ·exact(jF I CS hf hfl hCle).Iv b hb
  ·rcases CS.FF I.ok e with ⟨_,q⟩|q
   ·rw[q];exact Dw (Aa (Ah (hfl b hb) (Bj hCle)))
   ·exact f4 x c q
  ·rcases zZ.mp hp with z|z
   ·exact f5 p (Aw _ z)
   ·have e:p=(s.heap.objs.size,cS ys n):=by simpa using z
    subst e;intro q;have q':s.heap.objs.size=b:=q;exact absurd (hfl b hb) (by rw[<- q'];exact AC _)
 have loop:∀s₃:Shared,s₃={s with heap:=h₁,toks:=s.toks} ->
   codeAny (model X.prog X.w) X.A (.compLoop (.ListComp elt [⟨tg,iter,ifs,0⟩] scope pos) 0 (.ref it) (.ref s.heap.objs.size) (compEnvC scope (uB t H2.objs.size (cC X.env.cells scope.names [])) H2.objs.size X.env))
    (RR (.ref s.heap.objs.size) H2.objs.size) s₃:=by
  rintro s₃ rfl;refine kQ (fun k s'=>∃i H' ys its n,Inv (ba X scope t H2.objs.size fp (ts++cap) s H) [(s.heap.objs.size,cS its n)] (List.replicate ts.length none++cx js σ) H' s'/\Vals ys its/\tn i s'.heap/\(∀b∈fp,H' b=none)/\W i k ys H') ?_ m0
   ⟨0,H,[],[],0,I0,.nil,st₁,fun b hb=>(hf b hb).1,w0⟩
  rintro k s3 ⟨i,H3,ys,its,n,I3,v3,st3,fr3,w3⟩;rcases turn i k ys H3 w3 with ⟨stop,hz,fin⟩|⟨go,hz,step⟩
  ·refine thn ((TA _).done i _ s3 _ H3 _ I3 (stat fr3) st3 stop) fun r s4 hq47=>?_;obtain⟨hr,I4⟩:=hq47;subst hr;obtain⟨m4,hn4,_⟩:=I4.loc;exact hRR _ _ s4 H3 ys m4 (iY I hf hCle (zU _) I4 v3 hz) hn4 hCle (zU _) (Dw hDC) I4.free (I4.pin (s.heap.objs.size,cS its n) (Ab _ zX)).2.1 fin
  ·refine thn ((TA _).item i _ s3 _ H3 _ I3 (stat fr3) st3 go) fun r s4 hq48=>?_;obtain⟨u,hr,h4⟩:=hq48;subst hr;refine thn h4 fun _ s5 hq49=>?_;obtain⟨x,H5,I5,r5,y5,st5,fr5⟩:=hq49;have I5':=I5.pinned (stat fr5) (T.obj _ _ st5);refine thn (hg _ _ _ _ _ s5 _ H5 x u _ I5' r5 (step x H5 y5)) fun _ s6 hq50=>?_;obtain⟨σ6,H6,I6,q6⟩:=hq50;refine thn (ht _ _ _ _ _ s6 σ6 H6 _ I6 q6) fun ok s7 hq51=>?_;obtain⟨H7,I7,q7⟩:=hq51;have pinned:∀{σ':St}{H':Hp}{s':Shared},Inv (ba X scope t H2.objs.size fp (ts++cap) s H) ([(s.heap.objs.size,cS its n)]++cH fp s5.heap) σ' H' s'->tn (i+1) s'.heap/\∀b∈fp,H' b=none:=fun {σ' H' s'} J=>by
    refine⟨T.keep _ _ _ st5 fun b hb o e=>(J.pin (b,o) (Ab _ (Ab _ (bc hb e)))).1,fun b hb=>?_⟩;obtain⟨o,e,d⟩:=T.obj _ _ st5 b hb;exact(J.pin (b,o) (Ab _ (Ab _ (bc hb e)))).2.1
   cases ok with
   |false=>
    rw[CZ Ax] at q7 ⊢;obtain⟨m',hm,w7⟩:=q7;obtain⟨st7,fr7⟩:=pinned I7;exact⟨m',hm,i+1,H7,ys,its,n,cV I CS hf I7.DZ,v3,st7,fr7,w7⟩
   |true=>
    rw[Dc rfl] at q7 ⊢;refine thn (he _ _ _ _ _ s7 σ6 H7 _ I7 q7) fun yv s8 hq52=>?_;obtain⟨y,H8,I8,r8,m',hm,w8⟩:=hq52;obtain⟨st8,fr8⟩:=pinned I8;have I8':=cV I CS hf I8.DZ;obtain⟨hDg,hDn,hDC',hDs,hDd⟩:=I8'.pin (s.heap.objs.size,cS its n) (Ab _ zX);have hl:=v3.length;refine append_at (hsz:=by rw[Aj];lia) hDg fun h9 hs9 hD9=>?_;have tracked:∀b o,b≠s.heap.objs.size->s8.heap.get? b=some o->h9.get? b=some o:=fun b o hb e=>hs9.extBut b o hb e;have I9:Inv (ba X scope t H2.objs.size fp (ts++cap) s H) [(s.heap.objs.size,cS (its++[yv]) (n+1))] (List.replicate ts.length none++cx js σ) H8 {s8 with heap:=h9}:=by
     have J0:Inv (ba X scope t H2.objs.size fp (ts++cap) s H) [] (List.replicate ts.length none++cx js σ) H8 s8:=I8'.EL (fun p hp=>absurd hp (by simp))
     have J:Inv (ba X scope t H2.objs.size fp (ts++cap) s H) [] (List.replicate ts.length none++cx js σ) H8 { s8 with heap:=h9,toks:=s8.toks }:=J0.turned (it:=s.heap.objs.size) tracked hDn hDC' (.inr (Heap.get?_none_of_le (zU _))) (fun x c e q=>by
      rcases CS.FF I.ok e with ⟨_,z⟩|z
      ·rw[z,hCs] at q;exact absurd q (Dw (Aa (AW (AI _))))
      ·obtain⟨v,o,ho,_⟩:=I.cell x c z;rw[q] at ho;exact absurd (Di ho) (AC _)) (fun p hp q=>by
       rw[AA] at hp;obtain⟨e,_⟩:=I.pin p (Aw _ hp);rw[q] at e
       exact absurd (Di e) (AC _))
     refine J.EL fun p hp=>?_;have e:p=(s.heap.objs.size,cS (its++[yv]) (n+1)):=by simpa using hp
     subst e;refine⟨?_,hDn,hDC',hDs,fun v z=>by cases z⟩;show h9.get? s.heap.objs.size=_;rw[hD9];simp[cS,List.push_toArray]
    have st9:tn (i+1) h9:=T.keep _ _ _ st8 fun b hb o e=>tracked b o (Aa (hfl b hb)) e;exact⟨m',hm,i+1,H8,ys++[y],its++[yv],n+1,I9,v3.append (.cons r8 .nil),st9,fr8,w8⟩
 exact codeAny_compStart_list (loop _ rfl) (T.self _ _ _ _ _ st₁ (loop _ rfl))
theorem fR{tg elt iter:Expr}{ifs:List Expr}{pos:Pos}{g:TG}{tc:TT}{te:TE}{J:It}{it:Addr}{tn:Nat->Heap->Prop}{W:Nat->Nat->List V->Hp->Prop}{m0:Nat}{E:Value->Shared->Prop}
  {RR:Value->Addr->Result->Shared->Prop}{Fin:List V->Hp->Prop}
  (I:Inv X pins σ H s)(hc:X.calm=true)(T:Turn X.prog X.w X.K tg J fp it tn)(st:tn 0 s.heap)(hf:∀b∈fp,Em X pins H b)(CS:aU X scope ts cap js)
  (hg:∀C fp s H,PG (aF X scope C fp (ts++cap) s H) tg g)(ht:∀C fp s H,PTs (aF X scope C fp (ts++cap) s H) ifs tc)(he:∀C fp s H,PE (aF X scope C fp (ts++cap) s H) elt te)
  (w0:W 0 m0 [] H)
  (turn:∀i m ys H,W i m ys H->(J.stop i H/\ys.length<=sizeLine/\Fin ys H)\/(J.go i H/\ys.length < sizeLine/\∀x H',J.yld i H x H'->g x (List.replicate ts.length none++cx js σ) H' fun σ2 H2=>tc σ2 H2 fun b H3 =>
   if b=true then te σ2 H3 fun y H4=>∃m',m' < m/\W (i+1) m' (ys++[y]) H4 else ∃m',m' < m/\W (i+1) m' ys H3))
  (hRR:∀D C s' H' ys m,Inv X pins σ (upd H' D (.lst ys)) s'->s'.heap.Ns C m->s.heap.objs.size<=C->s.heap.objs.size<=D->C≠D->H' C=none->H' D=none->Fin ys H'->RR (.ref D) C (.ok .next) s') :
  (wq X) (newList []) (fun acc s₃=>(wq X) (newFunctionEnv scope X.env.globals (cC X.env.cells scope.names []) [] X.env.qual none .none (some X.env)) (fun cenv s₄ =>
   codeAny (model X.prog X.w) X.A (.compStart (.ListComp elt [⟨tg,iter,ifs,0⟩] scope pos) 0 (.ref it) acc { cenv with scope:=relabel scope X.env }) (RR acc cenv.locals) s₄) E s₃) E s :=
 jd I ⟨T.obj,T.keep,T.self⟩ (fun C=>⟨T.item (aF X scope C fp (ts++cap) s H) rfl rfl rfl hc,T.done (aF X scope C fp (ts++cap) s H) rfl rfl rfl hc⟩) st hf CS hg ht he w0 turn hRR
end
section
variable {X:Cx}{scope:Scope}{ts cap:List Str}{js:List Nat}{tg elt iter:Expr}{ifs:List Expr}{pos:Pos}{wi:TI}{g:TG}{tc:TT}{te:TE}
theorem fJ{pins:List (Addr×Obj)}{σ:St}{H:Hp}{s:Shared}{C:Addr}{h':Heap}{n0:Nat}(I:Inv X pins σ H s)(hC0:X.s₀.heap.get? C=none)(hCL:X.env.locals≠C)(hcell:∀x c,X.env.cells.lookup x=some c->c≠C)(hpin:∀p∈X.pn++pins,p.1≠C)(hn:H C=none)(hs:Heap.SameBut C s.heap h'):Inv X pins σ H {s with heap:=h'}:=
 I.turned (t':=s.toks) (fun b o hb e=>hs.extBut b o hb e) hn (Dw hCL) (.inr hC0) hcell hpin
theorem aO(hc:X.calm=true)(CS:aU X scope ts cap js)(hi:PI X tg iter wi)(hg:∀C fp s H,PG (aF X scope C fp (ts++cap) s H) tg g)
  (ht:∀C fp s H,PTs (aF X scope C fp (ts++cap) s H) ifs tc)(he:∀C fp s H,PE (aF X scope C fp (ts++cap) s H) elt te)
  (hs:∀x,foldedSetIterable iter X.env x=pure x:=by intro _;rfl):PE X (.ListComp elt [⟨tg,iter,ifs,0⟩] scope pos) (ux wi ts.length js g tc te):=by
 intro pins s σ H Q I h;rw[eval_ListComp];refine wpAny_comprehension_free (use:=none) rfl hs (bM (CS.cells I.ok)) CS.kind CS.names (thn (hi pins s σ H _ I h) fun v s1 h1=>thn h1 fun itv s2 h2=>?_);obtain⟨it,fp,tn,J,H2,e,I2,T,st2,f2,W,⟨m0,w0⟩,turn⟩:=h2;subst e;refine fR (RR:=fun acc C=>compPost (model X.prog X.w) X.A X.xe none (EP X pins σ Q) acc C) I2 hc T st2 f2 CS hg ht he w0 turn ?_;intro D C s' H' ys m I' hn hC hD hCD hHC hHD fin;have szL:=I2.lt;have low:∀b o,s2.heap.get? b=some o->b≠C:=fun b o e=>Aa (Ah (Di e) hC);refine⟨m,hn,fun h' hs'=>⟨.ref D,_,fJ (n0:=0) I' (Heap.get?_none_of_le (Ak I2.sz hC)) (Aa (Ah szL hC)) (fun x c e=>?_) (fun p hp=>?_) (by rw[ar hCD];exact hHC) hs',rfl,fin D hHD⟩⟩
 ·obtain⟨v,o,ho,_⟩:=I2.cell x c e;exact low c o ho
 ·exact low _ _ (I2.pin p hp).1
def uJ (te:TE)(i:Nat):TS:=fun D σ H=>te σ H fun x H1=>D.nx (σ.set i (some x)) H1
theorem bY{i:Nat}{y:Str}{py spos:Pos}(hc:X.calm=true)(CS:aU X scope ts cap js)(hi:PI X tg iter wi)(hg:∀C fp s H,PG (aF X scope C fp (ts++cap) s H) tg g)
  (ht:∀C fp s H,PTs (aF X scope C fp (ts++cap) s H) ifs tc)(he:∀C fp s H,PE (aF X scope C fp (ts++cap) s H) elt te)
  (hN:X.N.Nodup)(hy:X.N[i]?=some y)(hx:Loc X.env.scope y)(hsw:swapsWith (.ListComp elt [⟨tg,iter,ifs,0⟩] scope pos) (some (.Name y py)) spos.line X.env=pure true)
  (hs:∀x,foldedSetIterable iter X.env x=pure x:=by intro _;rfl)(hf:X.fn y=true\/X.env.scope.names.lookup y=some .local:=by first|exact .inl rfl|exact .inr rfl|assumption) :
  PS X (.Assign [.Name y py] (.ListComp elt [⟨tg,iter,ifs,0⟩] scope pos) spos) (uJ (ux wi ts.length js g tc te) i):=by
 intro pins s σ H D I h;rw[exec_Assign_Name_used _ _ _ _ hsw];refine CU (wpAny_standAt (CU ?_));show wpAny _ X.A (do let _ <- comprehension (.ListComp elt [⟨tg,iter,ifs,0⟩] scope pos) scope X.env _ (newList []) false (eval iter X.env) (some (assign (.Name y py) X.env))) _ _ s
 refine CU (Df (wpAny_comprehension_free (use:=some (assign (.Name y py) X.env)) (Q:=fun _ s'=>SP X pins D .next s') rfl hs (bM (CS.cells I.ok)) CS.kind CS.names
  (thn (hi pins s σ H _ I h) fun v s1 h1=>thn h1 fun itv s2 h2=>?_)) (fun _ s' hq=>CV (CV hq)) fun _ _ e=>e)
 obtain⟨it,fp,tn,J,H2,e,I2,T,st2,f2,W,⟨m0,w0⟩,turn⟩:=h2;subst e;refine fR (RR:=fun acc C=>compPost (model X.prog X.w) X.A X.xe (some (assign (.Name y py) X.env)) (fun _ s'=>SP X pins D .next s') acc C) I2 hc T st2 f2 CS hg ht he w0 turn ?_;intro D' C s' H' ys m I' hn hC hD hCD hHC hHD fin;have szL:=I2.lt;have low:∀b o,s2.heap.get? b=some o->b≠C:=fun b o e=>Aa (Ah (Di e) hC);have hCL:X.env.locals≠C:=Aa (Ah szL hC);have hcell:∀x c,X.env.cells.lookup x=some c->c≠C:=fun x c e=>by
  obtain⟨v,o,ho,_⟩:=I2.cell x c e;exact low c o ho
 show wpAny _ X.A (assign (.Name y py) X.env (.ref D')) _ _ _;refine wpAny_assign_Name (fq (v:=.ref D') I' hN hy hx rfl (fun s'' I'' hch=>?_) hf);obtain⟨a,hsb,ha⟩:=hch;have hCa:C≠a:=by
  rcases ha with z|z
  ·rw[z];exact Dw hCL
  ·exact Dw (hcell _ _ z)
 refine⟨m,hn.sameBut hsb hCa,fun h' hs'=>⟨_,_,fJ (n0:=0) I'' (Heap.get?_none_of_le (Ak I2.sz hC)) hCL hcell (fun p hp=>low _ _ (I2.pin p hp).1) (by rw[ar hCD];exact hHC) hs',fin D' hHD⟩⟩
end
section
variable {κ:Type} [DecidableEq κ]
def dZ (kvs:List (κ×V))(k:κ):Option V:=(kvs.find? fun kv=>decide (kv.1=k)).map (·.2)
def fL (kvs:List (κ×V))(k:κ)(v:V):List (κ×V):=
 if (kvs.any fun kv=>decide (kv.1=k))=true then kvs.map (fun kv=>if kv.1=k then (kv.1,v) else kv) else kvs++[(k,v)]
def cJ (kvs:List (κ×V))(k:κ):List (κ×V):=kvs.filter fun kv=>decide (kv.1≠k)
theorem oO{k:κ}:dZ ([]:List (κ×V)) k=none:=rfl
theorem bF{p:κ×V}{r:List (κ×V)}{k:κ}(e:p.1=k):dZ (p::r) k=some p.2:=by simp[dZ,Ba,e]
theorem bE{p:κ×V}{r:List (κ×V)}{k:κ}(e:¬p.1=k):dZ (p::r) k=dZ r k:=by simp[dZ,Ba,e]
theorem jO(k:κ):∀kvs:List (κ×V),(kvs.any fun kv=>decide (kv.1=k))=(dZ kvs k).isSome
 |[]=>rfl
 |p::r=>by
  rw[Bp];by_cases e:p.1=k
  ·simp only[bF e,Dd e,Bool.true_or,Option.isSome_some]
  ·rw[bE e,De e,Bool.false_or];exact jO k r
theorem dA(kvs:List (κ×V))(k:κ)(v:V):(fL kvs k v).length<=kvs.length+1:=by
 unfold fL;split
 ·rw[zV];lia
 ·rw[zW,AE,List.length_nil];lia
theorem GD.En{o:Option V}{u:Option Value}(r:GD o u):o.isSome=u.isSome:=by
 cases o with
 |none=>cases u with
  |none=>rfl
  |some _=>exact(show False from r).elim
 |some _=>cases u with
  |none=>exact(show False from r).elim
  |some _=>rfl
theorem KV.val{kvs:List (κ×V)}{vs:List (κ×Value)}(r:KV kvs vs)(k:κ):GD (dZ kvs k) (valueAt vs k):=by
 unfold KV at r;induction r with
 |nil=>exact True.intro
 |@cons p q ps qs h t ih=>
  obtain⟨h1,h2⟩:=h;by_cases e:p.1=k
  ·have e':q.1=k:=h1.symm.trans e;have b:valueAt (q::qs) k=some q.2:=by simp[valueAt,Ba,e']
   rw[bF e,b];exact h2
  ·have e':¬q.1=k:=fun z=>e (h1.trans z);have b:valueAt (q::qs) k=valueAt qs k:=by simp[valueAt,Ba,e']
   rw[bE e,b];exact ih
theorem KV.any{kvs:List (κ×V)}{vs:List (κ×Value)}(r:KV kvs vs)(k:κ):(kvs.any fun kv=>decide (kv.1=k))=vs.any fun kv=>decide (kv.1=k):=by
 unfold KV at r;induction r with
 |nil=>rfl
 |cons h t ih=>rw[Bp,Bp,ih,h.1]
theorem KV.Kc{kvs:List (κ×V)}{vs:List (κ×Value)}(r:KV kvs vs)(k:κ){y:V}{u:Value}(ry:RelV y u) :
  KV (kvs.map fun kv=>if kv.1=k then (kv.1,y) else kv) (vs.map fun kv=>if kv.1=k then (kv.1,u) else kv):=by
 unfold KV at r ⊢;induction r with
 |nil=>exact .nil
 |@cons p q ps qs h t ih=>
  rw[Av,Av];refine .cons ?_ ih;obtain⟨h1,h2⟩:=h;by_cases e:p.1=k
  ·rw[Dc e,Dc (h1.symm.trans e)];exact⟨h1,ry⟩
  ·rw[CZ e,CZ (fun z=>e (h1.trans z))];exact⟨h1,h2⟩
theorem KV.put{kvs:List (κ×V)}{vs:List (κ×Value)}(r:KV kvs vs)(k:κ){y:V}{u:Value}(ry:RelV y u):KV (fL kvs k y) (stored vs k u):=by
 unfold fL stored;rw[r.any k];by_cases e:(vs.any fun kv=>decide (kv.1=k))=true
 ·rw[Dc e,Dc e];exact r.Kc k ry
 ·rw[CZ e,CZ e];exact Paired.snoc r ⟨rfl,ry⟩
theorem KV.drop{kvs:List (κ×V)}{vs:List (κ×Value)}(r:KV kvs vs)(k:κ):KV (cJ kvs k) (without vs k):=by
 unfold KV at r ⊢;unfold cJ without;induction r with
 |nil=>exact .nil
 |@cons p q ps qs h t ih=>
  obtain⟨h1,h2⟩:=h;rw[AQ,AQ];by_cases e:p.1=k
  ·have a:¬decide (p.1≠k)=true:=by simp[e]
   have b:¬decide (q.1≠k)=true:=by simp[h1.symm.trans e]
   rw[CZ a,CZ b];exact ih
  ·have e':¬q.1=k:=fun z=>e (h1.trans z);have a:decide (p.1≠k)=true:=by simp[e]
   have b:decide (q.1≠k)=true:=by simp[e']
   rw[Dc a,Dc b];exact .cons ⟨h1,h2⟩ ih
theorem KV.length{kvs:List (κ×V)}{vs:List (κ×Value)}(r:KV kvs vs):kvs.length=vs.length:=Paired.length r
theorem oV(kvs:List (κ×V))(k:κ):(cJ kvs k).length<=kvs.length:=AX _ _
end
theorem gr{P:Program}{w:World}{k:Key}{u:Value}(r:RelV (kV k) u):(aL P w).is k u=true:=by
 cases k with
 |inl i=>obtain⟨t,e⟩:=(show ∃t,u=Value.int i t from r);subst e;exact jr P w i t
 |inr x=>obtain⟨t,e⟩:=(show ∃t,u=Value.str x t from r);subst e;exact bX P w x t
theorem iR{P:Program}{w:World}:∀{ks:List Key}{us:List Value},Vals (ks.map kV) us->ItemsAre (aL P w) ks us
 |[],_,r=>by rw[BO] at r;cases r;exact .nil
 |k::ks,_,r=>by
  rw[Av] at r;cases r with
  |cons h t=>exact .cons (gr h) (iR t)
abbrev KT(H:Hp):List (List Key×V)->List (List Key×Addr×Value)->Prop:=Paired fun p q=>p.1=q.1/\H q.2.1=some (.tup (p.1.map kV))/\RelV p.2 q.2.2
theorem KT.val{H:Hp}{kvs:List (List Key×V)}{xs:List (List Key×Addr×Value)}(r:KT H kvs xs)(k:List Key):GD (dZ kvs k) ((atKey xs k).map (·.2)):=by
 induction r with
 |nil=>exact True.intro
 |@cons p q ps qs h t ih=>
  obtain⟨h1,_,h2⟩:=h;by_cases e:p.1=k
  ·have e':q.1=k:=h1.symm.trans e;have b:atKey (q::qs) k=some q.2:=by simp[atKey,Ba,e']
   rw[bF e,b];exact h2
  ·have e':¬q.1=k:=fun z=>e (h1.trans z);have b:atKey (q::qs) k=atKey qs k:=by simp[atKey,Ba,e']
   rw[bE e,b];exact ih
theorem KT.Kc{H:Hp}{kvs:List (List Key×V)}{xs:List (List Key×Addr×Value)}(r:KT H kvs xs)(k:List Key){y:V}{u:Value}(ry:RelV y u) :
  KT H (kvs.map fun kv=>if kv.1=k then (kv.1,y) else kv) (xs.map (putAt k u)):=by
 induction r with
 |nil=>exact .nil
 |@cons p q ps qs h t ih=>
  rw[Av,Av];refine .cons ?_ ih;obtain⟨h1,h2,h3⟩:=h;unfold putAt;by_cases e:p.1=k
  ·rw[Dc e,Dc (h1.symm.trans e)];exact⟨h1,h2,ry⟩
  ·rw[CZ e,CZ (fun z=>e (h1.trans z))];exact⟨h1,h2,h3⟩
theorem KT.put{H:Hp}{kvs:List (List Key×V)}{xs:List (List Key×Addr×Value)}(r:KT H kvs xs)(k:List Key){b:Addr}{y:V}{u:Value}(hb:H b=some (.tup (k.map kV)))(ry:RelV y u) :
  KT H (fL kvs k y) (storedH xs k b u):=by
 have e:(kvs.any fun kv=>decide (kv.1=k))=(atKey xs k).isSome:=by
  rw[jO,(r.val k).En,Cs]
 unfold fL storedH;rw[e];by_cases q:(atKey xs k).isSome=true
 ·rw[Dc q,Dc q];exact r.Kc k ry
 ·rw[CZ q,CZ q];exact Paired.snoc r ⟨rfl,hb,ry⟩
theorem KT.keeps{H H':Hp}{kvs:List (List Key×V)}{xs:List (List Key×Addr×Value)}(r:KT H kvs xs)(ht:∀b ys,H b=some (.tup ys)->H' b=some (.tup ys)):KT H' kvs xs:=
 Paired.EF r fun _ _ z=>⟨z.1,ht _ _ z.2.1,z.2.2⟩
section
variable {P:Program}{w:World}{H:Hp}{h:Heap}{a:Addr}
theorem vy{u:HO}(ok:HOk P w H h)(e:Rd H a u):Eb P w H h a u:=e.ok ok
theorem kK{kvs:List (Key×V)}(ok:HOk P w H h)(e:Rd H a (.dK kvs)):kvs.length<=sizeLine/\(a==sysModules)=false/\∃vs,KV kvs vs/\h.DictOf (aL P w) a vs:=
 show Eb P w H h a (.dK kvs) from vy ok e
theorem qX{kvs:List (Key×V)}(ok:HOk P w H h)(e:H a=some (.dK kvs)):kvs.length<=sizeLine/\(a==sysModules)=false/\∃vs,KV kvs vs/\h.DictOf (aL P w) a vs:=kK ok (.inl e)
theorem ir{ks:List Key}(ok:HOk P w H h)(e:H a=some (.tup (ks.map kV))):(tupleKind (aL P w)).is h ks a:=by
 obtain⟨_,its,r,o,h1,h2,n,h3⟩:=(show Eb P w H h a (.tup (ks.map kV)) from ok a _ e)
 exact⟨o,its.toArray,n,h1,h2,h3,by simpa using iR r⟩
theorem lA{kvs:List (List Key×V)}(ok:HOk P w H h)(e:Rd H a (.dT kvs)):kvs.length<=sizeLine/\(a==sysModules)=false /\
  ∃xs,KT H kvs xs/\h.DictOfH (tupleKind (aL P w)) a xs:=by
 obtain⟨z,y,xs,r,o,es,ep,h1,h2,h3,h4,h5⟩:=(show Eb P w H h a (.dT kvs) from vy ok e)
 refine⟨z,y,xs,r,o,es,ep,h1,h2,h3,h4,fun x hx=>?_,h5⟩;have all:∀{l:List (List Key×V)}{m:List (List Key×Addr×Value)},KT H l m->∀x∈m,(tupleKind (aL P w)).is h x.1 x.2.1:=by
  intro l m q;induction q with
  |nil=>intro x hx;exact nomatch hx
  |@cons p q ps qs hq t ih=>
   intro x hx;rcases Ad.mp hx with e|hx
   ·subst e;exact ir ok (by rw[<- hq.1];exact hq.2.1)
   ·exact ih x hx
 exact all r x hx
theorem wy{kvs:List (List Key×V)}(ok:HOk P w H h)(e:H a=some (.dT kvs)):kvs.length<=sizeLine/\(a==sysModules)=false /\
  ∃xs,KT H kvs xs/\h.DictOfH (tupleKind (aL P w)) a xs:=lA ok (.inl e)
end
def FP (H:Hp)(a:Addr)(y:V)(r:Option V):Prop:=
 (∃kvs k,Rd H a (.dK kvs)/\y=kV k/\r=dZ kvs k)\/∃kvs k b,Rd H a (.dT kvs)/\y=.ref b/\H b=some (.tup (k.map kV))/\r=dZ kvs k
def Hy (H:Hp)(a:Addr)(y v:V)(H':Hp):Prop:=
 (∃kvs k,H a=some (.dK kvs)/\y=kV k/\kvs.length<sizeLine/\H'=upd H a (.dK (fL kvs k v))) \/
 ∃kvs k b,H a=some (.dT kvs)/\y=.ref b/\H b=some (.tup (k.map kV))/\kvs.length<sizeLine/\H'=upd H a (.dT (fL kvs k v))
theorem FP.k{H:Hp}{a:Addr}{kvs:List (Key×V)}{k:Key}(e:H a=some (.dK kvs)):FP H a (kV k) (dZ kvs k):=.inl ⟨kvs,k,.inl e,rfl,rfl⟩
theorem FP.t{H:Hp}{a b:Addr}{kvs:List (List Key×V)}{k:List Key}(e:H a=some (.dT kvs))(eb:H b=some (.tup (k.map kV))):FP H a (.ref b) (dZ kvs k):=.inr ⟨kvs,k,b,.inl e,rfl,eb,rfl⟩
theorem Hy.k{H:Hp}{a:Addr}{kvs:List (Key×V)}{k:Key}{v:V}(e:H a=some (.dK kvs))(hl:kvs.length<sizeLine):Hy H a (kV k) v (upd H a (.dK (fL kvs k v))):=.inl ⟨kvs,k,e,rfl,hl,rfl⟩
theorem Hy.t{H:Hp}{a b:Addr}{kvs:List (List Key×V)}{k:List Key}{v:V}(e:H a=some (.dT kvs))(eb:H b=some (.tup (k.map kV)))(hl:kvs.length<sizeLine) :
  Hy H a (.ref b) v (upd H a (.dT (fL kvs k v))):=.inr ⟨kvs,k,b,e,rfl,eb,hl,rfl⟩
section
variable {X:Cx}{pins:List (Addr×Obj)}{σ:St}{H:Hp}{s:Shared}{a:Addr}{y v:V}{u r:Value}{o:Option V}{A:Around}{E:Value->Shared->Prop}
theorem Inv.big(I:Inv X pins σ H s):sysModules<s.heap.objs.size:=by
 have h:mainGlobals<s.heap.objs.size:=(I.mod.glob.keeps I.bk).lt;exact Bu (by decide) h
theorem mE{Q:Value->Shared->Prop}(hu:A.units+1<cLine)(I:Inv X pins σ H s)(g:FP H a y (some v))(ry:RelV y u)(h:∀w' s',Inv X pins σ H s'->RelV v w'->Q w' s') :
  wpAny (model X.prog X.w) A (getItem (.ref a) u) Q E s:=by
 rcases g with ⟨kvs,k,e,ey,l⟩|⟨kvs,k,b,e,ey,eb,l⟩
 ·subst ey;obtain⟨z,hd,vs,rel,dd⟩:=kK I.hok e;obtain⟨w',hw,rw'⟩:=GD.some_of (v:=v) (o:=valueAt vs k) (by rw[l];exact rel.val k);exact wpAny_getItem_of (gr ry) dd.mapOf hw (h w' _ (I.tok _) rw')
 ·subst ey;cases (show u=Value.ref b from ry);obtain⟨z,hd,xs,rel,dd⟩:=lA I.hok e;obtain⟨w',hw,rw'⟩:=GD.some_of (v:=v) (o:=(atKey xs k).map (·.2)) (by rw[l];exact rel.val k);obtain⟨p,hp,hp2⟩:=Be.mp hw;refine wpAny_getItem_heap (tupleKind_room_in1 hu) (ir I.hok eb) dd hp ?_;rw[hp2];exact h w' _ (I.tok _) rw'
theorem d_in{Q:Value->Shared->Prop}(hu:A.units+1<cLine)(I:Inv X pins σ H s)(g:FP H a y o)(ry:RelV y u)(h:∀s',Inv X pins σ H s'->Q (.bool o.isSome) s') :
  wpAny (model X.prog X.w) A (compareOp .In u (.ref a)) Q E s:=by
 rcases g with ⟨kvs,k,e,ey,l⟩|⟨kvs,k,b,e,ey,eb,l⟩
 ·subst ey;obtain⟨z,hd,vs,rel,dd⟩:=kK I.hok e;refine wpAny_in_of (gr ry) hd dd.mapOf ?_;rw[<- (rel.val k).En,<- l];exact h _ (I.tok _)
 ·subst ey;cases (show u=Value.ref b from ry);obtain⟨z,hd,xs,rel,dd⟩:=lA I.hok e;refine wpAny_in_heap (tupleKind_room_in1 hu) (ir I.hok eb) hd dd ?_;have q:=(rel.val k).En;rw[Cs] at q;rw[<- q,<- l];exact h _ (I.tok _)
theorem rM{Q:Value->Shared->Prop}(hu:A.units+1<cLine)(I:Inv X pins σ H s)(g:FP H a y o)(ry:RelV y u)(h:∀s',Inv X pins σ H s'->Q (.bool (!o.isSome)) s') :
  wpAny (model X.prog X.w) A (compareOp .NotIn u (.ref a)) Q E s:=by
 rcases g with ⟨kvs,k,e,ey,l⟩|⟨kvs,k,b,e,ey,eb,l⟩
 ·subst ey;obtain⟨z,hd,vs,rel,dd⟩:=kK I.hok e;refine wpAny_notIn_of (gr ry) hd dd.mapOf ?_;rw[<- (rel.val k).En,<- l];exact h _ (I.tok _)
 ·subst ey;cases (show u=Value.ref b from ry);obtain⟨z,hd,xs,rel,dd⟩:=lA I.hok e;refine wpAny_notIn_heap (tupleKind_room_in1 hu) (ir I.hok eb) hd dd ?_;have q:=(rel.val k).En;rw[Cs] at q;rw[<- q,<- l];exact h _ (I.tok _)
theorem hW{h':Heap}{t':Nat}{ob:HO}(I:Inv X pins σ H s)(mu:Mut (H a))(hs:Heap.SameBut a s.heap h')(he:∃q,h'.get? a=some q)(new:Eb X.prog X.w (upd H a ob) h' a ob) :
  Inv X pins σ (upd H a ob) {s with heap:=h',toks:=t'}:=
 I.write (x:=a) (e:=a) mu (.inl rfl) (fun b q hb z=>(hs.2 b hb).trans z) he new
theorem nY{P:Program}{w:World}{H':Hp}{h':Heap}{kvs:List (Key×V)}{vs:List (Key×Value)}(z:kvs.length<=sizeLine)(hd:(a==sysModules)=false)(rel:KV kvs vs)(dd:h'.DictOf (aL P w) a vs) :
  Eb P w H' h' a (.dK kvs):=⟨z,hd,vs,rel,dd⟩
theorem lO{H':Hp}{Q:Unit->Shared->Prop}(hu:A.units+1<cLine)(I:Inv X pins σ H s)(g:Hy H a y v H')(ry:RelV y u)(rv:RelV v r)(h:∀s',Inv X pins σ H' s'->Q () s') :
  wpAny (model X.prog X.w) A (setItem (.ref a) u r) Q E s:=by
 rcases g with ⟨kvs,k,e,ey,l,eH⟩|⟨kvs,k,b,e,ey,eb,l,eH⟩
 ·subst ey eH;obtain⟨z,hd,vs,rel,dd⟩:=qX I.hok e;have hz:vs.length<=sizeLine:=by rw[<- rel.length];exact z
  have hl:(fL kvs k v).length<=sizeLine:=by have:=dA kvs k v;lia
  refine wpAny_setItem_pairs (hsz:=hz) (gr ry) dd fun h' dd' hs=>h _ ?_;have he:∃q,h'.get? a=some q:=let ⟨q,_,_,hq,_⟩:=dd';⟨q,hq⟩;exact hW I (by rw[e];exact True.intro) hs he (nY hl hd (rel.put k rv) dd')
 ·subst ey eH;cases (show u=Value.ref b from ry);obtain⟨z,hd,xs,rel,dd⟩:=wy I.hok e;have hz:xs.length<=sizeLine:=by rw[<- Paired.length rel];exact z
  have hl:(fL kvs k v).length<=sizeLine:=by have:=dA kvs k v;lia
  refine wpAny_setItem_heap (hsz:=hz) (tupleKind_room_in1 hu) (ir I.hok eb) dd fun h' dd' hs=>h _ ?_;obtain⟨q,es,ep,hq,h2,h3,h4,_,h5⟩:=dd';refine hW I (by rw[e];exact True.intro) hs ⟨q,hq⟩ ⟨hl,hd,_,(rel.put k eb rv).keeps fun c ys ec=>?_,q,es,ep,hq,h2,h3,h4,h5⟩;rw[ar (dg ec e (fun z=>nomatch z))];exact ec
end
section
variable {X:Cx}{pins:List (Addr×Obj)}{σ:St}{H:Hp}{s:Shared}{a:Addr}{kvs:List (Key×V)}{k:Key}{u:Value}{A:Around}{E:Value->Shared->Prop}
theorem vF{v:V}{more:List Value}{Q:Value->Shared->Prop}(I:Inv X pins σ H s)(e:H a=some (.dK kvs))(ry:RelV (kV k) u)(l:dZ kvs k=some v)(hm:more=[]\/∃x,more=[x])
  (h:∀w' s',Inv X pins σ (upd H a (.dK (cJ kvs k))) s'->RelV v w'->Q w' s'):wpAny (model X.prog X.w) A (call (.builtin "dict.pop") (.ref a::u::more)) Q E s:=by
 obtain⟨z,hd,vs,rel,dd⟩:=qX I.hok e;obtain⟨w',hw,rw'⟩:=GD.some_of (v:=v) (o:=valueAt vs k) (by rw[<- l];exact rel.val k);have hp:(keyPart u).isSome=true:=by
  cases k with
  |inl i=>obtain⟨t,q⟩:=(show ∃t,u=Value.int i t from ry);subst q;rfl
  |inr x=>obtain⟨t,q⟩:=(show ∃t,u=Value.str x t from ry);subst q;rfl
 have ha:argsOk "dict.pop" ⟨.ref a::u::more,[]⟩:=by
  rcases hm with q|⟨x,q⟩
  ·subst q;exact PySem.F.args_dict_pop_2 _ _
  ·subst q;exact PySem.F.args_dict_pop_3 _ _ _
 refine call_meetsIn PySem.F.slot_dict_pop dd.typeIs PySem.F.entry_dict_pop ha (meets_dict_pop_there (aL X.prog X.w) a (gr ry) more hm hp)
  ⟨vs,w',dd,by rw[<- rel.length];exact z,hw,fun h' dd' hs=>h w' _ ?_ rw'⟩
 have he:∃q,h'.get? a=some q:=let ⟨q,_,_,hq,_⟩:=dd';⟨q,hq⟩;exact hW I (by rw[e];exact True.intro) hs he (nY (Ak (oV kvs k) z) hd (rel.drop k) dd')
end
def wJ (i:Expr):Prop:=∀ov iv,subscripted i false ov iv=operate [ov,iv] (getItem ov iv)
theorem mS{prog:Program}{w:World}{A:Around}{E:Value->Shared->Prop}{s:Shared}{env:Env}{value slice:Expr}{pos:Pos}{T id:String}{Q:Value->Shared->Prop}
  (hl:typeLookup (.type T) "__getitem__"=pure (some (.builtin id)))(hs:wJ slice)
  (h:wpAny (model prog w) A (eval value env) (fun o s₁=>wpAny (model prog w) A (eval slice env) (fun i s₂=>s₂.TypeIs o T/\wpAny (model prog w) A (getItem o i) Q E s₂) E s₁) E s) :
  wpAny (model prog w) A (eval (.Subscript value slice pos) env) Q E s:=by
 refine Subscript_ (Df h (fun o s₁ h₁=>Df h₁ (fun i s₂ h₂=>?_) fun _ _ x=>x) fun _ _ x=>x);obtain⟨hT,h₂⟩:=h₂;unfold subscriptTail;refine CU ?_;rw[getitemInPython_of_ne hT.not_modules];refine CU (wpAny_specialOf hT hl ?_);have fin:wpAny (model prog w) A (subscripted slice false o i) (fun r s₃=>wpAny (model prog w) A (letTemporaryGo value o r >>= fun _=>pure r) Q E s₃) E s₂:=by
  rw[hs o i];exact wpAny_operating (Df h₂ (fun r s₃ h₃=>CU (wpAny_letTemporaryGo (CV h₃))) fun _ _ x=>x)
 first
  |exact CV (CU fin)
  |exact CU (CV (CU fin))
  |exact CU fin
theorem jy{X:Cx}{pins:List (Addr×Obj)}{σ:St}{H:Hp}{s:Shared}{a:Addr}{y:V}{o:Option V}(I:Inv X pins σ H s)(g:FP H a y o):s.TypeIs (.ref a) "dict":=by
 rcases g with ⟨kvs,k,e,_,_⟩|⟨kvs,k,b,e,_,_,_⟩
 ·obtain⟨_,_,vs,_,dd⟩:=kK I.hok e;exact dd.typeIs
 ·obtain⟨_,_,xs,_,dd⟩:=lA I.hok e;exact dd.typeIs
def vP (td ty:TE):TE:=fun σ H Q=>td σ H fun x H1=>ty σ H1 fun y H2=>∃a v,x=.ref a/\FP H2 a y (some v)/\Q v H2
def sv (ty td:TE):TE:=fun σ H Q=>ty σ H fun y H1=>td σ H1 fun x H2=>∃a o,x=.ref a/\FP H2 a y o/\Q (.bl (!o.isSome)) H2
def vW (td ty tv:TE):TS:=fun D σ H=>tv σ H fun v H1=>td σ H1 fun x H2=>ty σ H2 fun y H3=>∃a H4,x=.ref a/\Hy H3 a y v H4/\D.nx σ H4
section
variable {X:Cx}{o i e value:Expr}{pos pos' tpos:Pos}{td ty tv:TE}
theorem jK(hu:X.A.units+1<cLine)(ho:PE X o td)(hi:PE X i ty)(hs:wJ i):PE X (.Subscript o i pos) (vP td ty):=by
 intro pins s σ H Q I h;refine mS PySem.F.slot_dict_getitem.lookup hs (thn (ho pins s σ H _ I h) fun u s1 hq53=>?_);obtain⟨x,H1,I1,rx,q1⟩:=hq53;refine thn (hi pins s1 σ H1 _ I1 q1) fun iv s2 ⟨y,H2,I2,ry,a,v,ex,g,q2⟩=>?_;subst ex;obtain rfl:u=Value.ref a:=rx;exact⟨jy I2 g,mE hu I2 g ry fun w' s3 I3 rw'=>⟨v,H2,I3,rw',q2⟩⟩
theorem fA(hu:X.A.units+1<cLine)(hi:PE X i ty)(ho:PE X o td):PC X .NotIn i o (sv ty td):=by
 intro pins s σ H Q I h;refine thn (hi pins s σ H _ I h) fun iv s1 hq54=>?_;obtain⟨y,H1,I1,ry,q1⟩:=hq54;refine thn (ho pins s1 σ H1 _ I1 q1) fun u s2 ⟨x,H2,I2,rx,a,ov,ex,g,q2⟩=>?_;subst ex;obtain rfl:u=Value.ref a:=rx;exact rM hu I2 g ry fun s3 I3=>⟨.bl (!ov.isSome),H2,I3,rfl,q2⟩
theorem jE(hu:X.A.units+1<cLine)(ho:PE X o td)(hi:PE X i ty)(hv:PE X value tv)(hs:swapsWith value (some (.Subscript o i pos')) pos.line X.env=pure false) :
  PS X (.Assign [.Subscript o i pos'] value pos) (vW td ty tv):=by
 intro pins s σ H D I h;refine wpAny_Assign_Subscript (thn (hv pins s σ H _ I h) fun r s1 hq55=>?_) hs;obtain⟨v,H1,I1,rv,q1⟩:=hq55;refine thn (ho pins s1 σ H1 _ I1 q1) fun u s2 ⟨x,H2,I2,rx,q2⟩=>thn (hi pins s2 σ H2 _ I2 q2) fun iv s3 ⟨y,H3,I3,ry,a,H4,ex,g,q3⟩=>?_;subst ex;obtain rfl:u=Value.ref a:=rx;exact lO hu I3 g ry rv fun s4 I4=>⟨σ,H4,I4,q3⟩
end
theorem jR{P:Program}{w:World}{H:Hp}(h:Heap)(hb:sysModules<h.objs.size):Eb P w H (h.push {cls:=.type "dict",data:=.dict #[]}) h.objs.size (.dK []):=
 ⟨Ag _,beq_eq_false_iff_ne.mpr (Dw (Aa hb)),[],.nil,Heap.DictOf.new h⟩
theorem pK{P:Program}{w:World}{H:Hp}(h:Heap)(hb:sysModules<h.objs.size):Eb P w H (h.push {cls:=.type "dict",data:=.dict #[]}) h.objs.size (.dT []):=
 ⟨Ag _,beq_eq_false_iff_ne.mpr (Dw (Aa hb)),[],.nil,_,#[],0,Dy _ rfl,⟨rfl,rfl,rfl⟩,rfl,rfl,List.nodup_nil⟩
def Jg:TE:=fun _ H Q=>∀p,H p=none->Q (.ref p) (upd H p (.dK []))
def Ju:TE:=fun _ H Q=>∀p,H p=none->Q (.ref p) (upd H p (.dT []))
section
variable {X:Cx}{pos:Pos}
theorem Gg:PE X (.Dict [] [] pos) Jg:=fun pins s σ H Q I h=>
 wpAny_Dict_empty ⟨.ref s.heap.objs.size,_,I.laid (a:=s.heap.objs.size) (o:=.dK []) (t':=s.toks) (fun _ _ q=>Dx _ q) (zU _) (jR s.heap I.big),rfl,h _ (I.hok.fresh (zU _))⟩
theorem HK:PE X (.Dict [] [] pos) Ju:=fun pins s σ H Q I h=>
 wpAny_Dict_empty ⟨.ref s.heap.objs.size,_,I.laid (a:=s.heap.objs.size) (o:=.dT []) (t':=s.toks) (fun _ _ q=>Dx _ q) (zU _) (pK s.heap I.big),rfl,h _ (I.hok.fresh (zU _))⟩
end
def GN:List (TE×TE)->St->Hp->(List (V×V)->Hp->Prop)->Prop
 |[],_,H,Q=>Q [] H
 |(tk,tv)::r,σ,H,Q=>tk σ H fun x H1=>tv σ H1 fun y H2=>GN r σ H2 fun ps H3=>Q ((x,y)::ps) H3
abbrev VV:List (V×V)->List (Value×Value)->Prop:=Paired fun p q=>RelV p.1 q.1/\RelV p.2 q.2
def PPs (X:Cx)(pos:Pos)(keys:List (Option Expr))(values:List Expr)(trs:List (TE×TE)):Prop:=
 ∀(pins:List (Addr×Obj))(s:Shared)(σ:St)(H:Hp)(Q:List (V×V)->Hp->Prop),Inv X pins σ H s->GN trs σ H Q ->
  (wq X) (evalPairs (pairTrees keys values X.env pos)) (fun vs s'=>∃ps H',Inv X pins σ H' s'/\VV ps vs/\Q ps H') X.xe s
theorem nH{X:Cx}{pos:Pos}:PPs X pos [] [] []:=fun pins s σ H Q I h=>pairTrees_nil_walk ⟨[],H,I,.nil,h⟩
theorem cU{X:Cx}{pos:Pos}{k v:Expr}{ks:List (Option Expr)}{vs:List Expr}{tk tv:TE}{trs:List (TE×TE)}(hk:PE X k tk)(hv:PE X v tv)(hr:PPs X pos ks vs trs) :
  PPs X pos (some k::ks) (v::vs) ((tk,tv)::trs):=fun pins s σ H Q I h=>
 pairTrees_cons_walk (thn (hk pins s σ H _ I h) fun u s1 ⟨x,H1,I1,rx,q1⟩=>thn (hv pins s1 σ H1 _ I1 q1) fun w2 s2 ⟨y,H2,I2,ry,q2⟩ =>
  thn (hr pins s2 σ H2 _ I2 q2) fun ws s3 ⟨ps,H3,I3,rel,q3⟩=>⟨(x,y)::ps,H3,I3,.cons ⟨rx,ry⟩ rel,q3⟩)
def cD (kvs more:List (Key×V)):List (Key×V):=more.foldl (fun acc kv=>fL acc kv.1 kv.2) kvs
theorem KV.merge:∀{more:List (Key×V)}{rs:List (Key×Value)}{kvs:List (Key×V)}{vs:List (Key×Value)},KV more rs->KV kvs vs->KV (cD kvs more) (merged vs rs):=by
 intro more rs kvs vs r;unfold KV at r;induction r generalizing kvs vs with
 |nil=>intro q;exact q
 |@cons p q ps qs h t ih=>
  intro r0;have e:KV (fL kvs p.1 p.2) (stored vs q.1 q.2):=by
   have:=r0.put p.1 h.2;rw[<- h.1];exact this
  exact ih e
theorem Er:∀(more kvs:List (Key×V)),(cD kvs more).length<=kvs.length+more.length
 |[],kvs=>by show kvs.length<=kvs.length+0;lia
 |p::r,kvs=>by
  have h1:=Er r (fL kvs p.1 p.2);have h2:=dA kvs p.1 p.2;show(cD (fL kvs p.1 p.2) r).length<=_;rw[AE];lia
theorem fV{P:Program}{w:World}:∀{kvs:List (Key×V)}{ws:List (Value×Value)},VV (kvs.map fun kv=>(kV kv.1,kv.2)) ws->∃rs,Carries (aL P w) ws rs/\KV kvs rs
 |[],_,r=>by rw[BO] at r;cases r;exact⟨[],True.intro,.nil⟩
 |p::kvs,_,r=>by
  rw[Av] at r;cases r with
  |@cons a b as bs h t=>
   obtain⟨rs,c,q⟩:=fV (P:=P) (w:=w) t;obtain⟨b1,b2⟩:=b;exact⟨(p.1,b2)::rs,⟨gr h.1,rfl,c⟩,.cons ⟨rfl,h.2⟩ q⟩
def vZ (trs:List (TE×TE)):TE:=fun σ H Q=>∀p,H p=none->GN trs σ (upd H p (.dK [])) fun ps H2=>H2 p=some (.dK [])/\∃kvs:List (Key×V),ps=kvs.map (fun kv=>(kV kv.1,kv.2))/\kvs.length<=15/\Q (.ref p) (upd H2 p (.dK (cD [] kvs)))
theorem mh{X:Cx}{pos:Pos}{keys:List (Option Expr)}{values:List Expr}{trs:List (TE×TE)}(h:PPs X pos keys values trs)(hall:keys.all (·.isSome)=true)(hl:keys.length=values.length)(h0:keys≠[])
  (h15:keys.length<=15):PE X (.Dict keys values pos) (vZ trs):=by
 intro pins s σ H Q I q;have hn:=I.hok.fresh (zU s.heap.objs.size);have I1:=I.laid (a:=s.heap.objs.size) (o:=.dK []) (h':=s.heap.push {cls:=.type "dict",data:=.dict #[]}) (t':=s.toks) (fun _ _ q=>Dx _ q) (zU _) (jR s.heap I.big);refine wpAny_Dict_walk (knd:=aL X.prog X.w) hall hl h0 h15 (thn (h pins _ σ _ _ I1 (q _ hn)) fun ws s2 hq56=>?_);obtain⟨ps,H2,I2,rel,e,kvs,ep,lk,q2⟩:=hq56;subst ep;obtain⟨rs,c,rk⟩:=fV (P:=X.prog) (w:=X.w) rel;obtain⟨z,hd,vs0,r0,dd⟩:=qX I2.hok e;cases r0;refine⟨rs,c,dd,fun h' dd' hs=>⟨.ref s.heap.objs.size,_,?_,rfl,q2⟩⟩;have hz:(cD [] kvs).length<=sizeLine:=by
  have h1:=Er kvs [];rw[List.length_nil] at h1;rw[sizeLine_eq];lia
 have he:∃q,h'.get? s.heap.objs.size=some q:=let ⟨q,_,_,hq,_⟩:=dd';⟨q,hq⟩;exact hW I2 (by rw[e];exact True.intro) hs he (nY hz hd (rk.merge .nil) dd')
structure M1(X:Cx)(o:Expr)(m:Str)(apos:Pos)(e:Expr)(cpos:Pos):Prop where
 base:attributeBase o m X.env (eval o X.env)=eval o X.env
 few:((backTo cpos (starEach [e] X.env)).all (fun x=>!x.1) && (backToKw cpos (keywordEach [] X.env)).all (fun x=>x.1.isSome)
  && decide (([e]:List Expr).length+([]:List Keyword).length+(if ([]:List Keyword).isEmpty then 0 else 1) < 30))=true
 line:(apos.endLine==cpos.line)=true
 trees:backTo cpos (starEach [e] X.env)=[(false,eval e X.env)]
def IsD (H:Hp)(a:Addr):Prop:=(∃kvs,Rd H a (.dK kvs))\/∃kvs,Rd H a (.dT kvs)
theorem tO{X:Cx}{pins:List (Addr×Obj)}{σ:St}{H:Hp}{s:Shared}{a:Addr}(I:Inv X pins σ H s)(d:IsD H a) :
  s.TypeIs (.ref a) "dict"/\(∀b,Value.ref a=.ref b->∃ob,s.heap.get? b=some ob/\ob.dict=none)/\(a==sysModules)=false:=by
 rcases d with ⟨kvs,e⟩|⟨kvs,e⟩
 ·obtain⟨_,hd,vs,_,dd⟩:=kK I.hok e;refine⟨dd.typeIs,fun b q=>?_,hd⟩;cases q;obtain⟨ob,_,_,h1,h2,_⟩:=dd;exact⟨ob,h1,h2.2.1⟩
 ·obtain⟨_,hd,xs,_,dd⟩:=lA I.hok e;refine⟨dd.typeIs,fun b q=>?_,hd⟩;cases q;obtain⟨ob,_,_,h1,h2,_⟩:=dd;exact⟨ob,h1,h2.2.1⟩
def uM (td ty:TE):TE:=fun σ H Q=>td σ H fun x H1=>∃a,x=.ref a/\IsD H1 a/\ty σ H1 fun y H2=>∃kvs k v,H2 a=some (.dK kvs)/\y=kV k/\dZ kvs k=some v/\Q v (upd H2 a (.dK (cJ kvs k)))
section
variable {X:Cx}{o e f:Expr}{apos cpos:Pos}{td ty tx:TE}
theorem pB(ho:PE X o td)(he:PE X e ty)(m:M1 X o "pop" apos e cpos):PE X (.Call (.Attribute o "pop" apos) [e] [] cpos) (uM td ty):=by
 intro pins s σ H Q I h;refine wpAny_Call_method m.base m.few m.line PySem.F.plainAttrs_dict PySem.F.slot_dict_pop PySem.F.type_dict_pop (thn (ho pins s σ H _ I h) fun u s1 hq57=>?_);obtain⟨x,H1,I1,rx,a,ex,d,q1⟩:=hq57;subst ex;obtain rfl:u=Value.ref a:=rx;obtain⟨t1,t2,_⟩:=tO I1 d;refine⟨t1,t2,?_⟩;rw[m.trees];refine Calls.callWith_builtin rfl (Calls.evalArgs_plain (Calls.spliced_cons (thn (he pins s1 σ H1 _ I1 q1) fun iv s2 hq58=>?_)));obtain⟨y,H2,I2,ry,kvs,k,v,ea,ey,l,q2⟩:=hq58;refine Calls.spliced_nil ?_;subst ey;exact vF I2 ea ry l (.inl rfl) fun w' s3 I3 rw'=>⟨v,_,I3,rw',q2⟩
end
mutual
inductive EH(K:W.Frag)(H:Hp):V->PyData->Prop
 |non:EH K H .non .none
 |bl (b:Bool):EH K H (.bl b) (.bool b)
 |int (i:Int):EH K H (.int i) (.int i)
 |str (x:Str):EH K H (.str x) (.str x)
 |lst {a:Addr}{xs:List V}{ds:List PyData}:SqL K H a xs->DatAll K H xs ds->EH K H (.ref a) (.list ds)
 |tup {a:Addr}{xs:List V}{ds:List PyData}:SqT K H a xs->DatAll K H xs ds->EH K H (.ref a) (.tuple ds)
inductive DatAll(K:W.Frag)(H:Hp):List V->List PyData->Prop
 |nil:DatAll K H [] []
 |cons {v:V}{d:PyData}{vs:List V}{ds:List PyData}:EH K H v d->DatAll K H vs ds->DatAll K H (v::vs) (d::ds)
end
theorem DN.Kf{K:W.Frag}{H H':Hp}{a:Addr}{xs:List V}(e:DN H H')(h:SqT K H a xs):SqT K H' a xs:=by
 rcases h with (h|⟨o,h⟩)|h
 ·exact .inl (.inl (e _ _ h))
 ·exact .inl (.inr ⟨o,e _ _ h⟩)
 ·exact .inr h
theorem af{H:Hp}{p:Addr}(h:H p=none)(o:HO):DN H (upd H p o):=fun b u q=>by rw[ar (az q h)];exact q
section
variable {X:Cx}{pins:List (Addr×Obj)}{σ:St}{H:Hp}{s:Shared}
mutual
theorem Inv.reads(I:Inv X pins σ H s):∀{v:V}{d:PyData}{u:Value},EH X.K H v d->RelV v u->∃as,Reads s.heap u d as
 |_,_,_,.non,r=>by cases r;exact⟨_,.none⟩
 |_,_,_,.bl b,r=>by cases r;exact⟨_,.bool b⟩
 |_,_,_,.int i,r=>by obtain⟨t,rfl⟩:=r;exact⟨_,.int i t⟩
 |_,_,_,.str x,r=>by obtain⟨t,rfl⟩:=r;exact⟨_,.str x t⟩
 |_,_,_,.lst h q,r=>by
  cases r;obtain⟨its,rv,⟨o,n,e,c,dd,d⟩,hz⟩:=I.list h;obtain⟨as,z⟩:=I.readsAll q rv;exact⟨_,.list e c d (by simpa using z)⟩
 |_,_,_,.tup h q,r=>by
  cases r;obtain⟨its,rv,⟨o,e,c,n,d⟩,hz⟩:=I.tuple h;obtain⟨as,z⟩:=I.readsAll q rv;exact⟨_,.tuple e c d (by simpa using z)⟩
theorem Inv.readsAll(I:Inv X pins σ H s):∀{vs:List V}{ds:List PyData}{us:List Value},DatAll X.K H vs ds->Vals vs us->∃as,ReadsAll s.heap us ds as
 |_,_,_,.nil,.nil=>⟨_,.nil⟩
 |_,_,_,.cons h q,.cons r t=>by
  obtain⟨as,z⟩:=I.reads h r;obtain⟨bs,y⟩:=I.readsAll q t;exact⟨_,.cons z y⟩
end
def wY (K:W.Frag)(neg:Bool):R2:=fun x y H Q=>∃d e,EH K H x d/\EH K H y e/\d.canLay0=true/\e.canLay0=true/\d.depth<=60/\Q (.bl (if neg then !PyData.eqv d e else PyData.eqv d e)) H
theorem cF(hu:X.A.units+64<cLine):OpR X (compareOp .NotEq) (wY X.K true):=by
 intro pins s σ H x y v u Q I rx ry h;obtain⟨d,e,hd,he,c1,c2,hp,q⟩:=h;obtain⟨as,ra⟩:=I.reads hd rx;obtain⟨bs,rb⟩:=I.reads he ry;exact SeqAt.compareNe_reads ra rb c1 c2 (by have:=Ct d.depth e.depth;lia) ⟨.bl _,H,I,rfl,q⟩
end
def vB (i j:Int):Prop:=Builtin.Int.intBits i<=2^20/\Builtin.Int.intBits j<=2^20
theorem bD{X:Cx}:OpR X (binaryOp .Mult) (rI vB fun i j=>.int (i*j)):=opI fun _ _ _ _ _ _ _ hc q=>mul_int q (IntMulOk.of_bits hc.1 hc.2)
def Its (x:Str):It:=⟨fun i _=>i<x.cps.size,fun i H v H'=>H'=H/\∃c,x.cps[i]?=some c/\v=.str ⟨#[c]⟩,fun i _=>x.cps.size<=i⟩
theorem oJ{P:Program}{w:World}{K:W.Frag}{tg:Expr}(it:Addr)(x:Str)(t:Tok):Turn P w K tg (Its x) [it] it (fun i h=>h.IsStrIter it "str_ascii_iterator" x t i) where
 mem:=by simp
 obj:=fun i h st b hb=>by
  have e:b=it:=by simpa using hb
  subst e;obtain⟨o,e,c,d⟩:=st;exact⟨o,e,fun v z=>by rw[d] at z;cases z⟩
 keep:=fun i h h' st k=>by
  obtain⟨o,e,r⟩:=st;exact⟨o,k it (by simp) o e,r⟩
 item:=by
  intro X hP hw hK hc i pins s σ H E I hf st hg;subst hP hw hK;obtain⟨f0,f1,f2,f3,f4,f5⟩:=hf it (by simp);have hi:i<x.cps.size:=hg;refine wpAny_pyNext_ascii_item st (c:=x.cps[i]) (by simp[hi]) fun h' st' sb=>?_;have I1:Inv X pins σ H {s with heap:=h',toks:=s.toks+1}:=I.turned (fun b o hb e=>(sb.2 b hb).trans e) f0 f1 f3 f4 f5;obtain⟨o,e,c,d⟩:=id st';exact⟨_,rfl,pM (s:={s with heap:=h',toks:=s.toks+1}) e c d (by decide) ⟨.str ⟨#[x.cps[i]]⟩,H,I1,⟨_,rfl⟩,⟨rfl,_,by simp[hi],rfl⟩,st',fun b hb=>(hf b hb).1⟩⟩
 done:=by
  intro X hP hw hK hc i pins s σ H E I hf st hg;subst hP hw hK;obtain⟨f0,f1,f2,f3,f4,f5⟩:=hf it (by simp);have hi:x.cps.size<=i:=hg;exact wpAny_pyNext_ascii_end (I.ok.hd hc) st (by simp;lia) fun h' eb=>⟨rfl,I.turned (t':=s.toks) (fun b o hb e=>eb b o hb e) f0 f1 f3 f4 f5⟩
 self:=fun A i s Q E st h=>by
  obtain⟨o,e,c,d⟩:=id st;refine wpAny_pyIter_slot (Heap.IsStrIter.typeIs st) F.slot_str_ascii_iterator_iter (DE F.slot_str_ascii_iterator_iter (Heap.IsStrIter.typeIs st) F.entry_str_ascii_iterator_iter ?_ (F.args_str_ascii_iterator_iter_1 _));show wpAny _ _ (ret (.ref it)) _ _ s;exact CV ⟨_,rfl,"str_ascii_iterator",_,Heap.IsStrIter.typeIs st,F.slot_str_ascii_iterator_next.lookup,h⟩
section
variable {X:Cx}{tg:Expr}
def iStr (tl:TE):TI:=fun σ H R=>tl σ H fun x H1=>∃z,x=.str z/\z.cps.all (·<128)=true/\R (Its z) H1
theorem mH{l:Expr}{tl:TE}(hl:PE X l tl):PI X tg l (iStr tl):=by
 intro pins s σ H R I h;refine thn (hl pins s σ H _ I h) fun v s1 hq59=>?_;obtain⟨x,H1,I1,r1,q1⟩:=hq59;obtain⟨z,e,ha,q⟩:=q1;subst e;obtain⟨t,rfl⟩:=r1;refine wpAny_pyIter_ascii ha ?_;refine⟨s1.heap.objs.size,[s1.heap.objs.size],_,_,H1,rfl,I1.kept (t':=s1.toks) fun b o e=>Dx _ e,oJ _ z t,⟨_,Dy _ rfl,rfl,rfl⟩,fun b hb=>?_,q⟩;have e:b=s1.heap.objs.size:=by simpa using hb
 subst e;exact I1.IA (zU _) (I1.hok.fresh (zU _))
def Nx (n i:Nat)(P:Nat->List V->Hp->Prop)(ys:List V)(H:Hp):Prop:=∃m',m'<n-i/\(m'=n-(i+1)/\i+1<=n/\P (i+1) ys H)
theorem Nx.mk{n i:Nat}{P:Nat->List V->Hp->Prop}{ys:List V}{H:Hp}(hi:i<n)(h:P (i+1) ys H):Nx n i P ys H:=⟨n-(i+1),by lia,rfl,hi,h⟩
theorem fo{J:It}{n k:Nat}{js:List Nat}{g:TG}{tc:TT}{te:TE}{σ:St}{H:Hp}{Q:VK}(P:Nat->List V->Hp->Prop)(h0:P 0 [] H)(hz:∀i ys H,i<=n->P i ys H->ys.length<=i)(hn:n<=sizeLine)
  (hgo:∀i ys H,i<n->P i ys H->J.go i H)(hstop:∀ys H,P n ys H->J.stop n H)
  (hs:∀i ys H x H',i<n->P i ys H->J.yld i H x H'->g x (List.replicate k none++cx js σ) H' fun σ2 H2=>tc σ2 H2 fun b H3=>if b=true then te σ2 H3 fun y H4=>Nx n i P (ys++[y]) H4 else Nx n i P ys H3)
  (hd:∀ys H,P n ys H->∀p,H p=none->Q (.ref p) (upd H p (.lst ys))) :
  ig J k js g tc te σ H Q:=by
 refine⟨fun i m ys H=>m=n-i/\i<=n/\P i ys H,⟨n,by simp,Ag _,h0⟩,?_⟩;rintro i m ys H ⟨rfl,hi,p⟩;have hy:=hz i ys H hi p;by_cases hlt:i<n
 ·exact .inr ⟨hgo i ys H hlt p,by lia,fun x H' y=>hs i ys H x H' hlt p y⟩
 ·have e:i=n:=by lia
  subst e;exact .inl ⟨hstop ys H p,by lia,hd ys H p⟩
theorem lW{lo:Int}{n k:Nat}{js:List Nat}{g:TG}{tc:TT}{te:TE}{σ:St}{H:Hp}{Q:VK}(P:Nat->List V->Hp->Prop)(h0:P 0 [] H)(hz:∀i ys H,i<=n->P i ys H->ys.length<=i)(hn:n<=sizeLine)
  (hs:∀i ys H,i<n->P i ys H->g (.int (lo+i)) (List.replicate k none++cx js σ) H fun σ2 H2=>tc σ2 H2 fun b H3=>if b=true then te σ2 H3 fun y H4=>Nx n i P (ys++[y]) H4 else Nx n i P ys H3)
  (hd:∀ys H,P n ys H->∀p,H p=none->Q (.ref p) (upd H p (.lst ys))) :
  ig (Itr lo n) k js g tc te σ H Q:=
 fo P h0 hz hn (fun _ _ _ h _=>h) (fun _ _ _=>zU _) (fun i ys H x H' hi p y=>by obtain⟨e,y⟩:=y;subst e y;exact hs i ys _ hi p) hd
theorem bZ{K:W.Frag}{a:Addr}{xs:List V}{k:Nat}{js:List Nat}{g:TG}{tc:TT}{te:TE}{σ:St}{H:Hp}{Q:VK}(P:Nat->List V->Hp->Prop)(h0:P 0 [] H)(hz:∀i ys H,i<=xs.length->P i ys H->ys.length<=i)(hn:xs.length<=sizeLine)
  (hl:∀i ys H,i<=xs.length->P i ys H->SqL K H a xs)
  (hs:∀i x ys H,xs[i]?=some x->P i ys H->g x (List.replicate k none++cx js σ) H fun σ2 H2=>tc σ2 H2 fun b H3=>if b=true then te σ2 H3 fun y H4=>Nx xs.length i P (ys++[y]) H4 else Nx xs.length i P ys H3)
  (hd:∀ys H,P xs.length ys H->∀p,H p=none->Q (.ref p) (upd H p (.lst ys))) :
  ig (Itl K a) k js g tc te σ H Q:=
 fo P h0 hz hn (fun i ys H hi p=>⟨xs,xs[i],hl i ys H (AS hi) p,by simp[hi]⟩) (fun ys H p=>⟨xs,hl _ ys H (zU _) p,zU _⟩)
  (fun i ys H x H' hi p y=>by obtain⟨e,y⟩:=y;subst e;exact hs i x ys _ (y xs (hl i ys _ (AS hi) p)) p) hd
theorem wH{K:W.Frag}{a:Addr}{xs:List V}{k:Nat}{js:List Nat}{g:TG}{tc:TT}{te:TE}{σ:St}{H:Hp}{Q:VK}(P:Nat->List V->Hp->Prop)(h0:P 0 [] H)(hz:∀i ys H,i<=xs.length->P i ys H->ys.length<=i)(hn:xs.length<=sizeLine)
  (hl:∀i ys H,i<=xs.length->P i ys H->SqT K H a xs)
  (hs:∀i x ys H,xs[i]?=some x->P i ys H->g x (List.replicate k none++cx js σ) H fun σ2 H2=>tc σ2 H2 fun b H3=>if b=true then te σ2 H3 fun y H4=>Nx xs.length i P (ys++[y]) H4 else Nx xs.length i P ys H3)
  (hd:∀ys H,P xs.length ys H->∀p,H p=none->Q (.ref p) (upd H p (.lst ys))) :
  ig (Itt K a) k js g tc te σ H Q:=
 fo P h0 hz hn (fun i ys H hi p=>⟨xs,xs[i],hl i ys H (AS hi) p,by simp[hi]⟩) (fun ys H p=>⟨xs,hl _ ys H (zU _) p,zU _⟩)
  (fun i ys H x H' hi p y=>by obtain⟨e,y⟩:=y;subst e;exact hs i x ys _ (y xs (hl i ys _ (AS hi) p)) p) hd
theorem qJ{z:Str}{k:Nat}{js:List Nat}{g:TG}{tc:TT}{te:TE}{σ:St}{H:Hp}{Q:VK}(P:Nat->List V->Hp->Prop)(h0:P 0 [] H)(hz:∀i ys H,i<=z.cps.size->P i ys H->ys.length<=i)(hn:z.cps.size<=sizeLine)
  (hs:∀i c ys H,z.cps[i]?=some c->P i ys H->g (.str ⟨#[c]⟩) (List.replicate k none++cx js σ) H fun σ2 H2=>tc σ2 H2 fun b H3=>if b=true then te σ2 H3 fun y H4=>Nx z.cps.size i P (ys++[y]) H4 else Nx z.cps.size i P ys H3)
  (hd:∀ys H,P z.cps.size ys H->∀p,H p=none->Q (.ref p) (upd H p (.lst ys))) :
  ig (Its z) k js g tc te σ H Q:=
 fo P h0 hz hn (fun i ys H hi p=>hi) (fun ys H p=>zU _)
  (fun i ys H x H' hi p y=>by obtain⟨e,c,y,rfl⟩:=y;subst e;exact hs i c ys _ y p) hd
theorem boolsOf:∀{bs:List Bool}{us:List Value},Vals (bs.map V.bl) us->us=bs.map Value.bool
 |[],_,.nil=>rfl
 |b::r,_,.cons h t=>by cases h;rw[boolsOf t];rfl
theorem kD(hc:X.calm=true):cg X (.builtin "all") (fun xs H Q=>∃(p:Addr)(bs:List Bool),xs=[.ref p]/\SqL X.K H p (bs.map V.bl)/\Q (.bl (bs.all id)) H):=by
 intro pins s σ H xs us Q I r h;obtain⟨p,bs,rfl,hq,q⟩:=h;obtain⟨u,rfl,rx⟩:=dF r;cases rx;obtain⟨its,rv,pl,hz⟩:=I.list hq;have hh:X.A.in1.handled=none:=I.ok.hd hc;have e:=boolsOf rv;subst e;have hp:p<s.heap.objs.size:=by obtain⟨o,n,e,_⟩:=pl;exact Di e
 refine call_all_walk (wpAny_pyIter_list pl.isList ⟨s.heap.objs.size,_,_,_,_,_,fun i=>bs.getD i false,rfl,Walks.list hh s.heap.objs.size p (Aa hp) _,⟨⟨_,Dy _ rfl,rfl,rfl⟩,pl.isList.push _⟩,?_,fun h' tk hk=>?_⟩)
 ·intro i v s' Q' E' hv q';have hv':(bs.map Value.bool)[i]?=some v:=by simpa using hv
  rw[Ao] at hv';cases eb:bs[i]? with
  |none=>rw[eb] at hv';cases hv'
  |some b=>
   rw[eb] at hv';cases hv';refine wpAny_truthy_bool ?_;have q2:Q' (bs.getD i false) s':=q';rw[Am,eb] at q2;exact q2
 ·have e:(List.range (bs.map Value.bool).toArray.size).all (fun i=>bs.getD i false)=bs.all id:=by
   rw[Dz,AZ,AZ];constructor
   ·intro h b hb;obtain⟨i,hi,rfl⟩:=Cv.mp hb;have:=h i (AY.mpr (by simpa using hi));rw[Am,Ac hi] at this;exact this
   ·intro h i hi;have hi':i<bs.length:=by simpa using AY.mp hi
    rw[Am,Ac hi'];exact h _ (Ay hi')
  rw[e];refine⟨.bl _,H,?_,rfl,q⟩;have I1:Inv X pins σ H {s with heap:=s.heap.push {cls:=.type "list_iterator",data:=.fields #[.ref p,.int 0 0]},toks:=s.toks}:=I.kept fun b o e=>Dx _ e;refine I1.turned (it:=s.heap.objs.size) (fun b o hb e=>hk b o (by simpa using hb) e) (I.hok.fresh (zU _)) (BC I.lt) (.inr (Heap.get?_none_of_le I.sz)) (fun x c e z=>?_) fun p hp z=>?_
  ·obtain⟨v,o,ho,_⟩:=I.cell x c e;rw[z] at ho;exact absurd (Di ho) (AC _)
  ·have:=(I.pin p hp).1;rw[z] at this;exact absurd (Di this) (AC _)
theorem strsOf:∀{zs:List Str}{us:List Value},Vals (zs.map V.str) us->StrsAre us zs
 |[],_,.nil=>.nil
 |z::r,_,.cons h t=>by obtain⟨tk,rfl⟩:=h;exact .cons z tk (strsOf t)
def tD (K:W.Frag):V->List V->Hp->VK->Prop:=fun x vs H Q=>∃(z:Str)(p:Addr)(zs:List Str),x=.str z/\vs=[.ref p]/\SqL K H p (zs.map V.str)/\(zs.map (·.length)).sum+zs.length*z.length<=16777216/\Q (.str (Txt.join z zs)) H
theorem II:MtR X "str.join" (tD X.K):=by
 intro pins s σ H x vs v us Q I rx rv h;obtain⟨z,p,zs,rfl,rfl,hq,hz,q⟩:=h;obtain⟨t,rfl⟩:=rx;obtain⟨u,rfl,ru⟩:=rv.one;cases ru;obtain⟨its,r',pl,_⟩:=I.list hq;exact join_list pl.isList (by simpa using strsOf r') hz fun t' k=>⟨.str _,H,I.tok _,⟨_,rfl⟩,q⟩
def clsV:V->Option Value
 |.ty T=>some (.type T)
 |.ref a=>some (.ref a)
 |_=>none
def rIsT (K:W.Frag):List V->Hp->VK->Prop:=fun xs H Q=>∃x y t c b,xs=[x,y]/\clsV y=some c/\FQ K H x t/\W.kitOne K t c=some b/\Q (.bl b) H
theorem Ez:cg X (.builtin "isinstance") (rIsT X.K):=by
 intro pins s σ H xs us Q I r h;obtain⟨x,y,t,c,b,rfl,ec,ty,e,q⟩:=h;obtain⟨u,u',rfl,rx,ry⟩:=qW r;have:u'=c:=by
  cases y with
  |ref _=>cases ry;exact Dj ec
  |ty _=>cases ry;exact Dj ec
  |_=>cases ec
 subst this;exact ng I rx ty e fun tk=>⟨.bl b,H,I.tok _,rfl,q⟩
def IK:V->List V->Hp->VK->Prop:=fun x vs H Q=>∃d o kvs more,x=.ref d/\vs=[.ref o]/\d≠o/\H d=some (.dK kvs)/\H o=some (.dK more)/\kvs.length+more.length<=sizeLine/\Q .non (upd H d (.dK (cD kvs more)))
theorem Ho:MtR X "dict.update" IK:=by
 intro pins s σ H x vs v us Q I rx rv h;obtain⟨d,o,kvs,more,rfl,rfl,hne,hd,ho,hz,q⟩:=h;cases rx;obtain⟨u,rfl,ru⟩:=rv.one;cases ru;obtain⟨z1,y1,ws1,r1,d1⟩:=(show Eb X.prog X.w H s.heap d (.dK kvs) from I.hok d _ hd)
 obtain⟨z2,y2,ws2,r2,d2⟩:=(show Eb X.prog X.w H s.heap o (.dK more) from I.hok o _ ho)
 have l1:kvs.length=ws1.length:=Paired.length r1;have l2:more.length=ws2.length:=Paired.length r2;refine PySem.call_meetsIn F.slot_dict_update d1.typeIs F.entry_dict_update (F.args_dict_update_2 _ _) (meets_dict_update (aL X.prog X.w) d o hne y2) ⟨ws1,ws2,d1,d2,by lia,fun h' e1 e2 hs=>?_⟩;refine⟨.non,_,I.write (x:=d) (e:=d) (o:=.dK (cD kvs more)) (t':=s.toks) (by rw[hd];trivial) (.inl rfl) (fun b u hb e=>hs.extBut b u hb e) ?_ ?_,rfl,q⟩
 ·obtain⟨o',es,ep,g,_⟩:=e1;exact⟨o',g⟩
 ·exact⟨Ak (Er more kvs) hz,y1,_,r2.merge r1,e1⟩
end
def Kp (F:Addr->Prop)(fs:List Addr)(h h':Heap):Prop:=
 (∀b o,h.get? b=some o->¬F b->b∉fs->h'.get? b=some o)/\(∀b o,h.get? b=some o->¬F b->∃sl,h'.get? b=some {o with slots:=sl})/\∀b o,h.get? b=some o->∃o',h'.get? b=some o'
section
variable {X:Cx}{pins:List (Addr×Obj)}{σ:St}{H:Hp}{s:Shared}{h':Heap}
theorem Inv.JF{t':Nat}(I:Inv X pins σ H s)(k:Kp (Em X pins H) (frs X.stack) s.heap h'):Inv X pins σ H {s with heap:=h',toks:=t'}:=by
 classical
 have nf:∀b o,H b=some o->¬Em X pins H b:=fun b o e f=>by rw[f.1] at e;cases e
 have ns:∀b o,H b=some o->b∉frs X.stack:=fun b o e z=>by rw[I.Fj b z] at e;cases e
 have hch:∀b∈(List.range s.heap.objs.size).filter (fun b=>decide (Em X pins H b)),Em X pins H b:=fun b hb=>Dh (AK.mp hb).2;have nch:∀b o,s.heap.get? b=some o->b∉(List.range s.heap.objs.size).filter (fun b=>decide (Em X pins H b))->¬Em X pins H b:=fun b o e n f=>
  n (AK.mpr ⟨AY.mpr (Di e),Dd f⟩)
 have stk:∀b,b≠X.env.locals->b∉X.fs->b∉frs X.stack:=fun b h1 h2 z=>(Ad.mp (I.FD b z)).elim h1 h2;refine I.step (g':=s.gens) (d':=s.drawn) (ch:=(List.range s.heap.objs.size).filter (fun b=>decide (Em X pins H b))) (fun b hb=>?_) (fun b o hL hb hc e n=>k.1 b o e (nch b o e hc) (stk b hL hb)) (fun b o hL hb hc e n=>k.2.1 b o e (nch b o e hc))
  (fun b o hc e n=>n) (fun b o hc e=>k.2.2 b o e) (fun _ _ e=>e) (fun _ _ _ e=>e) (fun b ps e=>⟨#[],by rw[e];simp⟩) (fun m hm=>?_) (fun b o e=>?_) I.bare
 ·obtain⟨f0,f1,f2,f3,f4,f5⟩:=hch b hb;exact⟨f3,f1,f4,f5⟩
 ·obtain⟨o,es,ep,ho,r⟩:=hm;obtain⟨sl,q⟩:=k.2.1 _ o ho fun f=>f.2.1 rfl;exact⟨_,es,ep,q,r⟩
 ·refine(I.hok b o e).GB (fun c u hc q=>?_) (fun _ q=>q) fun _ _ q=>q;rcases hc with z|z
  ·subst z;exact k.1 _ u q (nf _ o e) (ns _ o e)
  ·exact k.1 c u q (nf c _ z) (ns c _ z)
theorem Inv.Hr(I:Inv X pins σ H s):∀b,s.heap.objs.size<=b->Em X pins H b:=fun b hb=>I.IA hb (I.hok.fresh hb)
end
abbrev XS:=Value->St->Hp->Prop
section
variable {P:Program}{w:World}{K:PySem.W.Frag}{mg:Str->Option Value}{base:Heap}
theorem EG.calm{k:Nat}{A:Around}{env:Env}(r:EG k (A.deeper env)):A.handled.isNone=true:=by
 have:=r.hd;have h2:A.handled=none:=this;rw[h2];rfl
end
section
variable {X:Cx}{pins:List (Addr×Obj)}{σ:St}{H:Hp}{s:Shared}
theorem Inv.Ka{b:Addr}{o:HO}(I:Inv X pins σ H s)(f:Em X pins H b)(ob:Eb X.prog X.w (upd H b o) s.heap b o):Inv X pins σ (upd H b o) s:=by
 obtain⟨f0,f1,f2,f3,f4,f5⟩:=f;have nb:∀c u,H c=some u->c≠b:=fun c u e z=>by rw[z,f0] at e;cases e
 refine⟨I.ok,I.os,I.bare,⟨I.base.keep,I.base.slot,fun c u e n hx=>?_,I.base.there,fun c xs e=>?_,fun c u xs e=>?_,fun c ps e=>?_⟩,I.loc,I.cell,?_,fun x c e=>?_,fun p hp=>?_,fun c u e=>?_,I.len⟩
 ·have z:c≠b:=fun z=>by
   subst z;rcases f3 with q|q
   ·exact hx q
   ·rw[q] at e;cases e
  rw[ar z];exact I.base.free c u e n hx
 ·have q:=I.base.Ha c xs e;rw[ar (nb c _ q)];exact q
 ·have q:=I.base.GG c u xs e;rw[ar (nb c _ q)];exact q
 ·obtain⟨more,q⟩:=I.base.GH c ps e;exact⟨more,by rw[ar (nb c _ q)];exact q⟩
 ·rw[ar (Dw f1)];exact I.free
 ·rw[ar (f4 x c e)];exact I.Es x c e
 ·obtain⟨a1,a2,a3⟩:=I.pin p hp;exact⟨a1,by rw[ar (f5 p hp)];exact a2,a3⟩
 ·by_cases z:c=b
  ·subst z;rw[ae] at e;cases e;exact ob
  ·rw[ar z] at e;refine(I.hok c u e).GB (fun _ _ _ q=>q) (fun a q=>?_) fun a xs q=>?_
   ·rw[ar (nb a _ q)];exact q
   ·rw[ar (nb a _ q)];exact q
end
end L2
namespace L2
open PySem PySem.Spec PyProof.Rows
def qj {α:Type}(xs:List α)(lo hi:Option Int):List α:=(xs.drop (HT.sIx xs.length 0 lo)).take (HT.sIx xs.length xs.length hi-HT.sIx xs.length 0 lo)
theorem uW(lo hi:Option Int)(n:Nat):Builtin.Str.strSliceIndices lo hi 1 n=(List.range (HT.sIx n n hi-HT.sIx n 0 lo)).map fun k=>HT.sIx n 0 lo+k:=by
 have clipA:∀v:Int,max 0 (min (if v<0 then v+(n:Int) else v) (n:Int))=(((if v<0 then (v+(n:Int)).toNat else min v.toNat n):Nat):Int):=fun v=>by
  split<;>lia
 have key:∀i j:Nat,sliceRange (i:Int) (j:Int) 1=(List.range (j-i)).map fun k=>i+k:=fun i j=>by
  unfold sliceRange;simp only[show(1:Int)>0 by decide,if_true];have e:(if (i:Int)<(j:Int) then ((j:Int)-(i:Int)+1-1)/1 else 0).toNat=j-i:=by
   split<;>lia
  rw[e];apply BG;intro k _;lia
 have lo':(match lo with|none=>(0:Int)|some i=>max 0 (min (if i<0 then i+(n:Int) else i) (n:Int)))=((HT.sIx n 0 lo:Nat):Int):=by
  cases lo with
  |none=>rfl
  |some v=>exact clipA v
 have hi':(match hi with|none=>(n:Int)|some i=>max 0 (min (if i<0 then i+(n:Int) else i) (n:Int)))=((HT.sIx n n hi:Nat):Int):=by
  cases hi with
  |none=>rfl
  |some v=>exact clipA v
 rw[<- key,<- lo',<- hi'];rfl
theorem mJ{α:Type}(xs:List α)(i m:Nat)(h:i+m<=xs.length):((List.range m).map fun k=>i+k).filterMap (fun j=>xs[j]?)=(xs.drop i).take m:=by
 induction m with
 |zero=>simp
 |succ m ih=>
  have hm:i+m<xs.length:=by lia
  rw[List.range_succ,An,Cw,ih (by lia),Au,List.getElem?_drop,Ac hm];simp[hm]
theorem cY(z:Str)(lo hi:Option Int):(Txt.slice z lo hi).cps.toList=qj z.cps.toList lo hi:=by
 have hn:z.length=z.cps.toList.length:=rfl;unfold Txt.slice;have e:=uW lo hi z.length;have h1:=HT.Iz z.length 0 (Ag _) lo;have h2:=HT.Iz z.length z.length (zU _) hi;rw[e];split
 ·rename_i c;have c':(HT.sIx z.length z.length hi-HT.sIx z.length 0 lo)=z.length:=by
   have:=(AG _ _▸c).2;simpa using this
  unfold qj;rw[<- hn];have a0:HT.sIx z.length 0 lo=0\/z.length=0:=by lia
  rcases a0 with a0|a0
  ·rw[c',a0,BQ];exact(Ap (by rw[<- hn];exact zU _)).symm
  ·have:z.cps.toList=[]:=AR.mp (by rw[<- hn];exact a0);rw[this];simp
 ·show((List.map _ _).filterMap _).toArray.toList=_;unfold qj;rw[<- hn];have e2:(fun j:Nat=>z.cps[j]?)=fun j:Nat=>z.cps.toList[j]?:=by funext j;rw[AO]
  rw[List.toList_toArray,e2];by_cases hle:HT.sIx z.length 0 lo<=HT.sIx z.length z.length hi
  ·exact mJ _ _ _ (by rw[<- hn];lia)
  ·have:HT.sIx z.length z.length hi-HT.sIx z.length 0 lo=0:=by lia
   rw[this];simp
section
variable {X:Cx}
def rSlS:V->Option Int->Option Int->Hp->VK->Prop:=fun x lo hi H Q=>∃z,x=.str z/\z.length<=sizeLine/\Q (.str (Txt.slice z lo hi)) H
theorem Ei:SlR X rSlS:=by
 intro pins s σ H x v vl vu lo hi sl Q I rx hs pl pu q;obtain⟨z,rfl,hz,q⟩:=q;obtain⟨t,rfl⟩:=rx;refine⟨"str",_,PySem.F.slot_str_getitem.lookup,typeIs_str _ _ _,?_⟩;obtain⟨l',e1,e1'⟩:∃l':Option (Int×Tok),vl=partValue l'/\l'.map (·.1)=lo:=by
  cases pl with
  |none=>exact⟨none,rfl,rfl⟩
  |int i t=>exact⟨some (i,t),rfl,rfl⟩
 obtain⟨u',e2,e2'⟩:∃l':Option (Int×Tok),vu=partValue l'/\l'.map (·.1)=hi:=by
  cases pu with
  |none=>exact⟨none,rfl,rfl⟩
  |int i t=>exact⟨some (i,t),rfl,rfl⟩
 subst e1 e2 e1' e2';refine wpAny_getItem_str_slice (l:=l') (u:=u') (st:=none) hs rfl (post_val_or_str ⟨?_,fun t' k=>⟨.str (Txt.slice z (l'.map (·.1)) (u'.map (·.1))),H,I.tok _,⟨_,rfl⟩,q⟩⟩);exact Ak (Txt.slice_le z (l'.map (·.1)) (u'.map (·.1))) hz
def JW:R2:=fun x y H Q=>∃z n,x=.str z/\y=.int n/\-(2^63)<=n/\n<2^63/\z.length*n.toNat<=16777216/\Q (.str (Txt.mul z n)) H
theorem Fq:OpR X (binaryOp .Mult) JW:=by
 intro pins s σ H x y v u Q I rx ry h;obtain⟨z,n,rfl,rfl,h0,h1,hz,q⟩:=h;obtain⟨t,rfl⟩:=rx;obtain⟨t',rfl⟩:=ry;refine SB.mul ⟨?_,fun hn _ hc=>?_,fun hn _=>?_⟩ fun tk k=>⟨.str _,H,I.tok _,⟨_,rfl⟩,q⟩
 ·rw[De (by lia),De (by lia)];rfl
 ·have hn':1<=n:=by lia
  have e:((z.length*n.toNat:Nat):Int)=(z.length:Int)*n:=by
   rw[Int.natCast_mul,Int.toNat_of_nonneg (by lia)]
  have h3:(z.length:Int)*n<=16777216:=by rw[<- e];lia
  have h4:(z.length:Int)<=(2^63-1)/n:=by
   rw[Int.le_ediv_iff_mul_le (by lia)];lia
  lia
 ·unfold Builtin.Str.tooLong;exact De (by rw[sizeLine_eq];lia)
end
theorem jN(a:Array Nat):∀(n:Nat)(acc:Array Nat),((List.replicate n a).foldl (·++·) acc).toList=acc.toList++(List.replicate n a.toList).flatten
 |0,acc=>by simp
 |n+1,acc=>by
  rw[List.replicate_succ,Bv,jN a n,List.replicate_succ,Bw,Array.toList_append,AF]
theorem mul_list(z:Str)(n:Int):(Txt.mul z n).cps.toList=(List.replicate n.toNat z.cps.toList).flatten:=by
 unfold Txt.mul;split
 ·have:n.toNat=0:=by lia
  rw[this];rfl
 ·split
  ·rename_i hn c;have c':n=1\/z.length=0:=by simpa using c
   rcases c' with rfl|c'
   ·simp
   ·have:z.cps.toList=[]:=AR.mp c';rw[this];simp
  ·show((List.replicate n.toNat z.cps).foldl (·++·) #[]).toList=_;rw[jN];simp
section
variable {X:Cx}
theorem Fc:∀{ns:List Int}{us:List Value}{i:Nat}{v:Value},Vals (ns.map V.int) us->us[i]?=some v->∃t,v=.int (ns.getD i 0) t
 |[],_,_,_,.nil,e=>by simp at e
 |n::r,_,0,_,.cons h _,e=>by
  simp at e;subst e;obtain⟨t,rfl⟩:=h;exact⟨t,rfl⟩
 |n::r,_,i+1,v,.cons _ t,e=>by
  obtain⟨tk,q⟩:=Fc (i:=i) (v:=v) t (by simpa using e);exact⟨tk,by simpa using q⟩
theorem Inv.Fp{pins:List (Addr×Obj)}{σ:St}{H:Hp}{s:Shared}{h':Heap}{tk:Nat}{o:Obj}(I:Inv X pins σ H s)(hk:∀b u,b∉[s.heap.objs.size]->(s.heap.push o).get? b=some u->h'.get? b=some u):Inv X pins σ H {s with heap:=h',toks:=tk}:=by
 have I1:Inv X pins σ H {s with heap:=s.heap.push o,toks:=s.toks}:=I.kept fun b o e=>Dx _ e;refine Inv.turned (s:={s with heap:=s.heap.push o,toks:=s.toks}) (it:=s.heap.objs.size) I1 (fun b o hb e=>hk b o (by simpa using hb) e) (I.hok.fresh (zU _)) (BC I.lt) (.inr (Heap.get?_none_of_le I.sz)) (fun x c e z=>?_) fun p hp z=>?_
 ·obtain⟨v,o,ho,_⟩:=I.cell x c e;rw[z] at ho;exact absurd (Di ho) (AC _)
 ·have:=(I.pin p hp).1;rw[z] at this;exact absurd (Di this) (AC _)
theorem jn(val:Nat->Int):∀k,argBest (fun i j=>decide (val i<val j)) k<=k/\∀j,j<=k->val (argBest (fun i j=>decide (val i<val j)) k)<=val j
 |0=>⟨zU _,fun j hj=>by have:j=0:=(by lia);subst this;exact BR _⟩
 |k+1=>by
  obtain⟨h1,h2⟩:=jn val k;show(if decide (val (k+1)<val (argBest _ k))=true then k+1 else argBest _ k)<=k+1/\∀j,j<=k+1->val (if decide (val (k+1)<val (argBest _ k))=true then k+1 else argBest _ k)<=val j;by_cases c:val (k+1)<val (argBest (fun i j=>decide (val i<val j)) k)
  ·rw[Dc (Dd c)];refine⟨zU _,fun j hj=>?_⟩;by_cases e:j=k+1
   ·subst e;exact BR _
   ·have:=h2 j (by lia);lia
  ·rw[CZ (by rw[De c];decide)];refine⟨by lia,fun j hj=>?_⟩;by_cases e:j=k+1
   ·subst e;lia
   ·exact h2 j (by lia)
def wC (K:W.Frag):List V->Hp->VK->Prop:=fun xs H Q=>∃(p:Addr)(ns:List Int),xs=[.ref p]/\SqT K H p (ns.map V.int)/\ns≠[]/\∀m,m∈ns->(∀n∈ns,m<=n)->Q (.int m) H
theorem lX(hc:X.calm=true):cg X (.builtin "min") (wC X.K):=by
 intro pins s σ H xs us Q I r h;obtain⟨p,ns,rfl,hq,hne,q⟩:=h;obtain⟨u,rfl,rx⟩:=dF r;cases rx;obtain⟨its,rv,pl,hz⟩:=I.tuple hq;have hl:=rv.length;rw[zV] at hl;have hh:X.A.in1.handled=none:=I.ok.hd hc;obtain⟨ob,ho,hcl,n0,hd⟩:=id pl;have hp:p<s.heap.objs.size:=Di ho;have it:s.heap.IsTuple p its.toArray:=pl;refine call_min_walk (wpAny_pyIter_tuple it ⟨s.heap.objs.size,_,_,_,_,_,fun i j=>decide (ns.getD i 0<ns.getD j 0),rfl,Walks.tuple hh s.heap.objs.size p (Aa hp) _,⟨⟨_,Dy _ rfl,rfl,rfl⟩,it.push _⟩,?_,?_,CmpOf.ints_lt (fun i=>ns.getD i 0) fun i v hv=>Fc rv (by rw[Bf] at hv;exact hv),fun v h' tk hv hk=>?_⟩)
 ·intro b hb;show b<(s.heap.push _).objs.size;rw[DG];simp only[Ad,AN,or_false] at hb;rcases hb with e|e
  ·rw[e];exact AI _
  ·rw[e];exact AW hp
 ·rw[Aj];cases ns with
  |nil=>exact absurd rfl hne
  |cons _ _=>rw[<- hl];exact BH _
 ·obtain⟨t,rfl⟩:=Fc rv (by rw[Bf] at hv;exact hv);obtain⟨h1,h2⟩:=jn (fun i=>ns.getD i 0) (its.toArray.size-1);have hs:its.toArray.size=ns.length:=by rw[Aj,hl]
  have pos:0<ns.length:=by
   cases ns with
   |nil=>exact absurd rfl hne
   |cons _ _=>exact BH _
  refine⟨.int _,H,I.Fp hk,⟨_,rfl⟩,q _ ?_ fun n hn=>?_⟩
  ·have hi:argBest (fun i j=>decide (ns.getD i 0<ns.getD j 0)) (its.toArray.size-1)<ns.length:=by lia
   rw[Am,Ac hi];exact Ay hi
  ·obtain⟨j,hj,rfl⟩:=Cv.mp hn;have:=h2 j (by lia);rw[Am (i:=j),Ac hj] at this;exact this
theorem iM(ns:List Int):∀k,k<=ns.length->preSum (fun i=>ns.getD i 0) k=(ns.take k).sum
 |0,_=>rfl
 |k+1,h=>by
  have hk:k<ns.length:=by lia
  show preSum (fun i=>ns.getD i 0) k+ns.getD k 0=_;rw[iM ns k (by lia),Au,Ac hk,Am,Ac hk,List.sum_append];show(ns.take k).sum+ns[k]=(ns.take k).sum+(ns[k]+0)
  lia
end
def vT (_ j:Int):Prop:=0<j/\j<1000000000000000000000000000000000
theorem kq{X:Cx}:OpR X (binaryOp .FloorDiv) (rI vT fun i j=>.int (i/j)):=opI fun i j _ _ _ _ _ hc q=>by
 have h1:(0:Int)<j:=hc.1;have h2:j<1000000000000000000000000000000000:=hc.2;refine floordiv_int (by lia) (by rw[CN i (by lia)];exact q) (.inl (PyProof.noPylong_of_log2 ?_));refine Ah ((Nat.log2_lt (by lia)).mpr (show j.natAbs<2^111 by lia)) (by decide)
def sL (P:Program)(w:World)(K:W.Frag)(a:Addr)(kvs:List (Key×V)):Prop:=∀h:Heap,K.In h->(a==sysModules)=false/\∃vs,KV kvs vs/\h.DictOf (aL P w) a vs
def sT (a:Addr)(kvs:List (Key×V))(td ty:TE):TE:=fun σ H Q=>td σ H fun x H1=>ty σ H1 fun y H2=>∃k v,x=.ref a/\y=kV k/\dZ kvs k=some v/\Q v H2
def we (a:Addr)(kvs:List (Key×V))(ty td:TE):TE:=fun σ H Q=>ty σ H fun y H1=>td σ H1 fun x H2=>∃k,x=.ref a/\y=kV k/\Q (.bl (dZ kvs k).isSome) H2
section
variable {X:Cx}{o i:Expr}{pos:Pos}{td ty:TE}{a:Addr}{kvs:List (Key×V)}
theorem om(M:sL X.prog X.w X.K a kvs)(ho:PE X o td)(hi:PE X i ty)(hs:wJ i):PE X (.Subscript o i pos) (sT a kvs td ty):=by
 intro pins s σ H Q I h;refine mS PySem.F.slot_dict_getitem.lookup hs (thn (ho pins s σ H _ I h) fun u s1 hq60=>?_);obtain⟨x,H1,I1,rx,q1⟩:=hq60;refine thn (hi pins s1 σ H1 _ I1 q1) fun iv s2 ⟨y,H2,I2,ry,k,v,ex,ey,l,q2⟩=>?_;subst ex ey;obtain rfl:u=Value.ref a:=rx;obtain⟨_,vs,rel,dd⟩:=M s2.heap I2.kIn;obtain⟨w',hw,rw'⟩:=GD.some_of (v:=v) (o:=valueAt vs k) (by rw[<- l];exact rel.val k);exact⟨dd.typeIs,wpAny_getItem_of (gr ry) dd.mapOf hw ⟨v,H2,I2.tok _,rw',q2⟩⟩
theorem qZ(M:sL X.prog X.w X.K a kvs)(hi:PE X i ty)(ho:PE X o td):PC X .In i o (we a kvs ty td):=by
 intro pins s σ H Q I h;refine thn (hi pins s σ H _ I h) fun iv s1 hq61=>?_;obtain⟨y,H1,I1,ry,q1⟩:=hq61;refine thn (ho pins s1 σ H1 _ I1 q1) fun u s2 ⟨x,H2,I2,rx,k,ex,ey,q2⟩=>?_;subst ex ey;obtain rfl:u=Value.ref a:=rx;obtain⟨hd,vs,rel,dd⟩:=M s2.heap I2.kIn;refine wpAny_in_of (gr ry) hd dd.mapOf ?_;rw[<- (rel.val k).En];exact⟨.bl _,H2,I2.tok _,rfl,q2⟩
end
theorem vH{P:Program}{w:World}{K:W.Frag}{a a1 a2:Addr}{x y:Str}{t u:Tok}{n:Nat}(hxy:x≠y)(ha:(a==sysModules)=false)
  (l:K.lookup a=some ⟨.type "dict",none,.dict #[⟨PyData.keyHash w.params x,.str x t,.ref a1⟩,⟨PyData.keyHash w.params y,.str y u,.ref a2⟩] n,#[]⟩):sL P w K a [(.inr x,.ref a1),(.inr y,.ref a2)]:=fun h X=>by
 refine⟨ha,[(.inr x,.ref a1),(.inr y,.ref a2)],.cons ⟨rfl,rfl⟩ (.cons ⟨rfl,rfl⟩ .nil),_,_,_,X _ _ l,?_,rfl,?_,.cons (bX P w x t) rfl (.cons (bX P w y u) rfl .nil),?_⟩
 ·exact⟨rfl,rfl,rfl⟩
 ·intro e he;have he':e∈[(⟨PyData.keyHash w.params x,.str x t,.ref a1⟩:DictEntry),⟨PyData.keyHash w.params y,.str y u,.ref a2⟩]:=by simpa using he
  simp only[Ad,AN,or_false] at he';rcases he' with rfl|rfl
  ·exact⟨.inr x,bX P w x t,rfl⟩
  ·exact⟨.inr y,bX P w y u,rfl⟩
 ·simp[hxy]
def Ite (K:W.Frag)(a:Addr):It:=
 ⟨fun i H=>∃xs x,SqL K H a xs/\xs[i]?=some x,fun i H v H'=>∃p x,H p=none/\v=.ref p/\H'=upd H p (.tup [.int i,x])/\∀xs,SqL K H a xs->xs[i]?=some x,fun i H=>∃xs,SqL K H a xs/\xs.length<=i⟩
theorem nk{P:Program}{w:World}{K:W.Frag}{elts:List Expr}{x1}{pos:Pos}(a e it:Addr)(hne:e≠it) :
  Turn P w K (.Tuple elts x1 pos) (Ite K a) [e,it] e (fun i h=>(∃old,IsEnum h e it ((i:Nat):Int) old)/\h.IsListIter it a i) where
 mem:=by simp
 obj:=fun i h st b hb=>by
  obtain⟨⟨old,s1⟩,s2⟩:=st;simp only[Ad,AN,or_false] at hb;rcases hb with rfl|rfl
  ·exact⟨_,s1,fun v z=>by cases z⟩
  ·obtain⟨o,e,c,d⟩:=s2;exact⟨o,e,fun v z=>by rw[d] at z;cases z⟩
 keep:=fun i h h' st k=>by
  obtain⟨⟨old,s1⟩,s2⟩:=st;exact⟨⟨old,k e (by simp) _ s1⟩,s2.at fun o z=>k it (by simp) o z⟩
 item:=by
  intro X hP hw hK hc i pins s σ H E I hf st hg;subst hP hw hK;obtain⟨⟨old,s1⟩,s2⟩:=st;obtain⟨xs,x,hq,hx⟩:=hg;obtain⟨its,rv,p,hz⟩:=I.list hq;obtain⟨u,hu,ru⟩:=rv.get hx;have fe:=hf e (by simp);have fi:=hf it (by simp);refine wpAny_pyNext_enum_item s1 s2 p.isList (x:=u) (by simpa using hu) hne fun h₁ heo hit₁ ht₁ hz₁ hk₁=>?_;refine⟨_,rfl,wpAny_letOwnedTupleGo_enum heo fun h₂ he₂ hs₂=>?_⟩;have he0:e<s.heap.objs.size:=Di s1;have kk:∀b o,b≠e->b≠it->s.heap.get? b=some o->h₂.get? b=some o:=fun b o b1 b2 q=>hs₂.extBut b o b1 (hk₁ b o b1 b2 q);have hit₂:=hit₁.extBut hs₂.extBut (Dw hne)
  have I1:Inv X pins σ H { s with heap:=h₂,toks:=s.toks+1 }:=I.JF ⟨fun b o q n _=>kk b o (fun z=>n (z ▸ fe)) (fun z=>n (z ▸ fi)) q,fun b o q n=>⟨o.slots,kk b o (fun z=>n (z ▸ fe)) (fun z=>n (z ▸ fi)) q⟩,fun b o q=>by
   by_cases z1:b=e
   ·subst z1;exact⟨_,he₂⟩
   ·by_cases z2:b=it
    ·subst z2;obtain⟨oi,g,_⟩:=hit₂;exact⟨oi,g⟩
    ·exact⟨o,kk b o z1 z2 q⟩⟩
  have hn:=I.hok.fresh (zU s.heap.objs.size);have ht₂:h₂.get? s.heap.objs.size=some {cls:=.type "tuple",data:=.seq #[.int i s.toks,u]}:=(hs₂.2 _ (BC he0)).trans ht₁;have I2:Inv X pins σ (upd H s.heap.objs.size (.tup [.int i,x])) {s with heap:=h₂,toks:=s.toks+1}:=I1.Ka (I.Hr _ (zU _)) ⟨by show 2<=sizeLine;decide,[.int i s.toks,u],.cons ⟨_,rfl⟩ (.cons ru .nil),_,ht₂,rfl,_,rfl⟩;refine⟨.ref s.heap.objs.size,_,I2,rfl,⟨_,x,hn,rfl,rfl,fun ys hy=>by rw[I.Gq hy hq];exact hx⟩,⟨⟨u,?_⟩,hit₂⟩,fun b hb=>?_⟩
  ·have z:((i+1:Nat):Int)=(i:Int)+1:=by lia
   rw[z];exact he₂
  ·have hb':b≠s.heap.objs.size:=by
    simp only[Ad,AN,or_false] at hb;rcases hb with rfl|rfl
    ·exact Aa he0
    ·obtain⟨oi,g,_⟩:=s2;exact Aa (Di g)
   rw[ar hb'];exact(hf b hb).1
 done:=by
  intro X hP hw hK hc i pins s σ H E I hf st hg;subst hP hw hK;obtain⟨⟨old,s1⟩,s2⟩:=st;obtain⟨xs,hq,hx⟩:=hg;obtain⟨its,rv,p,hz⟩:=I.list hq;obtain⟨f0,f1,f2,f3,f4,f5⟩:=hf it (by simp);have hl:=rv.length;exact wpAny_pyNext_enum_end (I.ok.hd hc) s1 s2 p.isList (by simp;lia) fun h' eb=>⟨rfl,I.turned (t':=s.toks) (fun b o hb e=>eb b o hb e) f0 f1 f3 f4 f5⟩
 self:=fun _ _ _ _ _ st h=>wpAny_pyIter_enum st.1.choose_spec h
section
variable {X:Cx}
theorem FK:bootBuiltins "enumerate"=some (.type "enumerate"):=by decide +kernel
def vY (K:W.Frag)(ta:TA):TI:=fun σ H R=>ta σ H fun vs H1=>∃a,vs=[.ref a]/\(∃xs,SqL K H1 a xs)/\R (Ite K a) H1
theorem jm{elts:List Expr}{x1}{tpos:Pos}{a:Expr}{ta:TA}{p pos:Pos}(hg:Gl X "enumerate")(hm:X.mg "enumerate"=none)(ha:PA X [a] ta)(hs:starEach [a] X.env=[(false,eval a X.env)]:=by rfl) :
  PI X (.Tuple elts x1 tpos) (.Call (.Name "enumerate" p) [a] [] pos) (vY X.K ta):=by
 intro pins s σ H R I h;refine Call_ (dv I hg hm FK (PyProof.Rows.callWith_type1 (thn (ha pos pins s σ H _ I h) fun us s1 hq62=>?_) hs rfl));obtain⟨vs,H1,I1,r1,q1⟩:=hq62;obtain⟨l,e,⟨xs,hq⟩,q⟩:=q1;subst e;obtain⟨u,rfl,ru⟩:=dF r1;cases ru;obtain⟨its,rv,pl,hz⟩:=I1.list hq;refine call_enumerate_list pl.isList fun h' he hit hsz hk=>?_;refine wpAny_pyIter_enum he ?_;have I2:Inv X pins σ H1 {s1 with heap:=h',toks:=s1.toks}:=I1.kept hk;refine⟨s1.heap.objs.size+1,[s1.heap.objs.size+1,s1.heap.objs.size],_,Ite X.K l,H1,rfl,I2,nk l _ _ (Nat.succ_ne_self _),⟨⟨_,he⟩,hit⟩,fun b hb=>?_,q⟩;simp only[Ad,AN,or_false] at hb;rcases hb with rfl|rfl
 ·exact I1.IA (AH _) (I1.hok.fresh (AH _))
 ·exact I1.IA (zU _) (I1.hok.fresh (zU _))
theorem rG{K:W.Frag}{a:Addr}{xs:List V}{k:Nat}{js:List Nat}{g:TG}{tc:TT}{te:TE}{σ:St}{H:Hp}{Q:VK}(P:Nat->List V->Hp->Prop)(h0:P 0 [] H)(hz:∀i ys H,i<=xs.length->P i ys H->ys.length<=i)(hn:xs.length<=sizeLine)
  (hl:∀i ys H,i<=xs.length->P i ys H->SqL K H a xs)
  (hs:∀i x ys H p,xs[i]?=some x->P i ys H->H p=none->g (.ref p) (List.replicate k none++cx js σ) (upd H p (.tup [.int i,x])) fun σ2 H2=>tc σ2 H2 fun b H3=>if b=true then te σ2 H3 fun y H4=>Nx xs.length i P (ys++[y]) H4 else Nx xs.length i P ys H3)
  (hd:∀ys H,P xs.length ys H->∀p,H p=none->Q (.ref p) (upd H p (.lst ys))) :
  ig (Ite K a) k js g tc te σ H Q:=
 fo P h0 hz hn (fun i ys H hi p=>⟨xs,xs[i],hl i ys H (AS hi) p,by simp[hi]⟩) (fun ys H p=>⟨xs,hl _ ys H (zU _) p,zU _⟩)
  (fun i ys H v H' hi p y=>by obtain⟨q,x,hq,rfl,rfl,y⟩:=y;exact hs i x ys H q (y xs (hl i ys _ (AS hi) p)) p hq) hd
def JZ:V->List V->Hp->VK->Prop:=fun x vs H Q=>∃z y,x=.str z/\vs=[.str y]/\Q (.bl (Txt.endswith z y)) H
theorem Hq:MtR X "str.endswith" JZ:=by
 intro pins s σ H x vs v us Q I rx rv h;obtain⟨z,y,rfl,rfl,q⟩:=h;obtain⟨t,rfl⟩:=rx;obtain⟨u,rfl,t',rfl⟩:=rv.one;exact SC.endswith ⟨.bl _,H,I,rfl,q⟩
def IM:V->List V->Hp->VK->Prop:=fun x vs H Q=>∃z y,x=.str z/\vs=[.str y]/\Q (.bl (Txt.startswith z y)) H
theorem Eo:MtR X "str.startswith" IM:=by
 intro pins s σ H x vs v us Q I rx rv h;obtain⟨z,y,rfl,rfl,q⟩:=h;obtain⟨t,rfl⟩:=rx;obtain⟨u,rfl,t',rfl⟩:=rv.one;exact SC.startswith ⟨.bl _,H,I,rfl,q⟩
end
end L2
namespace L2
open PySem PySem.Spec PyProof.Rows
open PySem.SeqAt
open PySem.AutoSeq1 (wpAny_loadPart')
open PySem.MeetsSeq PySem.MeetsSeq2 PySem.MeetsSeq3
theorem FZ:∀{vs:List Value}{ns:List Int}{i:Nat},IntsAre vs ns->i<vs.length->∃t,vs[i]?=some (.int (ns.getD i 0) t)
 |_,_,_,.nil,h=>by simp at h
 |_,_,0,.cons n t _,_=>⟨t,rfl⟩
 |_,_,i+1,.cons n t r,h=>by
  obtain⟨t',e⟩:=FZ (i:=i) r (by simpa using h);exact⟨t',by simpa using e⟩
theorem rW(l b:Addr)(items items2:Array Value)(n n2:Nat)(dd dd2:Option Addr)(sl sl2:Array (Option Value))(ns ms:List Int)(hi:IntsAre items.toList ns)(hj:IntsAre items2.toList ms)(k:Nat) :
  ∀i:Nat,items.size-i=k->i<=items.size->i<=items2.size->Meets (Builtin.«list.__eq__.loop» ⟨[.ref l,.ref b,rawInt i,rawInt 0],[]⟩)
   (fun A R s=>s.heap.get? l=some { cls:=.type "list",dict:=dd,data:=.seq items n,slots:=sl }/\s.heap.get? b=some { cls:=.type "list",dict:=dd2,data:=.seq items2 n2,slots:=sl2 } /\
    R (.ok (.ret (.bool (HT.lexLt (ns.drop i) (ms.drop i))))) s):=by
 have z1:items.size=ns.length:=by rw[<- hi.length];simp
 have z2:items2.size=ms.length:=by rw[<- hj.length];simp
 induction k with
 |zero=>
  intro i hk h1 h2 prog w A R s h;obtain⟨hp,g,d,tk,os⟩:=s;obtain⟨hl,hb,h⟩:=h
  wp_walk using wpAny_loadPart' hl,wpAny_loadPart' hb
  have hi1:items[((i:Nat):Int).toNat]?=none:=by simp;lia
  rw[hi1];have e1:ns.drop i=[]:=BS (by lia);rw[e1] at h
  wp_walk using wpAny_loadPart' hl,wpAny_loadPart' hb
  show R (.ok (.ret (.bool (decide (items.size<items2.size))))) _;have e2:HT.lexLt [] (ms.drop i)=decide (items.size<items2.size):=by
   by_cases q:i<ms.length
   ·rw[BU q,HT.EZ];exact(Dd (by lia)).symm
   ·rw[BS (by lia),HT.Fs];exact(De (by lia)).symm
  rw[<- e2];exact h
 |succ k ih=>
  intro i hk h1 h2 prog w A R s h;obtain⟨hp,g,d,tk,os⟩:=s;obtain⟨hl,hb,h⟩:=h
  wp_walk using wpAny_loadPart' hl,wpAny_loadPart' hb
  have hlt:i<items.size:=by lia
  obtain⟨t,et⟩:=FZ (i:=i) hi (by simpa using hlt);have et':items[((i:Nat):Int).toNat]?=some (.int (ns.getD i 0) t):=by simpa using et
  have hn:i<ns.length:=by lia
  have d1:ns.drop i=ns.getD i 0::ns.drop (i+1):=by rw[BU hn,Am,Ac hn];rfl
  rw[d1] at h;by_cases hlt2:i<items2.size
  ·obtain⟨u,eu⟩:=FZ (i:=i) hj (by simpa using hlt2);have eu':items2[((i:Nat):Int).toNat]?=some (.int (ms.getD i 0) u):=by simpa using eu
   have hm:i<ms.length:=by lia
   have d2:ms.drop i=ms.getD i 0::ms.drop (i+1):=by rw[BU hm,Am,Ac hm];rfl
   rw[d2,HT.Eh] at h;rw[et',eu'];obtain⟨e,he,hiff⟩:=HT.Gh A.in1 ⟨hp,g,d,tk,os⟩ (ns.getD i 0) t (ms.getD i 0) u;refine CU (he prog w _ _ ?_);have hc:((i:Int)+1)=((i+1:Nat):Int):=by lia
   cases e with
   |true=>
    rw[Dc (hiff.mp rfl)] at h
    wp_walk
    rw[hc]
    exact⟨plainId_quiet plain_eq_loop _,codeAny_builtin entry_eq_loop (by
     rw[Around.under_plainId plain_eq_loop _]
     exact ih (i+1) (by lia) (by lia) (by lia) prog w A R _ ⟨hl,hb,h⟩)⟩
   |false=>
    rw[CZ (fun q=>absurd (hiff.mpr q) Ax)] at h
    wp_walk using wpAny_loadPart' hl,wpAny_loadPart' hb
    rw[et',eu'];have hri:=HT.ER A.in1 ⟨hp,g,d,tk,os⟩ (ns.getD i 0) t (ms.getD i 0) u prog w
    wp_walk using hri
    exact h
  ·have eu':items2[((i:Nat):Int).toNat]?=none:=by simp;lia
   have d2:ms.drop i=[]:=BS (by lia);rw[d2,HT.EY] at h;rw[et',eu']
   wp_walk using wpAny_loadPart' hl,wpAny_loadPart' hb
   show R (.ok (.ret (.bool (decide (items.size<items2.size))))) _;rw[De (by lia)];exact h
theorem iW(l b:Addr)(items items2:Array Value)(n n2:Nat)(dd dd2:Option Addr)(sl sl2:Array (Option Value))(ns ms:List Int)(hi:IntsAre items.toList ns)(hj:IntsAre items2.toList ms) :
  Meets (Builtin.«list.__lt__» ⟨[.ref l,.ref b],[]⟩)
   (fun A R s=>s.heap.get? l=some { cls:=.type "list",dict:=dd,data:=.seq items n,slots:=sl }/\s.heap.get? b=some { cls:=.type "list",dict:=dd2,data:=.seq items2 n2,slots:=sl2 } /\
    R (.ok (.ret (.bool (HT.lexLt ns ms)))) s):=by
 intro prog w A R s h;obtain⟨hp,g,d,tk,os⟩:=s;obtain⟨hl,hb,h⟩:=h;have f3:=AutoSeq1.sub_list_list
 wp_walk using wpAny_loadPart' hl,wpAny_loadPart' hb
 exact⟨plainId_quiet plain_eq_loop _,codeAny_builtin entry_eq_loop (by
  rw[Around.under_plainId plain_eq_loop _]
  exact rW l b items items2 n n2 dd dd2 sl sl2 ns ms hi hj _ 0 rfl (Ag _) (Ag _) prog w A R _ ⟨hl,hb,h⟩)⟩
theorem mr{prog:Program}{w:World}{A:Around}{E:Value->Shared->Prop}{s:Shared}{l b:Addr}{o o2:Obj}{items items2:Array Value}{n n2:Nat}{ns ms:List Int}{Q:Value->Shared->Prop}
  (hl:s.heap.get? l=some o)(hc:o.cls=.type "list")(hd:o.data=.seq items n)(hb:s.heap.get? b=some o2)(hc2:o2.cls=.type "list")(hd2:o2.data=.seq items2 n2)(hi:IntsAre items.toList ns)(hj:IntsAre items2.toList ms)
  (hu:A.units<cLine)(h:Q (.bool (HT.lexLt ns ms)) s):wpAny (model prog w) A (richCompare .Lt (.ref l) (.ref b)) Q E s:=by
 obtain⟨cls,dd,data,sl⟩:=o;obtain⟨cls2,dd2,data2,sl2⟩:=o2;simp only at hc hd hc2 hd2;subst hc hd hc2 hd2;exact richCompare_meets_room (op:=.Lt) ⟨_,hl,rfl⟩ ⟨_,hb,rfl⟩ PySem.F.slot_list_lt PySem.F.entry_list_lt (PySem.F.args_list_lt_2 _ _) (iW l b items items2 n n2 dd dd2 sl sl2 ns ms hi hj)
  ⟨hl,hb,show Value.bool (HT.lexLt ns ms)≠Value.notImplemented/\Q (.bool (HT.lexLt ns ms)) s from⟨(fun x=>nomatch x),h⟩⟩ hu
def bG (a c:Int)(ns ms:List Int):Bool:=if a=c then HT.lexLt ns ms else decide (a<c)
theorem DX:∀ns:List Int,HT.lexLt ns ns=false
 |[]=>rfl
 |n::r=>by rw[HT.Eh,Dc rfl];exact DX r
theorem gO(p q l b:Addr)(a c:Int)(t u:Tok)(n n2:Nat)(dd dd2:Option Addr)(sl sl2:Array (Option Value))(ns ms:List Int) :
  Meets (Builtin.«tuple.__lt__» ⟨[.ref p,.ref q],[]⟩)
   (fun A R s=>s.heap.get? p=some { cls:=.type "tuple",dict:=dd,data:=.seq #[.int a t,.ref l] n,slots:=sl }/\s.heap.get? q=some { cls:=.type "tuple",dict:=dd2,data:=.seq #[.int c u,.ref b] n2,slots:=sl2 } /\
    EqAt A.in1 s (.ref l) (.ref b) (decide (ns=ms))/\(∀(prog:Program)(w:World)(E:Value->Shared->Prop)(Q:Value->Shared->Prop),Q (.bool (HT.lexLt ns ms)) s->wpAny (model prog w) A.in1 (richCompare .Lt (.ref l) (.ref b)) Q E s) /\
    R (.ok (.ret (.bool (bG a c ns ms)))) s) :=
 .of_wp fun prog w A R s h=>by
  obtain⟨hp,g,d,tk,os⟩:=s;obtain⟨hl,hb,hE,hL,h⟩:=h;have f2:=AutoSeq1.sub_tuple_tuple;obtain⟨e,he,hiff⟩:=HT.Gh A.in1 ⟨hp,g,d,tk,os⟩ a t c u;have hri:=HT.ER A.in1 ⟨hp,g,d,tk,os⟩ a t c u prog w;have hrl:=hL prog w
  wp_walk using wpAny_loadPart' hl,wpAny_loadPart' hb,wpAny_forIn_list _ (fun rest b' s'=>b'.1=none/\s'=⟨hp,g,d,tk,os⟩/\(rest=[(.int a t,.int c u),(.ref l,.ref b)]\/(a=c/\rest=[(.ref l,.ref b)])\/(a=c/\ns=ms/\rest=[]))) _
  case turn=>
   rintro⟨y,x⟩ rest b' s' ⟨hb',rfl,hcase⟩;rcases hcase with hc|⟨hac,hc⟩|⟨_,_,hc⟩
   ·injection hc with h1 h2;injection h1 with h1 h3;subst h1 h3 h2;refine CU (he prog w _ _ ?_);cases e with
    |true=>
     wp_walk
     exact⟨rfl,rfl,.inr (.inl ⟨hiff.mp rfl,rfl⟩)⟩
    |false=>
     have hne:¬a=c:=fun q=>absurd (hiff.mpr q) Ax
     wp_walk using hri
     refine⟨_,rfl,?_⟩;have e1:bG a c ns ms=decide (a<c):=by unfold bG;rw[CZ hne]
     rw[e1] at h;simpa using h
   ·injection hc with h1 h2;injection h1 with h1 h3;subst h1 h3 h2;have e1:bG a c ns ms=HT.lexLt ns ms:=by unfold bG;rw[Dc hac]
    rw[e1] at h;refine CU (hE prog w _ _ ?_);by_cases hm:ns=ms
    ·rw[Dd hm]
     wp_walk
     exact⟨rfl,rfl,.inr (.inr ⟨hac,hm,rfl⟩)⟩
    ·rw[De hm]
     wp_walk using hrl
     exact⟨_,rfl,by simpa using h⟩
   ·cases hc
  case fin=>
   rintro⟨b1,b2⟩ s' ⟨hb',rfl,hcase⟩;simp only at hb';subst hb';rcases hcase with hc|⟨_,hc⟩|⟨hac,hm,_⟩
   ·cases hc
   ·cases hc
   ·have e1:bG a c ns ms=false:=by unfold bG;rw[Dc hac,hm];exact DX ms
    rw[e1] at h
    wp_walk
    exact⟨_,rfl,by simpa [Builtin.Tuple.tupleCompareSizes] using h⟩
  case h=>
   exact⟨rfl,rfl,.inl rfl⟩
theorem lV{prog:Program}{w:World}{A:Around}{E:Value->Shared->Prop}{s:Shared}{p q l b:Addr}{a c:Int}{t u:Tok}{ns ms:List Int}{Q:Value->Shared->Prop}
  (hp:IsTup s.heap p #[.int a t,.ref l])(hq:IsTup s.heap q #[.int c u,.ref b])(hE:EqAt A.in1 s (.ref l) (.ref b) (decide (ns=ms)))
  (hL:∀(prog:Program)(w:World)(E:Value->Shared->Prop)(Q:Value->Shared->Prop),Q (.bool (HT.lexLt ns ms)) s->wpAny (model prog w) A.in1 (richCompare .Lt (.ref l) (.ref b)) Q E s)
  (hu:A.units<cLine)(h:Q (.bool (bG a c ns ms)) s):wpAny (model prog w) A (richCompare .Lt (.ref p) (.ref q)) Q E s:=by
 obtain⟨⟨cls,dd,data,sl⟩,ho,hc,n,hd⟩:=id hp;obtain⟨⟨cls2,dd2,data2,sl2⟩,ho2,hc2,n2,hd2⟩:=id hq;simp only at hc hd hc2 hd2;subst hc hd hc2 hd2;exact richCompare_meets_room (op:=.Lt) ⟨_,ho,rfl⟩ ⟨_,ho2,rfl⟩ PySem.F.slot_tuple_lt PySem.F.entry_tuple_lt (PySem.F.args_tuple_lt_2 _ _) (gO p q l b a c t u n n2 dd dd2 sl sl2 ns ms)
  ⟨ho,ho2,hE,hL,show Value.bool (bG a c ns ms)≠Value.notImplemented/\Q (.bool (bG a c ns ms)) s from⟨(fun x=>nomatch x),h⟩⟩ hu
end L2
namespace L2
open PySem PySem.Spec PyProof.Rows
theorem bS{M:Model}{A:Around}{E:Value->Shared->Prop}{s:Shared}{pos:Pos}{id:String}{first:List Value}{args:List (Bool×Sem Value)}{keywords:List (Option Str×Sem Value)}{Q:Value->Shared->Prop}
  (hplain:(args.any (·.1)||keywords.any (·.1.isNone))=false)
  (h:wpAny M A (evalArgs (.builtin id) true args keywords) (fun a s₁=>wpAny M A (call (.builtin id) (first++a.pos) a.kw) Q E s₁) E s) :
  wpAny M A (callWith pos (.builtin id) first args keywords) Q E s:=by
 unfold callWith;refine CU (Dg (Df h (fun a s₁ h₁=>CU (wpAny_standAt ?_)) fun _ _ x=>x));simp only[hplain];refine CU (CV ?_);exact CU (Df h₁ (fun r s₂ hr=>CU (Dg (wpAny_point (CV hr)))) fun _ _ x=>x)
def uP (X:Cx)(f:Value)(ks:List Str)(r:List V->List V->Hp->VK->Prop):Prop:=
 ∀(pins:List (Addr×Obj))(s:Shared)(σ:St)(H:Hp)(xs zs:List V)(us ws:List Value)(Q:VK),Inv X pins σ H s->Vals xs us->Vals zs ws->r xs zs H Q ->
  (wq X) (call f us (ks.zip ws)) (EP X pins σ Q) X.xe s
def tCBK (r:List V->List V->Hp->VK->Prop)(t tk:TA):TE:=fun σ H Q=>t σ H fun vs H1=>tk σ H1 fun zs H2=>r vs zs H2 Q
theorem mD{X:Cx}{x:Str}{p pos:Pos}{e:Expr}{es:List Expr}{kws:List Keyword}{t tk:TA}{id:String}{ks:List Str}{r:List V->List V->Hp->VK->Prop}(hc:uP X (.builtin id) ks r)(hg:Gl X x)(hm:X.mg x=none)(hv:bootBuiltins x=some (.builtin id))(ha:PA X (e::es) t)(hkw:PK X kws tk)
  (hall:(backToKw pos (keywordEach kws X.env)).all (·.1.isSome)=true:=by rfl)(hks:(backToKw pos (keywordEach kws X.env)).filterMap (·.1)=ks:=by rfl)
  (hn:x≠"__name__":=by decide)(hdb:(x==("__debug__":Str))=false:=by decide)(he:starEach (e::es) X.env=(false,eval e X.env)::starEach es X.env:=by rfl)
  (hpl:((backTo pos (starEach (e::es) X.env)).any (·.1)||(backToKw pos (keywordEach kws X.env)).any (·.1.isNone))=false:=by rfl):PE X (.Call (.Name x p) (e::es) kws pos) (tCBK r t tk):=by
 intro pins s σ H Q I h;refine wpAny_Call_Name_kw (dv I hg hm hv ?_ hn hdb);refine bS hpl ?_;have hA:=ha pos pins s σ H _ I h;rw[he] at hA ⊢;refine evalArgs_kw hall (thn hA fun us s1 hq63=>?_);obtain⟨vs,H1,I1,r1,q1⟩:=hq63;refine thn (hkw pos pins s1 σ H1 _ I1 q1) fun ws s2 hq64=>?_;obtain⟨zs,H2,I2,rz,q2⟩:=hq64;rw[hks];exact hc pins s2 σ H2 vs zs us ws Q I2 r1 rz q2
theorem ET:∀{a b c:List Int},a.length=b.length->b.length=c.length->HT.lexLt a b=true->HT.lexLt b c=true->HT.lexLt a c=true
 |[],[],_,_,_,h,_=>by exact absurd h (by simp[DX])
 |x::a,y::b,z::c,e,f,h,g=>by
  rw[HT.Eh] at h g ⊢;have e':a.length=b.length:=by simpa using e
  have f':b.length=c.length:=by simpa using f
  by_cases xy:x=y
  ·rw[Dc xy] at h;by_cases yz:y=z
   ·rw[Dc yz] at g;rw[Dc (xy.trans yz)];exact ET e' f' h g
   ·rw[CZ yz] at g;rw[CZ (by rw[xy];exact yz),xy];exact g
  ·rw[CZ xy] at h;have h':x<y:=Dh h;by_cases yz:y=z
   ·rw[<- yz,CZ xy];exact h
   ·rw[CZ yz] at g;have g':y<z:=Dh g;rw[CZ (by lia)];exact Dd (by lia)
def kLt (a b:List Int):Bool:=bG a.length b.length a b
theorem iN{a b c:List Int}(h:kLt a b=true)(g:kLt b c=true):kLt a c=true:=by
 unfold kLt bG at *;by_cases e:(a.length:Int)=b.length
 ·rw[Dc e] at h;by_cases f:(b.length:Int)=c.length
  ·rw[Dc f] at g;rw[Dc (e.trans f)];exact ET (by lia) (by lia) h g
  ·rw[CZ f] at g;rw[CZ (by rw[e];exact f),e];exact g
 ·rw[CZ e] at h;have h':=Dh h;by_cases f:(b.length:Int)=c.length
  ·rw[<- f,CZ e];exact h
  ·rw[CZ f] at g;have g':=Dh g;rw[CZ (by lia)];exact Dd (by lia)
def nO (X:Cx)(q:Addr):Prop:=
 ∀(pins:List (Addr×Obj))(s:Shared)(σ:St)(H:Hp)(r:Addr)(ns:List Int),Inv X pins σ H s->H r=some (.lst (ns.map V.int)) ->
  wpAny (model X.prog X.w) X.A.in1 (call (.ref q) [.ref r]) (EP X pins σ fun v H'=>∃p,v=.ref p/\H p=none/\H'=upd H p (.tup [.int ns.length,.ref r])) (fun _ _=>False) s
theorem mY{X:Cx}{k:Nat}{f:Addr}{fd:FuncData}{ps:List Str}{sp:Sp}(F:DQ X.prog X.w X.K X.mg X.base CX0 k f fd ps sp)(hr:EG (k+1) X.A)(hb:Binds X.K fd ps [])
  (hsp:∀(r:Addr)(ns:List Int)(H:Hp)(Q:VK),H r=some (.lst (ns.map V.int))->(∀p,H p=none->Q (.ref p) (upd H p (.tup [.int ns.length,.ref r])))->sp [.ref r] H Q E0):nO X f:=by
 intro pins s σ H r ns I hn;have h:=hsp r ns H (fun v H'=>∃p,v=.ref p/\H p=none/\H'=upd H p (.tup [.int ns.length,.ref r])) hn fun p hp=>⟨p,rfl,hp,rfl⟩
 have hl:([Value.ref r]++[]).length=ps.length:=F.len _ _ _ _ h;have r2:Vals [V.ref r] [Value.ref r]:=.cons rfl .nil;refine wpAny_call (codeAny_mono (F.run X.A.in1 X.stack s H ⟨[.ref r],[]⟩ [.ref r] [.ref r] _ E0 hr.in1 I.Kx.in1 (hb s [.ref r] I.kIn hl) r2 h) fun r s' hq=>?_);cases r with
 |error e=>exact False.elim hq
 |ok fl=>
  cases fl with
  |ret u=>exact I.after hq
  |next=>exact False.elim hq
  |brk=>exact False.elim hq
  |cont=>exact False.elim hq
theorem EV:∀(ns ms:List Int),PyData.eqv (.list (ns.map PyData.int)) (.list (ms.map PyData.int))=decide (ns=ms):=by
 intro ns;induction ns with
 |nil=>intro ms;cases ms<;>rfl
 |cons n ns ih=>
  intro ms;cases ms with
  |nil=>rfl
  |cons m ms=>
   have h:=ih ms;show(PyData.eqv (.int n) (.int m)&&PyData.eqv (.list (ns.map PyData.int)) (.list (ms.map PyData.int)))=_;rw[h];show(decide (n=m)&&decide (ns=ms))=_;by_cases e:n=m<;>by_cases f:ns=ms<;>simp[e,f]
end L2
namespace L2
open PySem PySem.Spec PyProof.Rows SeqAt
theorem cq{K:W.Frag}{H:Hp}:∀ns:List Int,DatAll K H (ns.map V.int) (ns.map PyData.int)
 |[]=>.nil
 |n::r=>.cons (.int n) (cq r)
theorem EU:∀ns:List Int,PyData.canLayAll0 (ns.map PyData.int)=true
 |[]=>rfl
 |n::r=>by
  show((PyData.int n).canLay0&&PyData.canLayAll0 (r.map PyData.int))=true;rw[EU r];rfl
theorem gh(ns:List Int):(PyData.list (ns.map PyData.int)).canLay0=true:=EU ns
theorem depthAll_ints:∀ns:List Int,PyData.depthAll (ns.map PyData.int)<=1
 |[]=>by show 0<=1;decide
 |n::r=>by
  have h:=depthAll_ints r;show max (PyData.int n).depth (PyData.depthAll (r.map PyData.int))<=1;have e:(PyData.int n).depth=0:=rfl;lia
theorem fP(ns:List Int):(PyData.list (ns.map PyData.int)).depth<=2:=by
 have h:=depthAll_ints ns;have e:(PyData.list (ns.map PyData.int)).depth=PyData.depthAll (ns.map PyData.int)+1:=by simp[PyData.depth]
 lia
theorem jU{n:Int}{a:Addr}:∀{us:List Value},Vals [V.int n,V.ref a] us->∃t,us=[Value.int n t,Value.ref a]
 |_,.cons r (.cons q .nil)=>by obtain⟨t,rfl⟩:=r;cases q;exact⟨t,rfl⟩
section
variable {X:Cx}{pins:List (Addr×Obj)}{σ:St}{H:Hp}{s:Shared}
theorem lQ{A:Around}{E:Value->Shared->Prop}{p q a b:Addr}{ns ms:List Int}{Q:Value->Shared->Prop}(I:Inv X pins σ H s)(hp:H p=some (.tup [.int ns.length,.ref a]))(hq:H q=some (.tup [.int ms.length,.ref b]))
  (ha:H a=some (.lst (ns.map V.int)))(hb:H b=some (.lst (ms.map V.int)))(hu:A.units+32<cLine)(h:Q (.bool (kLt ns ms)) s):wpAny (model X.prog X.w) A (richCompare .Lt (.ref p) (.ref q)) Q E s:=by
 obtain⟨ip,rp,pp,_⟩:=I.tuple (SqT.of hp);obtain⟨iq,rq,pq,_⟩:=I.tuple (SqT.of hq);obtain⟨tp,rfl⟩:=jU rp;obtain⟨tq,rfl⟩:=jU rq;obtain⟨_,ia,na,ra,_,ga⟩:=I.HD ha;obtain⟨_,ib,nb,rb,_,gb⟩:=I.HD hb;obtain⟨as,hA⟩:=I.reads (.lst (SqL.of ha) (cq ns)) (rfl:RelV (.ref a) (.ref a));obtain⟨bs,hB⟩:=I.reads (.lst (SqL.of hb) (cq ms)) (rfl:RelV (.ref b) (.ref b));have hd:=fP ns;have hE:EqAt A.in1 s (.ref a) (.ref b) (decide (ns=ms)):=by
  have:=SeqAt.eqAt_reads _ _ A.in1 s _ _ as bs hA hB (gh ns) (gh ms) (by show A.units+1+_<cLine;lia);rw[EV] at this;exact this
 exact lV pp pq hE (fun prog w E Q h=>mr ga rfl rfl gb rfl rfl (eD ra) (eD rb) (by show A.units+1<cLine;lia) h) (by lia) h
theorem cQ{α:Type}(f:α->Addr):∀{xs:List α}{us:List Value},Vals (xs.map fun x=>V.ref (f x)) us->us=xs.map fun x=>Value.ref (f x)
 |[],_,.nil=>rfl
 |x::xs,_,.cons r t=>by cases r;rw[cQ f t];rfl
end
section
variable {X:Cx}{pins:List (Addr×Obj)}{σ:St}
theorem Em.turn{t':Nat}{H:Hp}{s:Shared}{it:Addr}{h':Heap}(f:Em X pins H it)(I:Inv X pins σ H s)(k:∀b o,b≠it->s.heap.get? b=some o->h'.get? b=some o):Inv X pins σ H {s with heap:=h',toks:=t'}:=
 I.turned k f.1 f.2.1 f.2.2.2.1 f.2.2.2.2.1 f.2.2.2.2.2
theorem jw{q l IT S:Addr}(hq:nO X q)(hc:X.calm=true)(hu:X.A.units+64<cLine)(hIS:IT≠S)(hlI:l≠IT){ps:List (Addr×List Int)}{R:Result->Shared->Prop} :
  ∀(n j:Nat)(s:Shared)(H:Hp)(rb:Addr×List Int)(pb:Addr)(c:Nat),ps.length-j=n->j<=ps.length->Inv X pins σ H s->H l=some (.lst (ps.map fun p=>V.ref p.1))->(∀p∈ps,H p.1=some (.lst (p.2.map V.int))) ->
   Em X pins H IT->Em X pins H S->s.heap.IsListIter IT l j->s.heap.get? S=some (seqObj "list" #[.ref rb.1,.ref pb] c)->rb∈ps->H pb=some (.tup [.int rb.2.length,.ref rb.1])->(∀p∈ps.take j,kLt p.2 rb.2=false) ->
   (∀(p:Addr×List Int)(H':Hp)(s':Shared),p∈ps->(∀p'∈ps,kLt p'.2 p.2=false)->DN H H'->Inv X pins σ H' s'->R (.ok (.ret (.ref p.1))) s') ->
   codeAny (model X.prog X.w) X.A (.builtin "min.loop" ⟨[.ref IT,.ref q,.ref S],[("default",.none)]⟩) R s:=by
 have hname:(toString "min"++toString ".loop":String)="min.loop":=by decide
 intro n;induction n with
 |zero=>
  intro j s H rb pb c hn hj I hl hp fI fS hit hS hrb hpb hbest hR;obtain rfl:j=ps.length:=by lia
  obtain⟨_,its,nl,rl,el,gl⟩:=I.HD hl;have ei:=cQ _ rl;have W:=Walks.list (prog:=X.prog) (w:=X.w) (A:=X.A.in1) (I.ok.hd hc) IT l hlI its.toArray;have hsz:its.toArray.size=ps.length:=by rw[Aj,ei,zV]
  refine codeAny_builtin PySem.F.entry_min_loop ?_;rw[Around.under_plainId PySem.F.plain_min_loop _];show wpAny _ X.A.in1 (seqItems? (.ref S) >>= _) _ _ _;refine CU (wpAny_seqItems hS rfl ?_);show wpAny _ X.A.in1 (tryCatch (pyNext (.ref IT)) _ >>= _) _ _ _;refine CU (wpAny_tryCatch (W.done _ _ _ ⟨by rw[hsz];exact hit,⟨_,gl,rfl,_,rfl⟩⟩ fun h' tk' hk'=>?_));have I1:Inv X pins σ H {s with heap:=h',toks:=tk'}:=fI.turn I fun b o hb e=>hk' b o (by simpa using hb) e;have hS':=hk' S _ (by simpa using Dw hIS) hS;have s1:=Heap.SameBut.update h' S (Obj.mapSeq fun _=>(#[]:Array Value));show wpAny _ X.A.in1 (updateSeq S (fun _=>#[]) >>= _) _ _ _;refine CU ?_;refine wpAny_updateSeq hS' rfl (CU (wpAny_letGo (CV ?_)));exact hR rb H _ hrb (fun p hp'=>hbest p (by rw[Bg];exact hp')) (DN.refl H) (fS.turn I1 fun b o hb e=>by rw[s1.2 b hb];exact e)
 |succ n ih=>
  intro j s H rb pb c hn hj I hl hp fI fS hit hS hrb hpb hbest hR;have hlt:j<ps.length:=by lia
  obtain⟨_,its,nl,rl,el,gl⟩:=I.HD hl;have ei:=cQ _ rl;have W:=Walks.list (prog:=X.prog) (w:=X.w) (A:=X.A.in1) (I.ok.hd hc) IT l hlI its.toArray;have hsz:its.toArray.size=ps.length:=by rw[Aj,ei,zV]
  refine codeAny_builtin PySem.F.entry_min_loop ?_;rw[Around.under_plainId PySem.F.plain_min_loop _];show wpAny _ X.A.in1 (seqItems? (.ref S) >>= _) _ _ _;refine CU (wpAny_seqItems hS rfl ?_);show wpAny _ X.A.in1 (tryCatch (pyNext (.ref IT)) _ >>= _) _ _ _;refine CU (wpAny_tryCatch (W.item j _ _ _ (by rw[hsz];exact hlt) ⟨hit,⟨_,gl,rfl,_,rfl⟩⟩ fun v h' tk' hP hst' hk'=>?_));have hv:v=.ref (ps[j]).1:=by
   rw[Bf,ei,Ao,Ac hlt] at hP;exact(Dj hP).symm
  subst hv;have hmem:ps[j]∈ps:=Ay hlt;obtain⟨oI,hoI,hoc,hod⟩:=id hst'.1;have I1:Inv X pins σ H {s with heap:=h',toks:=tk'}:=fI.turn I fun b o hb e=>hk' b o (by simpa using hb) e;have hS':=hk' S _ (by simpa using Dw hIS) hS
  have IP:=I1.pinned (fp:=[IT,S]) (fun b hb=>by
   rcases Ad.mp hb with rfl|hb
   ·exact fI
   ·rw[zY.mp hb];exact fS) (fun b hb=>by
   rcases Ad.mp hb with rfl|hb
   ·exact⟨oI,hoI,fun v e=>by rw[hod] at e;cases e⟩
   ·rw[zY.mp hb]; exact⟨_,hS',fun v e=>by cases e⟩)
  show wpAny _ X.A.in1 (tryCatch (holding [_] (call (.ref q) [_])) _ >>= _) _ _ _;refine CU (wpAny_tryCatch (Dg (Df (hq _ _ σ H (ps[j]).1 (ps[j]).2 IP (hp _ hmem)) (fun x s2 he=>?_) fun _ _ hF=>hF.elim)));obtain⟨_,_,I2,r2,p2,rfl,hp2,rfl⟩:=he;cases r2;have pin:∀b o,b∈[IT,S]->h'.get? b=some o->s2.heap.get? b=some o/\upd H p2 (.tup [.int (ps[j]).2.length,.ref (ps[j]).1]) b=none:=fun b o hb e=>by
   have m:(b,o)∈cH [IT,S] h':=AL.mpr ⟨b,hb,by rw[e];rfl⟩;have:=I2.pin (b,o) (Ab _ (Ab _ m));exact⟨this.1,this.2.1⟩
  obtain⟨gI2,nI2⟩:=pin IT oI (.head _) hoI;obtain⟨gS2,nS2⟩:=pin S _ (.tail _ (.head _)) hS';have fI2:Em X pins (upd H p2 (.tup [.int (ps[j]).2.length,.ref (ps[j]).1])) IT:=⟨nI2,fI.2⟩
  have fS2:Em X pins (upd H p2 (.tup [.int (ps[j]).2.length,.ref (ps[j]).1])) S:=⟨nS2,fS.2⟩
  have I3:=I2.DZ;have SM:DN H (upd H p2 (.tup [.int (ps[j]).2.length,.ref (ps[j]).1])):=af hp2 _;show wpAny _ X.A.in1 (tryCatch (holding [_,.ref p2] (richCompare .Lt (.ref p2) (.ref pb) >>= _)) _ >>= _) _ _ _;refine CU (wpAny_tryCatch (Dg (CU (lQ I3 (ns:=(ps[j]).2) (ms:=rb.2) ae (SM _ _ hpb) (SM _ _ (hp _ hmem)) (SM _ _ (hp _ hrb)) (by show X.A.units+1+32<cLine;lia) ?_))));refine CU (Dg (wpAny_truthy_bool ?_));refine CU (wpAny_letGo (CV ?_));have htake:ps.take (j+1)=ps.take j++[ps[j]]:=by rw[Au,Ac hlt];rfl
  by_cases hb':kLt (ps[j]).2 rb.2=true
  ·have s1:=Heap.SameBut.update s2.heap S (Obj.mapSeq fun _=>#[.ref (ps[j]).1,.ref p2]);obtain⟨c2,hc2⟩:∃c2,(s2.heap.update S (Obj.mapSeq fun _=>#[.ref (ps[j]).1,.ref p2])).get? S=some (seqObj "list" #[.ref (ps[j]).1,.ref p2] c2):=⟨_,get?_update_seq gS2 fun _=>#[.ref (ps[j]).1,.ref p2]⟩
   simp only[hb',if_true];refine CU ?_;refine wpAny_updateSeq gS2 rfl (CU (wpAny_letGo ?_));rw[hname]
   refine CV ⟨plainId_quiet PySem.F.plain_min_loop _,ih (j+1) _ _ (ps[j]) p2 c2 (by lia) hlt (fS2.turn (t':=s2.toks) I3 fun b o hb e=>by rw[s1.2 b hb]; exact e) (SM _ _ hl) (fun p h=>SM _ _ (hp p h)) fI2 fS2 ⟨oI,(s1.2 IT hIS).trans gI2,hoc,hod⟩ hc2 hmem ae (fun p h=>?_)
    fun p H' s' h1 h2 h3 h4=>hR p H' s' h1 h2 (SM.trans h3) h4⟩
   rw[htake] at h;rcases zZ.mp h with h|h
   ·have h0:=hbest p h;cases e:kLt p.2 (ps[j]).2 with
    |false=>rfl
    |true=>rw[iN e hb'] at h0;cases h0
   ·rw[zY.mp h];unfold kLt bG;rw[Dc rfl];exact DX _
  ·have hb'':kLt (ps[j]).2 rb.2=false:=by simpa using hb'
   simp only[hb'',Bx,if_false];refine CU (wpAny_letGo ?_);rw[hname]
   refine CV ⟨plainId_quiet PySem.F.plain_min_loop _,ih (j+1) s2 _ rb pb c (by lia) hlt I3 (SM _ _ hl) (fun p h=>SM _ _ (hp p h)) fI2 fS2 ⟨oI,gI2,hoc,hod⟩ gS2 hrb (SM _ _ hpb) (fun p h=>?_)
    fun p H' s' h1 h2 h3 h4=>hR p H' s' h1 h2 (SM.trans h3) h4⟩
   rw[htake] at h;rcases zZ.mp h with h|h
   ·exact hbest p h
   ·rw[zY.mp h];exact hb''
end
theorem oo(a v d:Value):argsOk "min" ⟨[a],[("key",v),("default",d)]⟩:=by unfold argsOk;kernel_rfl
def rm (q:Addr):List V->List V->Hp->VK->Prop:=fun xs zs H Q=>∃(l:Addr)(ps:List (Addr×List Int)),xs=[.ref l]/\zs=[.ref q,.non]/\H l=some (.lst (ps.map fun p=>V.ref p.1))/\(∀p∈ps,H p.1=some (.lst (p.2.map V.int))) /\
 (ps=[]->Q .non H)/\∀(p:Addr×List Int)(H':Hp),p∈ps->(∀p'∈ps,kLt p'.2 p.2=false)->DN H H'->Q (.ref p.1) H'
theorem nK{X:Cx}{q:Addr}(hq:nO X q)(hc:X.calm=true)(hu:X.A.units+64<cLine):uP X (.builtin "min") ["key","default"] (rm q):=by
 intro pins s σ H xs zs us ws Q I r rz h;obtain⟨l,ps,rfl,rfl,hl,hp,h0,h1⟩:=h;obtain⟨u,rfl,rx⟩:=dF r;cases rx;obtain⟨rfl⟩:ws=[.ref q,.none]:=by
  cases rz with
  |cons a b=>cases b with
   |cons c d=>cases d;cases a;cases c;rfl
 have hname:(toString "min"++toString ".loop":String)="min.loop":=by decide
 show (wq X) (call (.builtin "min") [.ref l] [("key",.ref q),("default",.none)]) _ _ s;obtain⟨_,its,nl,rl,el,gl⟩:=I.HD hl;have ei:=cQ _ rl;have hll:l<s.heap.objs.size:=Di gl;have hls:s.heap.IsList l its.toArray:=⟨_,gl,rfl,_,rfl⟩
 refine kmk_tree PySem.F.kind_min PySem.F.plain_min PySem.F.entry_min (oo _ _ _) ?_;show wpAny _ X.A.in1 (Builtin.Builtins.bindParams "min" ["key","default"] 0 ⟨[],[("key",.ref q),("default",.none)]⟩ >>= _) _ _ s;refine CU (wpAny_of_eq (show Builtin.Builtins.bindParams "min" ["key","default"] 0 ⟨[],[("key",.ref q),("default",.none)]⟩=pure [some (.ref q),some .none] from rfl) ?_);refine CU (CV ?_);refine CU (wpAny_pyIter_list hls ?_);refine CU (wpAny_newList ?_ (Ag _));rw[hname];have hS:(s.heap.push {cls:=.type "list_iterator",data:=.fields #[.ref l,.int 0 0]}).objs.size=s.heap.objs.size+1:=size_push' ..;have hlI:l≠s.heap.objs.size:=Aa hll;have hIS:s.heap.objs.size≠(s.heap.push {cls:=.type "list_iterator",data:=.fields #[.ref l,.int 0 0]}).objs.size:=by rw[hS];exact Aa (AI _)
 refine CV ⟨plainId_quiet PySem.F.plain_min_loop _,?_⟩;have K0:∀b o,s.heap.get? b=some o->((s.heap.push {cls:=.type "list_iterator",data:=.fields #[.ref l,.int 0 0]}).push (seqObj "list" #[] 0)).get? b=some o:=fun b x e=>Dx _ (Dx _ e);have gI:((s.heap.push {cls:=.type "list_iterator",data:=.fields #[.ref l,.int 0 0]}).push (seqObj "list" #[] 0)).get? s.heap.objs.size=some {cls:=.type "list_iterator",data:=.fields #[.ref l,.int 0 0]}:=
  Dx _ (Dy _ rfl)
 have gS:((s.heap.push {cls:=.type "list_iterator",data:=.fields #[.ref l,.int 0 0]}).push (seqObj "list" #[] 0)).get? (s.heap.push {cls:=.type "list_iterator",data:=.fields #[.ref l,.int 0 0]}).objs.size=some (seqObj "list" #[] 0):=Dy _ rfl;have fI:Em X pins H s.heap.objs.size:=I.Hr _ (zU _);have fS:Em X pins H (s.heap.push {cls:=.type "list_iterator",data:=.fields #[.ref l,.int 0 0]}).objs.size:=I.Hr _ (by rw[hS];exact AH _);have I0:Inv X pins σ H {s with heap:=(s.heap.push {cls:=.type "list_iterator",data:=.fields #[.ref l,.int 0 0]}).push (seqObj "list" #[] 0)}:=I.kept (t':=s.toks) K0;generalize (s.heap.push {cls:=.type "list_iterator",data:=.fields #[.ref l,.int 0 0]}).objs.size=S at *;generalize (s.heap.push {cls:=.type "list_iterator",data:=.fields #[.ref l,.int 0 0]}).push (seqObj "list" #[] 0)=hh at *;have W:=Walks.list (prog:=X.prog) (w:=X.w) (A:=X.A.in1) (I.ok.hd hc) s.heap.objs.size l hlI its.toArray;have hsz:its.toArray.size=ps.length:=by rw[Aj,ei,zV]
 have hlH:hh.IsList l its.toArray:=⟨_,K0 _ _ gl,rfl,_,rfl⟩
 refine codeAny_builtin PySem.F.entry_min_loop ?_;rw[Around.under_plainId PySem.F.plain_min_loop _];show wpAny _ X.A.in1 (seqItems? (.ref _) >>= _) _ _ _;refine CU (wpAny_seqItems gS rfl ?_);show wpAny _ X.A.in1 (tryCatch (pyNext (.ref s.heap.objs.size)) _ >>= _) _ _ _;cases ps with
 |nil=>
  refine CU (wpAny_tryCatch (W.done _ _ _ ⟨by rw[hsz];exact⟨_,gI,rfl,rfl⟩,hlH⟩ fun h' tk' hk'=>?_));have I1:Inv X pins σ H {s with heap:=h',toks:=tk'}:=fI.turn (s:={s with heap:=hh}) I0 fun b o hb e=>hk' b o (by simpa using hb) e;refine CU (DH (CV ?_));exact⟨.non,H,I1,rfl,h0 rfl⟩
 |cons p0 pr=>
  refine CU (wpAny_tryCatch (W.item 0 _ _ _ (by rw[hsz];exact BH _) ⟨⟨_,gI,rfl,rfl⟩,hlH⟩ fun v h' tk' hP hst' hk'=>?_));have hv:v=.ref p0.1:=by
   rw[Bf,ei] at hP;exact(Dj hP).symm
  subst hv;obtain⟨oI,hoI,hoc,hod⟩:=id hst'.1;have I1:Inv X pins σ H {s with heap:=h',toks:=tk'}:=fI.turn (s:={s with heap:=hh}) I0 fun b o hb e=>hk' b o (by simpa using hb) e;have hS':=hk' S _ (by simpa using Dw hIS) gS
  have IP:=I1.pinned (fp:=[s.heap.objs.size,S]) (fun b hb=>by
   rcases Ad.mp hb with rfl|hb
   ·exact fI
   ·rw[zY.mp hb];exact fS) (fun b hb=>by
   rcases Ad.mp hb with rfl|hb
   ·exact⟨oI,hoI,fun v e=>by rw[hod] at e;cases e⟩
   ·rw[zY.mp hb]; exact⟨_,hS',fun v e=>by cases e⟩)
  show wpAny _ X.A.in1 (tryCatch (holding [_] (call (.ref q) [_])) _ >>= _) _ _ _;refine CU (wpAny_tryCatch (Dg (Df (hq _ _ σ H p0.1 p0.2 IP (hp _ (.head _))) (fun x s2 he=>?_) fun _ _ hF=>hF.elim)));obtain⟨_,_,I2,r2,p2,rfl,hp2,rfl⟩:=he;cases r2;have pin:∀b o,b∈[s.heap.objs.size,S]->h'.get? b=some o->s2.heap.get? b=some o/\upd H p2 (.tup [.int p0.2.length,.ref p0.1]) b=none:=fun b o hb e=>by
   have m:(b,o)∈cH [s.heap.objs.size,S] h':=AL.mpr ⟨b,hb,by rw[e];rfl⟩;have:=I2.pin (b,o) (Ab _ (Ab _ m));exact⟨this.1,this.2.1⟩
  obtain⟨gI2,nI2⟩:=pin _ oI (.head _) hoI;obtain⟨gS2,nS2⟩:=pin S _ (.tail _ (.head _)) hS';have fI2:Em X pins (upd H p2 (.tup [.int p0.2.length,.ref p0.1])) s.heap.objs.size:=⟨nI2,fI.2⟩
  have fS2:Em X pins (upd H p2 (.tup [.int p0.2.length,.ref p0.1])) S:=⟨nS2,fS.2⟩
  have I3:=I2.DZ;have SM:DN H (upd H p2 (.tup [.int p0.2.length,.ref p0.1])):=af hp2 _;have s1:=Heap.SameBut.update s2.heap S (Obj.mapSeq fun _=>#[.ref p0.1,.ref p2]);obtain⟨c2,hc2⟩:∃c2,(s2.heap.update S (Obj.mapSeq fun _=>#[.ref p0.1,.ref p2])).get? S=some (seqObj "list" #[.ref p0.1,.ref p2] c2):=⟨_,get?_update_seq gS2 fun _=>#[.ref p0.1,.ref p2]⟩
  show wpAny _ X.A.in1 (updateSeq S (fun _=>#[.ref p0.1,.ref p2]) >>= _) _ _ _;refine CU ?_;refine wpAny_updateSeq gS2 rfl ?_;rw[hname]
  refine CV ⟨plainId_quiet PySem.F.plain_min_loop _,jw (pins:=pins) (σ:=σ) hq hc hu hIS hlI _ 1 _ _ p0 p2 c2 rfl (by simp) (fS2.turn (t':=s2.toks) I3 fun b o hb e=>by rw[s1.2 b hb]; exact e) (SM _ _ hl) (fun p h=>SM _ _ (hp p h)) fI2 fS2 ⟨oI,(s1.2 _ hIS).trans gI2,hoc,hod⟩ hc2 (.head _) ae (fun p h=>?_)
   fun p H' s' a1 a2 a3 a4=>⟨.ref p.1,H',a4,rfl,h1 p H' a1 a2 (SM.trans a3)⟩⟩
  have e:p=p0:=by simpa using h
  rw[e];unfold kLt bG;rw[Dc rfl];exact DX _
end L2
namespace L2
open PySem PySem.Spec PyProof.Rows
section
variable {X:Cx}
def wx (K:W.Frag):List V->Hp->VK->Prop:=fun xs H Q=>∃(p:Addr)(ns:List Int),xs=[.ref p]/\SqL K H p (ns.map V.int)/\ns≠[]/\∀m,m∈ns->(∀n∈ns,m<=n)->Q (.int m) H
theorem mF(hc:X.calm=true):cg X (.builtin "min") (wx X.K):=by
 intro pins s σ H xs us Q I r h;obtain⟨p,ns,rfl,hq,hne,q⟩:=h;obtain⟨u,rfl,rx⟩:=dF r;cases rx;obtain⟨its,rv,pl,hz⟩:=I.list hq;have hl:=rv.length;rw[zV] at hl;have hh:X.A.in1.handled=none:=I.ok.hd hc;obtain⟨ob,ho,hcl,n0,hd⟩:=id pl.isList;have hp:p<s.heap.objs.size:=Di ho;have it:s.heap.IsList p its.toArray:=pl.isList;refine call_min_walk (wpAny_pyIter_list it ⟨s.heap.objs.size,_,_,_,_,_,fun i j=>decide (ns.getD i 0<ns.getD j 0),rfl,Walks.list hh s.heap.objs.size p (Aa hp) _,⟨⟨_,Dy _ rfl,rfl,rfl⟩,it.push _⟩,?_,?_,CmpOf.ints_lt (fun i=>ns.getD i 0) fun i v hv=>Fc rv (by rw[Bf] at hv;exact hv),fun v h' tk hv hk=>?_⟩)
 ·intro b hb;show b<(s.heap.push _).objs.size;rw[DG];simp only[Ad,AN,or_false] at hb;rcases hb with e|e
  ·rw[e];exact AI _
  ·rw[e];exact AW hp
 ·rw[Aj];cases ns with
  |nil=>exact absurd rfl hne
  |cons _ _=>rw[<- hl];exact BH _
 ·obtain⟨t,rfl⟩:=Fc rv (by rw[Bf] at hv;exact hv);obtain⟨h1,h2⟩:=jn (fun i=>ns.getD i 0) (its.toArray.size-1);have hs:its.toArray.size=ns.length:=by rw[Aj,hl]
  have pos:0<ns.length:=by
   cases ns with
   |nil=>exact absurd rfl hne
   |cons _ _=>exact BH _
  refine⟨.int _,H,I.Fp hk,⟨_,rfl⟩,q _ ?_ fun n hn=>?_⟩
  ·have hi:argBest (fun i j=>decide (ns.getD i 0<ns.getD j 0)) (its.toArray.size-1)<ns.length:=by lia
   rw[Am,Ac hi];exact Ay hi
  ·obtain⟨j,hj,rfl⟩:=Cv.mp hn;have:=h2 j (by lia);rw[Am (i:=j),Ac hj] at this;exact this
def wj (K:W.Frag):List V->Hp->VK->Prop:=fun xs H Q=>∃(p:Addr)(ns:List Int),xs=[.ref p]/\SqL K H p (ns.map V.int)/\Q (.int ns.sum) H
theorem il(hc:X.calm=true):cg X (.builtin "sum") (wj X.K):=by
 intro pins s σ H xs us Q I r h;obtain⟨p,ns,rfl,hq,q⟩:=h;obtain⟨u,rfl,rx⟩:=dF r;cases rx;obtain⟨its,rv,pl,hz⟩:=I.list hq;have hl:=rv.length;rw[zV] at hl;have hh:X.A.in1.handled=none:=I.ok.hd hc;obtain⟨ob,ho,hcl,n0,hd⟩:=id pl.isList;have hp:p<s.heap.objs.size:=Di ho;have it:s.heap.IsList p its.toArray:=pl.isList;refine call_sum_walkAnyS (wpAny_pyIter_list it ⟨s.heap.objs.size,_,_,_,_,_,_,fun i=>ns.getD i 0,rfl,(Walks.list hh s.heap.objs.size p (Aa hp) _).toS,⟨⟨_,Dy _ rfl,rfl,rfl⟩,it.push _⟩,?_,fun i v hv=>Fc rv (by rw[Bf] at hv;exact hv),fun s' t' hm=>?_⟩)
 ·intro b hb;show b<(s.heap.push _).objs.size;rw[DG];simp only[Ad,AN,or_false] at hb;rcases hb with e|e
  ·rw[e];exact AI _
  ·rw[e];exact AW hp
 ·have e:preSum (fun i=>ns.getD i 0) its.toArray.size=ns.sum:=by
   rw[iM ns _ (by rw[Aj];lia),Ap (by rw[Aj];lia)]
  rw[e];obtain⟨hp1,g1,d1,o1,t1⟩:=hm;obtain⟨h',g',d',tk',os'⟩:=s';have eg:g'=s.gens:=g1;have ed:d'=s.drawn:=d1;have eo:os'=s.os:=o1;subst eg ed eo;exact⟨.int _,H,I.Fp (o:=_) hp1,⟨_,rfl⟩,q⟩
end
theorem iO{X:Cx}{o e:Expr}{es:List Expr}{to:TE}{t:TA}{name:Str}{apos cpos:Pos}{T id:String}{r:V->List V->Hp->VK->Prop}(K':W.Frag)(hK:X.K=K')(pa:PlainAttrs T)(slot:Slot T name id)(hty:typeOf (.builtin id)=pure (.type "method_descriptor"))(hm:MtR X id r)(ho:PE X o to)(ha:PA X (e::es) t)
  (hbase:attributeBase o name X.env (eval o X.env)=eval o X.env:=by rfl)
  (hfew:((backTo cpos (starEach (e::es) X.env)).all (fun x=>!x.1) && (backToKw cpos (keywordEach [] X.env)).all (fun x=>x.1.isSome)
   && decide ((e::es).length+([]:List Keyword).length+(if ([]:List Keyword).isEmpty then 0 else 1) < 30))=true:=by rfl)
  (hline:(apos.endLine==cpos.line)=true:=by rfl) (hs:starEach (e::es) X.env=(false,eval e X.env)::starEach es X.env:=by rfl) (hplain:(backTo cpos (starEach es X.env)).any (·.1)=false:=by rfl) :
  PE X (.Call (.Attribute o name apos) (e::es) [] cpos) (tBM K' T r to t):=by
 subst hK;exact gu pa slot hty hm ho ha hbase hfew hline hs hplain
theorem ck{X:Cx}{pos:Pos}{es:List Expr}{k:Nat}{t:TGs}{n:Nat}(K':W.Frag)(hK:X.K=K')(hc:X.calm=true)(h:PGs X es t)
  (hn:(assignEach es X.env).length=n:=by rfl)(hst:(assignEach es X.env).findIdx? (·.1)=none:=by rfl):PG X (.Tuple es k pos) (wb K' n t):=by
 subst hK;exact dq hc h hn hst
section
variable {X:Cx}
theorem Hm:∀{us:List Value}{zs:List Str},StrsAre us zs->Vals (zs.map V.str) us
 |_,_,.nil=>.nil
 |_,_,.cons x t h=>.cons ⟨t,rfl⟩ (Hm h)
def uV (K:W.Frag):List V->Hp->VK->Prop:=fun xs H Q=>∃p zs,xs=[.ref p]/\SqL K H p (zs.map V.str)/\zs.length<64/\∀l zs',zs'.Perm zs->sortedS zs'=true->H l=none->Q (.ref l) (upd H l (.lst (zs'.map V.str)))
theorem GF:cg X (.builtin "sorted") (uV X.K):=by
 intro pins s σ H xs us Q I r h;obtain⟨p,zs,rfl,hq,h64,q⟩:=h;obtain⟨u,rfl,rx⟩:=dF r;cases rx;obtain⟨its,rv,pl,hz⟩:=I.list hq;have hl:=rv.length;rw[zV] at hl;refine sorted_strs pl.isList (strsOf rv) (by lia) fun out ss' a1 a2 a3=>?_;obtain⟨e,he⟩:=sortedAll_at s.heap its out;refine⟨.ref (s.heap.objs.size+1),_,I.laid (t':=s.toks) (o:=.lst (ss'.map V.str)) (fun _ _=>sortedAll_old) (AH _) ?_,rfl,q _ ss' a2 a3 (I.hok.fresh (AH _))⟩;refine⟨?_,out.toList,e,Hm a1,?_⟩
 ·rw[zV,a2.length_eq];have:=sizeLine_eq;lia
 ·rw[Cy];exact he
theorem EK:∀{l:List Str},sortedS l=true->l.Pairwise (fun a b=>¬b.cps.toList<a.cps.toList)
 |[],_=>.nil
 |x::r,h=>by
  have go:∀(p:Str)(l:List Str),risingS p l=true->(p::l).Pairwise (fun a b=>¬b.cps.toList<a.cps.toList):=by
   intro p l;induction l generalizing p with
   |nil=>intro _;exact List.pairwise_singleton _ _
   |cons y r ih=>
    intro h;have h':(!ltCps y.cps.toList p.cps.toList&&risingS y r)=true:=h;rw[AG,Bool.not_eq_true',ltCps_eq,decide_eq_false_iff_not] at h';have i:=ih y h'.2;refine List.pairwise_cons.mpr ⟨fun b hb=>?_,i⟩;rcases Ad.mp hb with rfl|hb
    ·exact h'.1
    ·have:=(List.pairwise_cons.mp i).1 b hb;intro hlt;have h1:p.cps.toList<=y.cps.toList:=h'.1;have h2:y.cps.toList<=b.cps.toList:=this;exact(List.le_trans h1 h2) hlt
  exact go x r h
end
section
variable {prog:Program}{w:World}{A:Around}{E:Value->Shared->Prop}{s:Shared}
theorem pS{d:Addr}{od:Obj}{es:Array DictEntry}{ep:Nat}{Q:Value->Shared->Prop}(hs:(d==sysModules)=false)(hod:s.heap.get? d=some od)(hc:od.ExactDict)(hdd:od.data=.dict es ep)
  (hQ:Q (.ref s.heap.objs.size) {s with heap:=s.heap.push {cls:=.type "dict_keyiterator",data:=.fields #[.ref d,.int 0 0,.int es.size 0,.int ep 0]}}):wpAny (model prog w) A (pyIter (.ref d)) Q E s:=by
 have hT:s.TypeIs (.ref d) "dict":=⟨od,hod,hc.1⟩
 refine wpAny_pyIter_slot hT F.slot_dict_iter (DE F.slot_dict_iter hT F.entry_dict_iter ?_ (F.args_dict_iter_1 _));unfold Builtin.«dict.__iter__»;refine CU ?_;unfold Builtin.Dict.dictSlotNone;refine CU (wpAny_notOrdered_dict hT ?_);show wpAny _ _ (pure (Value.ref d)) _ _ s;refine CV ?_;show wpAny _ _ (Builtin.Dict.showsAll d >>= _) _ _ s;unfold Builtin.Dict.showsAll;rw[CZ (by rw[hs];decide)];refine CU (CV (CU (wpAny_dictEntries hod hdd (CU (wpAny_dictEpoch hod hdd ?_)))));refine CU (wpAny_newObj_type (CV ⟨_,rfl,"dict_keyiterator",_,⟨_,Dy _ rfl,rfl⟩,F.slot_dict_keyiterator_next.lookup,by simpa [rawInt] using hQ⟩))
end
section
variable {X:Cx}{pins:List (Addr×Obj)}{σ:St}{H:Hp}{s:Shared}
theorem Inv.freeze{a:Addr}{u:HO}{o:Obj}(I:Inv X pins σ H s)(e:H a=some u)(ho:s.heap.get? a=some o)(nt:∀xs,u≠.tup xs)(nf:∀o' u',u≠.frz o' u')(nb:∀ps,u≠.tbl ps)(no:∀x,u≠.own x):Inv X pins σ (upd H a (.frz o u)) s:=by
 have tu:∀b xs,H b=some (.tup xs)->upd H a (.frz o u) b=some (.tup xs):=fun b xs q=>by
  rw[ar (fun z=>by rw[z,e] at q;exact nt xs (Dj q))];exact q
 have ow:∀b x,H b=some (.own x)->upd H a (.frz o u) b=some (.own x):=fun b x q=>by
  rw[ar (fun z=>by rw[z,e] at q;exact no x (Dj q))];exact q
 refine I.un (h':=s.heap) (t':=s.toks) ⟨fun b ob q _ _ _=>q,fun b ob q _ _ _=>⟨ob.slots,q⟩,fun b ob _ n _=>?_,fun b ob q _=>⟨ob,q⟩,tu,fun b ob uu q=>?_,fun b ps q=>⟨#[],?_⟩⟩ fun b ub q=>?_
 ·rw[ar (fun z=>by rw[z,e] at n;cases n)];exact n
 ·rw[ar (fun z=>by rw[z,e] at q;exact nf ob uu (Dj q))];exact q
 ·rw[ar (fun z=>by rw[z,e] at q;exact nb ps (Dj q)),q];simp
 ·by_cases hb:b=a
  ·subst hb;rw[ae] at q;cases q;exact⟨ho,(I.hok b u e).GB (fun _ _ _ q=>q) (fun c q=>ow c _ q) tu⟩
  ·rw[ar hb] at q;exact(I.hok b ub q).GB (fun _ _ _ q=>q) (fun c q=>ow c _ q) tu
end
def qy (K:W.Frag):List V->Hp->VK->Prop:=fun xs H Q=>∃p ys,xs=[.ref p]/\(SqL K H p ys\/SqT K H p ys)/\∀l,H l=none->Q (.ref l) (upd H l (.lst ys))
theorem kL{X:Cx}:cg X (.type "list") (qy X.K):=Ed
def vf (K:W.Frag):List V->Hp->VK->Prop:=fun xs H Q=>∃p ys,xs=[.ref p]/\(SqL K H p ys\/SqT K H p ys)/\Q (.int (ys.length:Nat)) H
theorem lR{X:Cx}:cg X (.builtin "len") (vf X.K):=DP
section
variable {prog:Program}{w:World}{A:Around}{R:Result->Shared->Prop}{s:Shared}{elt tg0 iter0 tg1 iter1:Expr}{ifs0 ifs1:List Expr}{scope:Scope}{pos:Pos}{it acc:Value}{env:Env}
abbrev cI(elt tg0 iter0 tg1 iter1:Expr)(ifs0 ifs1:List Expr)(scope:Scope)(pos:Pos):Expr:=.ListComp elt [⟨tg0,iter0,ifs0,0⟩,⟨tg1,iter1,ifs1,0⟩] scope pos
theorem FW:compTurn (cI elt tg0 iter0 tg1 iter1 ifs0 ifs1 scope pos) 1 it acc env=(do
   standAt iter1.pos
   match <- pyNext it with
   |none=>pure (.done .next)
   |some v=>
    letOwnedTupleGo tg1 it v
    assign tg1 env v
    let mut ok:=true
    for c in ifs1 do
     if ok then ok <- isTrue c env (eval c env)
    if ok then
     (do let _ <- call (.builtin "list.append") [acc,<- eval elt env])
    again (.compLoop (cI elt tg0 iter0 tg1 iter1 ifs0 ifs1 scope pos) 1 it acc env)):=by rfl
theorem Fz:compTurn (cI elt tg0 iter0 tg1 iter1 ifs0 ifs1 scope pos) 0 it acc env=(do
   standAt iter0.pos
   match <- pyNext it with
   |none=>pure (.done .next)
   |some v=>
    letOwnedTupleGo tg0 it v
    assign tg0 env v
    let mut ok:=true
    for c in ifs0 do
     if ok then ok <- isTrue c env (eval c env)
    if ok then
     let x <- eval iter1 env
     standAt iter1.pos
     let x <- foldedSetIterable iter1 env x
     let _ <- runOwn (.compStart (cI elt tg0 iter0 tg1 iter1 ifs0 ifs1 scope pos) 1 (<- holding [x] (pyIter x)) acc env) env
    again (.compLoop (cI elt tg0 iter0 tg1 iter1 ifs0 ifs1 scope pos) 0 it acc env)):=by rfl
theorem rS(I:Nat->Shared->Prop)
  (turn:∀n s,I n s->wpAny (model prog w) A (pyNext it) (fun r s₁=>match r with
   |none=>R (.ok .next) s₁
   | some v=>wpAny (model prog w) A (letOwnedTupleGo tg1 it v) (fun _ s₁'=>wpAny (model prog w) A (assign tg1 env v) (fun _ s₂ =>
     wpAny (model prog w) A (forIn ifs1 true fun c r=>if r=true then do let ok <- isTrue c env (eval c env); pure (ForInStep.yield ok) else pure (ForInStep.yield r)) (fun ok s₃ =>
      if ok=true then wpAny (model prog w) A (eval elt env) (fun x s₄ =>
       wpAny (model prog w) A (call (.builtin "list.append") [acc,x]) (fun _ s₅=>∃m,m < n/\I m s₅) (fun _ _=>False) s₄) (fun _ _=>False) s₃
      else ∃m,m < n/\I m s₃) (fun _ _=>False) s₂) (fun _ _=>False) s₁') (fun _ _=>False) s₁) (fun _ _=>False) s)
  (n:Nat) (h:I n s):codeAny (model prog w) A (.compLoop (cI elt tg0 iter0 tg1 iter1 ifs0 ifs1 scope pos) 1 it acc env) R s:=by
 refine codeAny_loop rfl I (fun n s hI=>?_) n h;show wpAny _ A ((compTurn (cI elt tg0 iter0 tg1 iter1 ifs0 ifs1 scope pos) 1 it acc env).onRaise (fun x=>do noteFrame x env;theTreesLotGoes x)) _ _ s;refine wpAny_noted ?_;rw[FW];refine CU (wpAny_standAt (CU (Df (turn n s hI) (fun r s₁ h₁=>?_) fun _ _ h'=>h'.elim)));cases r with
 |none=>exact CV h₁
 |some v=>
  refine CU (Df h₁ (fun _ s₁' h₁'=>?_) fun _ _ h'=>h'.elim);refine CU (Df h₁' (fun _ s₂ h₂=>CU (Df h₂ (fun ok s₃ h₃=>?_) fun _ _ h'=>h'.elim)) fun _ _ h'=>h'.elim);cases ok with
  |false=>exact CV ⟨rfl,h₃⟩
  |true=>
   exact CU (CU (Df h₃ (fun x s₄ h₄=>CU (Df h₄ (fun _ s₅ h₅=>CV (CV ⟨rfl,h₅⟩)) fun _ _ h'=>h'.elim)) fun _ _ h'=>h'.elim))
theorem oT(hs:∀x,foldedSetIterable iter1 env x=pure x)(I:Nat->Shared->Prop)
  (turn:∀n s,I n s->wpAny (model prog w) A (pyNext it) (fun r s₁=>match r with
   |none=>R (.ok .next) s₁
   | some v=>wpAny (model prog w) A (letOwnedTupleGo tg0 it v) (fun _ s₁'=>wpAny (model prog w) A (assign tg0 env v) (fun _ s₂ =>
     wpAny (model prog w) A (forIn ifs0 true fun c r=>if r=true then do let ok <- isTrue c env (eval c env); pure (ForInStep.yield ok) else pure (ForInStep.yield r)) (fun ok s₃ =>
      if ok=true then wpAny (model prog w) A (eval iter1 env) (fun x s₄ =>
       wpAny (model prog w) A (pyIter x) (fun itv s₅=>codeAny (model prog w) A (.compStart (cI elt tg0 iter0 tg1 iter1 ifs0 ifs1 scope pos) 1 itv acc env) (fun r s₆=>r=.ok .next/\∃m,m < n/\I m s₆) s₅) (fun _ _=>False) s₄) (fun _ _=>False) s₃
      else ∃m,m < n/\I m s₃) (fun _ _=>False) s₂) (fun _ _=>False) s₁') (fun _ _=>False) s₁) (fun _ _=>False) s)
  (n:Nat) (h:I n s):codeAny (model prog w) A (.compLoop (cI elt tg0 iter0 tg1 iter1 ifs0 ifs1 scope pos) 0 it acc env) R s:=by
 refine codeAny_loop rfl I (fun n s hI=>?_) n h;show wpAny _ A ((compTurn (cI elt tg0 iter0 tg1 iter1 ifs0 ifs1 scope pos) 0 it acc env).onRaise (fun x=>do noteFrame x env;theTreesLotGoes x)) _ _ s;refine wpAny_noted ?_;rw[Fz];refine CU (wpAny_standAt (CU (Df (turn n s hI) (fun r s₁ h₁=>?_) fun _ _ h'=>h'.elim)));cases r with
 |none=>exact CV h₁
 |some v=>
  refine CU (Df h₁ (fun _ s₁' h₁'=>?_) fun _ _ h'=>h'.elim);refine CU (Df h₁' (fun _ s₂ h₂=>CU (Df h₂ (fun ok s₃ h₃=>?_) fun _ _ h'=>h'.elim)) fun _ _ h'=>h'.elim);cases ok with
  |false=>exact CV ⟨rfl,h₃⟩
  |true=>
   refine CU (Df h₃ (fun x s₄ h₄=>CU (wpAny_standAt ?_)) fun _ _ h'=>h'.elim);rw[hs];refine CU (CV (CU (Dg (Df h₄ (fun itv s₅ h₅=>?_) fun _ _ h'=>h'.elim))));refine CU (wpAny_runOwn (codeAny_mono h₅ fun r s₆ h₆=>?_));obtain⟨rfl,h7⟩:=h₆;exact CV ⟨rfl,h7⟩
theorem pG(h0:codeAny (model prog w) A (.compLoop (cI elt tg0 iter0 tg1 iter1 ifs0 ifs1 scope pos) 1 it acc env) R s)
  (h:wpAny (model prog w) A (pyIter it) (fun it' s'=>codeAny (model prog w) A (.compLoop (cI elt tg0 iter0 tg1 iter1 ifs0 ifs1 scope pos) 1 it' acc env) R s')
   (notedBy (model prog w) A env fun x s'=>R (.error x) s') s) :
  codeAny (model prog w) A (.compStart (cI elt tg0 iter0 tg1 iter1 ifs0 ifs1 scope pos) 1 it acc env) R s:=by
 refine codeAny_of_tree ?_;show wpAny _ _ ((compStart (cI elt tg0 iter0 tg1 iter1 ifs0 ifs1 scope pos) 1 it acc env).onRaise (fun x=>do noteFrame x env;standAt theWindowsPlace)) _ _ s;refine wpAny_notedAt ?_;unfold compStart;show wpAny _ _ (ask >>= _) _ _ s;refine CU (wpAny_askSetting (wpAny_ite ?_));split
 ·first
   |exact CU (CV (CV (And.intro rfl h0)))
   |exact CV (And.intro rfl h0)
 ·first
   |exact CU (DH (CU (wpAny_standAt (CU (Df h (fun it' s' h'=>CV (And.intro rfl h')) fun _ _ x=>x)))))
   |(refine CU (DH ?_);show wpAny _ _ (standAt iter1.pos >>= _) _ _ s;exact CU (wpAny_standAt (CU (Df h (fun it' s' h'=>CV (And.intro rfl h')) fun _ _ x=>x))))
end
def jv (J:It)(g:TG)(tc:TT)(te:TE)(σ:St)(H:Hp)(ys:List V)(Q:List V->Hp->Prop):Prop:=
 ∃W:Nat->Nat->St->List V->Hp->Prop,(∃m,W 0 m σ ys H)/\∀j m σ ys H,W j m σ ys H ->
  (J.stop j H/\ys.length<=sizeLine/\Q ys H) \/
  (J.go j H/\ys.length<sizeLine/\∀x H',J.yld j H x H'->g x σ H' fun σ2 H2=>tc σ2 H2 fun b H3=>if b=true then te σ2 H3 fun y H4=>∃m',m'<m/\W (j+1) m' σ2 (ys++[y]) H4 else ∃m',m'<m/\W (j+1) m' σ2 ys H3)
def nJ (J:It)(k:Nat)(js:List Nat)(g:TG)(tc:TT)(wi1:TI)(g1:TG)(tc1:TT)(te:TE)(σ:St)(H1:Hp)(Q:VK):Prop:=
 ∃W:Nat->Nat->List V->Hp->Prop,(∃m,W 0 m [] H1)/\∀i m ys H,W i m ys H ->
  (J.stop i H/\ys.length<=sizeLine/\∀p,H p=none->Q (.ref p) (upd H p (.lst ys))) \/
  (J.go i H/\∀x H',J.yld i H x H'->g x (List.replicate k none++cx js σ) H' fun σ2 H2=>tc σ2 H2 fun b H3 =>
   if b=true then wi1 σ2 H3 fun J1 H4=>jv J1 g1 tc1 te σ2 H4 ys fun ys' H5=>∃m',m' < m/\W (i+1) m' ys' H5 else ∃m',m' < m/\W (i+1) m' ys H3)
def uK (wi:TI)(k:Nat)(js:List Nat)(g:TG)(tc:TT)(wi1:TI)(g1:TG)(tc1:TT)(te:TE):TE:=fun σ H Q=>wi σ H fun J H1=>nJ J k js g tc wi1 g1 tc1 te σ H1 Q
section
variable {X:Cx}{scope:Scope}{ts cap:List Str}{js:List Nat}{elt tg0 iter0 tg1 iter1:Expr}{ifs0 ifs1:List Expr}{pos:Pos}
theorem kR{s0:Shared}{H0:Hp}{C:Addr}{fp:List Addr}{P:List (Addr×Obj)}{D:Addr}{its0:List Value}{n0:Nat}{ys0:List V}{σ:St}{H:Hp}{s:Shared}{J:It}{fp1:List Addr}{it1:Addr}{tn1:Nat->Heap->Prop}{g1:TG}{tc1:TT}{te:TE}{Q:List V->Hp->Prop}{R:Result->Shared->Prop}
  (hc:X.calm=true)(I:Inv (aF X scope C fp (ts++cap) s0 H0) ([(D,cS its0 n0)]++P) σ H s)(v0:Vals ys0 its0)(T:Turn X.prog X.w X.K tg1 J fp1 it1 tn1)(st:tn1 0 s.heap)(hf:∀b∈fp1,Em (aF X scope C fp (ts++cap) s0 H0) ([(D,cS its0 n0)]++P) H b)
  (hD0:D∈(aF X scope C fp (ts++cap) s0 H0).ex\/s0.heap.get? D=none)(hDc:∀x c,(aF X scope C fp (ts++cap) s0 H0).env.cells.lookup x=some c->c≠D)(hDp:∀p∈X.pn++P,p.1≠D)
  (hg:PG (aF X scope C fp (ts++cap) s0 H0) tg1 g1)(ht:PTs (aF X scope C fp (ts++cap) s0 H0) ifs1 tc1)(he:PE (aF X scope C fp (ts++cap) s0 H0) elt te)
  (cv:jv J g1 tc1 te σ H ys0 Q)
  (hR:∀σ' ys its n H' s',Inv (aF X scope C fp (ts++cap) s0 H0) ([(D,cS its n)]++P) σ' H' s'->Vals ys its->Q ys H'->R (.ok .next) s') :
  codeAny (model X.prog X.w) X.A (.compStart (cI elt tg0 iter0 tg1 iter1 ifs0 ifs1 scope pos) 1 (.ref it1) (.ref D) (compEnvC scope (cC X.env.cells scope.names []) C X.env)) R s:=by
 obtain⟨W,⟨m0,w0⟩,turn⟩:=cv;have stat:∀{H':Hp}{its:List Value}{n:Nat},(∀b∈fp1,H' b=none)->∀b∈fp1,Em (aF X scope C fp (ts++cap) s0 H0) ([(D,cS its n)]++P) H' b:=fun {H' its n} hn b hb=>by
  obtain⟨f0,f1,f2,f3,f4,f5⟩:=hf b hb;refine⟨hn b hb,f1,f2,f3,f4,fun p hp=>?_⟩;rcases zZ.mp hp with z|z
  ·exact f5 p (Aw _ z)
  ·rcases zZ.mp z with z|z
   ·have e:p=(D,cS its n):=by simpa using z
    subst e;exact f5 (D,cS its0 n0) (Ab _ (Aw _ zX))
   ·exact f5 p (Ab _ (Ab _ z))
 have nfp:∀b∈fp1,b≠D:=fun b hb=>by
  obtain⟨f0,f1,f2,f3,f4,f5⟩:=hf b hb;exact Dw (f5 (D,cS its0 n0) (Ab _ (Aw _ zX)))
 have loop:∀s3:Shared,s3=s->codeAny (model X.prog X.w) X.A (.compLoop (cI elt tg0 iter0 tg1 iter1 ifs0 ifs1 scope pos) 1 (.ref it1) (.ref D) (compEnvC scope (cC X.env.cells scope.names []) C X.env)) R s3:=by
  rintro s3 rfl;refine rS (fun k s'=>∃j σ' H' ys its n,Inv (aF X scope C fp (ts++cap) s0 H0) ([(D,cS its n)]++P) σ' H' s'/\Vals ys its/\tn1 j s'.heap/\(∀b∈fp1,H' b=none)/\W j k σ' ys H') ?_ m0
   ⟨0,σ,H,ys0,its0,n0,I,v0,st,fun b hb=>(hf b hb).1,w0⟩
  rintro k s3 ⟨j,σ3,H3,ys,its,n,I3,v3,st3,fr3,w3⟩;rcases turn j k σ3 ys H3 w3 with ⟨stop,hz,fin⟩|⟨go,hz,step⟩
  ·refine thn (T.done (aF X scope C fp (ts++cap) s0 H0) rfl rfl rfl hc j _ s3 _ H3 _ I3 (stat fr3) st3 stop) fun r s4 hq65=>?_;obtain⟨hr,I4⟩:=hq65;subst hr;exact hR _ _ _ _ _ _ I4 v3 fin
  ·refine thn (T.item (aF X scope C fp (ts++cap) s0 H0) rfl rfl rfl hc j _ s3 _ H3 _ I3 (stat fr3) st3 go) fun r s4 hq66=>?_;obtain⟨u,hr,h4⟩:=hq66;subst hr;refine thn h4 fun _ s5 hq67=>?_;obtain⟨x,H5,I5,r5,y5,st5,fr5⟩:=hq67;have I5':=I5.pinned (stat fr5) (T.obj _ _ st5);refine thn (hg _ s5 _ H5 x u _ I5' r5 (step x H5 y5)) fun _ s6 hq68=>?_;obtain⟨σ6,H6,I6,q6⟩:=hq68;refine thn (ht _ s6 σ6 H6 _ I6 q6) fun ok s7 hq69=>?_;obtain⟨H7,I7,q7⟩:=hq69;have pinned:∀{σ':St}{H':Hp}{s':Shared},Inv (aF X scope C fp (ts++cap) s0 H0) ([(D,cS its n)]++P++cH fp1 s5.heap) σ' H' s'->tn1 (j+1) s'.heap/\∀b∈fp1,H' b=none:=fun {σ' H' s'} J'=>by
    refine⟨T.keep _ _ _ st5 fun b hb o e=>(J'.pin (b,o) (Ab _ (Ab _ (bc hb e)))).1,fun b hb=>?_⟩;obtain⟨o,e,d⟩:=T.obj _ _ st5 b hb;exact(J'.pin (b,o) (Ab _ (Ab _ (bc hb e)))).2.1
   cases ok with
   |false=>
    rw[CZ Ax] at q7 ⊢;obtain⟨m',hm,w7⟩:=q7;obtain⟨st7,fr7⟩:=pinned I7;exact⟨m',hm,j+1,σ6,H7,ys,its,n,I7.DZ,v3,st7,fr7,w7⟩
   |true=>
    rw[Dc rfl] at q7 ⊢;refine thn (he _ s7 σ6 H7 _ I7 q7) fun yv s8 hq70=>?_;obtain⟨y,H8,I8,r8,m',hm,w8⟩:=hq70;obtain⟨st8,fr8⟩:=pinned I8;have I8':=I8.DZ;obtain⟨hDg,hDn,hDC',hDs,hDd⟩:=I8'.pin (D,cS its n) (Ab _ (Aw _ zX));have hl:=v3.length;refine append_at (hsz:=by rw[Aj];lia) hDg fun h9 hs9 hD9=>?_;have tracked:∀b o,b≠D->s8.heap.get? b=some o->h9.get? b=some o:=fun b o hb e=>hs9.extBut b o hb e;have I9:Inv (aF X scope C fp (ts++cap) s0 H0) ([(D,cS (its++[yv]) (n+1))]++P) σ6 H8 {s8 with heap:=h9}:=by
     have J0:Inv (aF X scope C fp (ts++cap) s0 H0) P σ6 H8 s8:=I8'.EL (fun p hp=>I8'.pin p (Ab _ (Ab _ hp)));have J1:Inv (aF X scope C fp (ts++cap) s0 H0) P σ6 H8 {s8 with heap:=h9,toks:=s8.toks}:=J0.turned (it:=D) tracked hDn hDC' hD0 hDc hDp;refine J1.EL fun p hp=>?_;rcases zZ.mp hp with z|z
     ·have e:p=(D,cS (its++[yv]) (n+1)):=by simpa using z
      subst e;refine⟨?_,hDn,hDC',hDs,fun v z=>by cases z⟩;show h9.get? D=_;rw[hD9];simp[cS,List.push_toArray]
     ·exact J1.pin p (Ab _ z)
    have st9:tn1 (j+1) h9:=T.keep _ _ _ st8 fun b hb o e=>tracked b o (nfp b hb) e;exact⟨m',hm,j+1,σ6,H8,ys++[y],its++[yv],n+1,I9,v3.append (.cons r8 .nil),st9,fr8,w8⟩
 exact pG (loop _ rfl) (T.self _ _ _ _ _ st (loop _ rfl))
theorem jf{pins:List (Addr×Obj)}{σ:St}{H:Hp}{s:Shared}{fp:List Addr}{g:TG}{tc:TT}{wi1:TI}{g1:TG}{tc1:TT}{te:TE}{J:It}{it:Addr}{tn:Nat->Heap->Prop}{W:Nat->Nat->List V->Hp->Prop}{m0:Nat}{E:Value->Shared->Prop}
  {RR:Value->Addr->Result->Shared->Prop}{Fin:List V->Hp->Prop}(hc:X.calm=true)
  (I:Inv X pins σ H s)(T:Turn X.prog X.w X.K tg0 J fp it tn)(st:tn 0 s.heap)(hf:∀b∈fp,Em X pins H b)(CS:aU X scope ts cap js)
  (hg:∀C fp s H,PG (aF X scope C fp (ts++cap) s H) tg0 g)(ht:∀C fp s H,PTs (aF X scope C fp (ts++cap) s H) ifs0 tc)(hi1:∀C fp s H,PI (aF X scope C fp (ts++cap) s H) tg1 iter1 wi1)
  (hg1:∀C fp s H,PG (aF X scope C fp (ts++cap) s H) tg1 g1)(ht1:∀C fp s H,PTs (aF X scope C fp (ts++cap) s H) ifs1 tc1)(he:∀C fp s H,PE (aF X scope C fp (ts++cap) s H) elt te)
  (hs1:∀C x,foldedSetIterable iter1 (compEnvC scope (cC X.env.cells scope.names []) C X.env) x=pure x)
  (w0:W 0 m0 [] H)
  (turn:∀i m ys H,W i m ys H->(J.stop i H/\ys.length<=sizeLine/\Fin ys H)\/(J.go i H/\∀x H',J.yld i H x H'->g x (List.replicate ts.length none++cx js σ) H' fun σ2 H2=>tc σ2 H2 fun b H3 =>
   if b=true then wi1 σ2 H3 fun J1 H4=>jv J1 g1 tc1 te σ2 H4 ys fun ys' H5=>∃m',m' < m/\W (i+1) m' ys' H5 else ∃m',m' < m/\W (i+1) m' ys H3))
  (hRR:∀D C s' H' ys m,Inv X pins σ (upd H' D (.lst ys)) s'->s'.heap.Ns C m->s.heap.objs.size<=C->s.heap.objs.size<=D->C≠D->H' C=none->H' D=none->Fin ys H'->RR (.ref D) C (.ok .next) s') :
  (wq X) (newList []) (fun acc s₃=>(wq X) (newFunctionEnv scope X.env.globals (cC X.env.cells scope.names []) [] X.env.qual none .none (some X.env)) (fun cenv s₄ =>
   codeAny (model X.prog X.w) X.A (.compStart (cI elt tg0 iter0 tg1 iter1 ifs0 ifs1 scope pos) 0 (.ref it) acc { cenv with scope:=relabel scope X.env }) (RR acc cenv.locals) s₄) E s₃) E s:=by
 have TA:∀C,HQ (aF X scope C fp (ts++cap) s H) tg0 J fp it tn:=fun C=>⟨T.item (aF X scope C fp (ts++cap) s H) rfl rfl rfl hc,T.done (aF X scope C fp (ts++cap) s H) rfl rfl rfl hc⟩
 refine wpAny_newObj_type (wpAny_newFunctionEnv CS.Hw (by intro y hy;simp at hy) (fun h₁ hns₁ hsb₁=>?_) CS.kind);dsimp only at hns₁ hsb₁ ⊢;generalize hH2:s.heap.push {cls:=.type "list",dict:=none,data:=.seq ([]:List Value).toArray}=H2 at hns₁ hsb₁ ⊢;have hCs:H2.objs.size=s.heap.objs.size+1:=by rw[<- hH2,DG]
 have hDC:s.heap.objs.size≠H2.objs.size:=by rw[hCs];exact Aa (AI _)
 have hCle:s.heap.objs.size<=H2.objs.size:=by rw[hCs];exact AH _
 have below:∀b,b<s.heap.objs.size->b≠H2.objs.size:=fun b hb=>by rw[hCs];exact Aa (AW hb)
 have old:∀b o,s.heap.get? b=some o->h₁.get? b=some o:=fun b o e=>hsb₁.extBut b o (below b (Di e)) (Dx _ (hH2▸Dx _ e));have hacc:h₁.get? s.heap.objs.size=some (cS [] 0):=hsb₁.extBut _ _ hDC (Dx _ (hH2▸Dy _ rfl));have hfl:∀b∈fp,b<s.heap.objs.size:=fun b hb=>by obtain⟨o,e,_⟩:=T.obj _ _ st b hb;exact Di e
 have st₁:tn 0 h₁:=T.keep _ _ _ st fun b _ o e=>old b o e;have hDstk:s.heap.objs.size∉frs X.stack:=fun z=>by
  obtain⟨_,o,ho,_⟩:=I.stack.mem z;exact absurd (Di ho) (AC _)
 have I0:Inv (aF X scope H2.objs.size fp (ts++cap) s H) [(s.heap.objs.size,cS [] 0)] (List.replicate ts.length none++cx js σ) H {s with heap:=h₁,toks:=s.toks+([]:List (Str×Value)).length}:=
  oq I CS hf hfl hCle old hns₁ rfl I.bare fun p hp=>by
   have e:p=(s.heap.objs.size,cS [] 0):=by simpa using hp
   subst e;exact⟨hacc,I.hok.fresh (zU _),hDC,hDstk,fun v z=>by cases z⟩
 have stat:∀{H':Hp}{ys:List Value}{n:Nat},(∀b∈fp,H' b=none)->∀b∈fp,Em (aF X scope H2.objs.size fp (ts++cap) s H) [(s.heap.objs.size,cS ys n)] H' b:=fun {H' ys n} hn b hb=>by
  obtain⟨f0,f1,f2,f3,f4,f5⟩:=hf b hb;refine⟨hn b hb,below b (hfl b hb),?_,.inl hb,fun x c e=>f4 x c (CS.look I.ok e),fun p hp=>?_⟩
  ·exact(jF I CS hf hfl hCle).Iv b hb
  ·rcases zZ.mp hp with z|z
   ·exact f5 p (Aw _ z)
   ·have e:p=(s.heap.objs.size,cS ys n):=by simpa using z
    subst e;intro q;have q':s.heap.objs.size=b:=q;exact absurd (hfl b hb) (by rw[<- q'];exact AC _)
 have loop:∀s₃:Shared,s₃={s with heap:=h₁,toks:=s.toks+([]:List (Str×Value)).length} ->
   codeAny (model X.prog X.w) X.A (.compLoop (cI elt tg0 iter0 tg1 iter1 ifs0 ifs1 scope pos) 0 (.ref it) (.ref s.heap.objs.size) (compEnvC scope (cC X.env.cells scope.names []) H2.objs.size X.env))
    (RR (.ref s.heap.objs.size) H2.objs.size) s₃:=by
  rintro s₃ rfl;refine oT (hs1 _) (fun k s'=>∃i H' ys its n,Inv (aF X scope H2.objs.size fp (ts++cap) s H) [(s.heap.objs.size,cS its n)] (List.replicate ts.length none++cx js σ) H' s'/\Vals ys its/\tn i s'.heap/\(∀b∈fp,H' b=none)/\W i k ys H') ?_ m0
   ⟨0,H,[],[],0,I0,.nil,st₁,fun b hb=>(hf b hb).1,w0⟩
  rintro k s3 ⟨i,H3,ys,its,n,I3,v3,st3,fr3,w3⟩;rcases turn i k ys H3 w3 with ⟨stop,hz,fin⟩|⟨go,step⟩
  ·refine thn ((TA _).done i _ s3 _ H3 _ I3 (stat fr3) st3 stop) fun r s4 hq71=>?_;obtain⟨hr,I4⟩:=hq71;subst hr;obtain⟨m4,hn4,_⟩:=I4.loc;exact hRR _ _ s4 H3 ys m4 (iY I hf hCle (zU _) I4 v3 hz) hn4 hCle (zU _) (Dw hDC) I4.free (I4.pin (s.heap.objs.size,cS its n) (Ab _ zX)).2.1 fin
  ·refine thn ((TA _).item i _ s3 _ H3 _ I3 (stat fr3) st3 go) fun r s4 hq72=>?_;obtain⟨u,hr,h4⟩:=hq72;subst hr;refine thn h4 fun _ s5 hq73=>?_;obtain⟨x,H5,I5,r5,y5,st5,fr5⟩:=hq73;have I5':=I5.pinned (stat fr5) (T.obj _ _ st5);refine thn (hg _ _ _ _ _ s5 _ H5 x u _ I5' r5 (step x H5 y5)) fun _ s6 hq74=>?_;obtain⟨σ6,H6,I6,q6⟩:=hq74;refine thn (ht _ _ _ _ _ s6 σ6 H6 _ I6 q6) fun ok s7 hq75=>?_;obtain⟨H7,I7,q7⟩:=hq75;have pinned:∀{σ':St}{H':Hp}{s':Shared},Inv (aF X scope H2.objs.size fp (ts++cap) s H) ([(s.heap.objs.size,cS its n)]++cH fp s5.heap) σ' H' s'->tn (i+1) s'.heap/\∀b∈fp,H' b=none:=fun {σ' H' s'} J=>by
    refine⟨T.keep _ _ _ st5 fun b hb o e=>(J.pin (b,o) (Ab _ (Ab _ (bc hb e)))).1,fun b hb=>?_⟩;obtain⟨o,e,d⟩:=T.obj _ _ st5 b hb;exact(J.pin (b,o) (Ab _ (Ab _ (bc hb e)))).2.1
   cases ok with
   |false=>
    rw[CZ Ax] at q7 ⊢;obtain⟨m',hm,w7⟩:=q7;obtain⟨st7,fr7⟩:=pinned I7;exact⟨m',hm,i+1,H7,ys,its,n,cV I CS hf I7.DZ,v3,st7,fr7,w7⟩
   |true=>
    rw[Dc rfl] at q7 ⊢;refine thn (hi1 _ _ _ _ _ s7 σ6 H7 _ I7 q7) fun xv s8 h8=>thn h8 fun itv s9 h9=>?_;obtain⟨it1,fp1,tn1,J1,H9,e9,I9,T1,st9,f9,cv⟩:=h9;subst e9;refine kR (D:=s.heap.objs.size) (its0:=its) (n0:=n) (P:=cH fp s5.heap) hc I9 v3 T1 st9 f9 (.inr (Heap.get?_none_of_le (zU _))) (fun x c e q=>?_) (fun p hp q=>?_) (hg1 _ _ _ _) (ht1 _ _ _ _) (he _ _ _ _) cv (fun σ' ys' its' n' H' s' I' v' q'=>⟨rfl,?_⟩)
    ·obtain⟨v,o,ho,_⟩:=I.cell x c (CS.look I.ok e);rw[q] at ho;exact absurd (Di ho) (AC _)
    ·rcases zZ.mp hp with z|z
     ·obtain⟨e,_⟩:=I.pin p (Aw _ z);rw[q] at e;exact absurd (Di e) (AC _)
     ·obtain⟨hb,_⟩:=iT z;exact absurd (hfl _ hb) (by rw[q];exact AC _)
    ·obtain⟨m',hm,w8⟩:=q';have st8:tn (i+1) s'.heap:=T.keep _ _ _ st5 fun b hb o e=>(I'.pin (b,o) (Ab _ (Ab _ (bc hb e)))).1;have fr8:∀b∈fp,H' b=none:=fun b hb=>by
      obtain⟨o,e,d⟩:=T.obj _ _ st5 b hb;exact(I'.pin (b,o) (Ab _ (Ab _ (bc hb e)))).2.1
     exact⟨m',hm,i+1,H',ys',its',n',cV I CS hf I'.DZ,v',st8,fr8,w8⟩
 exact codeAny_compStart_list (loop _ rfl) (T.self _ _ _ _ _ st₁ (loop _ rfl))
end
def NxV (n j:Nat)(P:Nat->St->List V->Hp->Prop)(σ:St)(ys:List V)(H:Hp):Prop:=∃m',m'<n-j/\(m'=n-(j+1)/\j+1<=n/\P (j+1) σ ys H)
theorem NxV.mk{n j:Nat}{P:Nat->St->List V->Hp->Prop}{σ:St}{ys:List V}{H:Hp}(hj:j<n)(h:P (j+1) σ ys H):NxV n j P σ ys H:=⟨n-(j+1),by lia,rfl,hj,h⟩
theorem qb{J:It}{n:Nat}{g:TG}{tc:TT}{te:TE}{σ0:St}{H0:Hp}{ys0:List V}{Q:List V->Hp->Prop}(P:Nat->St->List V->Hp->Prop)(h0:P 0 σ0 ys0 H0)(hz:∀j σ ys H,j<=n->P j σ ys H->ys.length<sizeLine)
  (hgo:∀j σ ys H,j<n->P j σ ys H->J.go j H)(hstop:∀σ ys H,P n σ ys H->J.stop n H)
  (hs:∀j σ ys H x H',j<n->P j σ ys H->J.yld j H x H'->g x σ H' fun σ2 H2=>tc σ2 H2 fun b H3=>if b=true then te σ2 H3 fun y H4=>NxV n j P σ2 (ys++[y]) H4 else NxV n j P σ2 ys H3)
  (hd:∀σ ys H,P n σ ys H->Q ys H):jv J g tc te σ0 H0 ys0 Q:=by
 refine⟨fun j m σ ys H=>m=n-j/\j<=n/\P j σ ys H,⟨n,by simp,Ag _,h0⟩,?_⟩;rintro j m σ ys H ⟨rfl,hj,p⟩;have hy:=hz j σ ys H hj p;by_cases hlt:j<n
 ·exact .inr ⟨hgo j σ ys H hlt p,hy,fun x H' y=>hs j σ ys H x H' hlt p y⟩
 ·have e:j=n:=by lia
  subst e;exact .inl ⟨hstop σ ys H p,AS hy,hd σ ys H p⟩
theorem oR{J:It}{n k:Nat}{js:List Nat}{g:TG}{tc:TT}{wi1:TI}{g1:TG}{tc1:TT}{te:TE}{σ:St}{H:Hp}{Q:VK}(P:Nat->List V->Hp->Prop)(h0:P 0 [] H)(hz:∀i ys H,i<=n->P i ys H->ys.length<=sizeLine)
  (hgo:∀i ys H,i<n->P i ys H->J.go i H)(hstop:∀ys H,P n ys H->J.stop n H)
  (hs:∀i ys H x H',i<n->P i ys H->J.yld i H x H'->g x (List.replicate k none++cx js σ) H' fun σ2 H2=>tc σ2 H2 fun b H3=>if b=true then wi1 σ2 H3 fun J1 H4=>jv J1 g1 tc1 te σ2 H4 ys fun ys' H5=>Nx n i P ys' H5 else Nx n i P ys H3)
  (hd:∀ys H,P n ys H->∀p,H p=none->Q (.ref p) (upd H p (.lst ys))):nJ J k js g tc wi1 g1 tc1 te σ H Q:=by
 refine⟨fun i m ys H=>m=n-i/\i<=n/\P i ys H,⟨n,by simp,Ag _,h0⟩,?_⟩;rintro i m ys H ⟨rfl,hi,p⟩;have hy:=hz i ys H hi p;by_cases hlt:i<n
 ·exact .inr ⟨hgo i ys H hlt p,fun x H' y=>hs i ys H x H' hlt p y⟩
 ·have e:i=n:=by lia
  subst e;exact .inl ⟨hstop ys H p,hy,hd ys H p⟩
theorem uq{lo:Int}{n:Nat}{g:TG}{tc:TT}{te:TE}{σ0:St}{H0:Hp}{ys0:List V}{Q:List V->Hp->Prop}(P:Nat->St->List V->Hp->Prop)(h0:P 0 σ0 ys0 H0)(hz:∀j σ ys H,j<=n->P j σ ys H->ys.length<sizeLine)
  (hs:∀j σ ys H,j<n->P j σ ys H->g (.int (lo+j)) σ H fun σ2 H2=>tc σ2 H2 fun b H3=>if b=true then te σ2 H3 fun y H4=>NxV n j P σ2 (ys++[y]) H4 else NxV n j P σ2 ys H3)
  (hd:∀σ ys H,P n σ ys H->Q ys H):jv (Itr lo n) g tc te σ0 H0 ys0 Q:=
 qb P h0 hz (fun _ _ _ _ h _=>h) (fun _ _ _ _=>zU _) (fun j σ ys H x H' hj p y=>by obtain⟨e,y⟩:=y;subst e y;exact hs j σ ys _ hj p) hd
theorem tF{lo:Int}{n k:Nat}{js:List Nat}{g:TG}{tc:TT}{wi1:TI}{g1:TG}{tc1:TT}{te:TE}{σ:St}{H:Hp}{Q:VK}(P:Nat->List V->Hp->Prop)(h0:P 0 [] H)(hz:∀i ys H,i<=n->P i ys H->ys.length<=sizeLine)
  (hs:∀i ys H,i<n->P i ys H->g (.int (lo+i)) (List.replicate k none++cx js σ) H fun σ2 H2=>tc σ2 H2 fun b H3=>if b=true then wi1 σ2 H3 fun J1 H4=>jv J1 g1 tc1 te σ2 H4 ys fun ys' H5=>Nx n i P ys' H5 else Nx n i P ys H3)
  (hd:∀ys H,P n ys H->∀p,H p=none->Q (.ref p) (upd H p (.lst ys))):nJ (Itr lo n) k js g tc wi1 g1 tc1 te σ H Q:=
 oR P h0 hz (fun _ _ _ h _=>h) (fun _ _ _=>zU _) (fun i ys H x H' hi p y=>by obtain⟨e,y⟩:=y;subst e y;exact hs i ys _ hi p) hd
def CdO (c:Addr)(q:Str):HO:=.ext fun h=>∃o vs t,h.get? c=some o/\o.data=.fields vs/\vs[1]?=some (.str q t)
def FnO (a:Addr)(fd:FuncData):HO:=.ext fun h=>∃o,h.get? a=some o/\o.data=.func fd
structure Ep(pos:Pos)(q:Str)(P:Addr)(H:Hp):Prop where
 ex:∃ps,H P=some (.tbl ps)/\TriplesOk ps.toList/\(codeAmong pos ps.toList=none\/∃c,codeAmong pos ps.toList=some (.ref c)/\H c=some (CdO c q))
structure JL(K:W.Frag)(mg:Str->Option Value)(c P:Addr):Prop where
 hd:∀h:Heap,K.In h->W.CodeHd h c P
 bt:∀h:Heap,K.In h->h.BuiltinsAt mg P
 ne:mainGlobals≠P
def SmB (P:Addr)(H H':Hp):Prop:=∀b o,b≠P->H b=some o->H' b=some o
theorem SmB.trans{P:Addr}{H H1 H2:Hp}(a:SmB P H H1)(b:SmB P H1 H2):SmB P H H2:=fun c o n e=>b c o n (a c o n e)
theorem SmB.of{P:Addr}{H H':Hp}(a:DN H H'):SmB P H H':=fun c o _ e=>a c o e
theorem Ep.same{pos:Pos}{q:Str}{P:Addr}{H H':Hp}(h:Ep pos q P H)(S:DN H H'):Ep pos q P H':=by
 obtain⟨ps,h1,h2,h3⟩:=h.ex;refine⟨ps,S _ _ h1,h2,?_⟩;rcases h3 with h3|⟨c,h3,h4⟩
 ·exact .inl h3
 ·exact .inr ⟨c,h3,S _ _ h4⟩
def tLam (pos:Pos)(q:Str)(P:Addr)(F:Value->Value->Value->FuncData):TE:=fun σ H Q=>Ep pos q P H/\∀a c pm ct H',H a=none->H' a=some (FnO a (F pm (.ref c) ct))->H' c=some (CdO c q)->Ep pos q P H'->SmB P H H'->Q (.ref a) H'
theorem sZ{P:Program}{w:World}{H:Hp}{h:Heap}{a:Addr}{fd:FuncData}{o:Obj}(e:h.get? a=some o)(d:o.data=.func fd):Eb P w H h a (FnO a fd):=
 ⟨⟨o,e,d⟩,⟨o,e⟩,fun h1 h2 ⟨o1,e1,d1⟩ k=>⟨o1,k _ e1,d1⟩⟩
theorem wq{P:Program}{w:World}{H:Hp}{h:Heap}{c:Addr}{q:Str}(e:h.CodeRec (.ref c) q):Eb P w H h c (CdO c q):=by
 obtain⟨c',o,vs,t,e0,e1,e2,e3⟩:=e;cases e0;exact⟨⟨o,vs,t,e1,e2,e3⟩,⟨o,e1⟩,fun h1 h2 ⟨o1,vs1,t1,a1,a2,a3⟩ k=>⟨o1,vs1,t1,k _ a1,a2,a3⟩⟩
theorem tw{P:Program}{w:World}{H:Hp}{h:Heap}{c:Addr}{q:Str}(x:HOk P w H h)(e:H c=some (CdO c q)):h.CodeRec (.ref c) q:=by
 obtain⟨⟨o,vs,t,e1,e2,e3⟩,_⟩:=x c _ e;exact⟨c,o,vs,t,rfl,e1,e2,e3⟩
theorem tY{P:Program}{w:World}{H:Hp}{h:Heap}{a:Addr}{fd:FuncData}(x:HOk P w H h)(e:H a=some (FnO a fd)):∃o,h.get? a=some o/\o.data=.func fd:=by
 obtain⟨z,_⟩:=x a _ e;exact z
theorem tE{X:Cx}{params:Arguments}{body:Expr}{scope:Scope}{pos:Pos}{c P:Addr}{q:Str}{ts cap:List Str}{js:List Nat}(LK:JL X.K X.mg c P)(hcode:X.env.code=.ref c)(hq:X.env.qual++"<lambda>"=q)(hd:defaultsOf params X.env=([],[]))(CS:aU X scope ts cap js) :
  PE X (.Lambda params body scope pos) (tLam pos q P fun pm cd ct=>W.kla_fn "<lambda>" q params body scope (cC X.env.cells scope.names []) pm cd ct):=by
 intro pins s σ H Q I h;obtain⟨⟨ps,hP,hT,hc⟩,h⟩:=h;refine W.kla_eval hd ?_;rw[hq];have hcl:=bM (CS.cells I.ok);have hns:s.heap.Ns mainGlobals X.mg:=by
  obtain⟨o,es,ep,e,r⟩:=I.ok.mod.glob;exact⟨o,es,ep,I.bk _ _ e,r⟩
 have gP:s.heap.get? P=some (W.tabObj ps):=I.hok P _ hP;rcases hc with hc|⟨c0,hc,hcc⟩
 ·refine W.kla_makeFunction hcl I.ok.glob hns hcode (LK.hd _ I.kIn) gP hT hc LK.ne (LK.bt _ I.kIn) fun c' ctv h' tk ext hsz hlt hrec htab=>?_;have tl:(ps++#[rawInt pos.line,rawInt pos.col,.ref c']).toList=ps.toList++[rawInt pos.line,rawInt pos.col,.ref c']:=by simp
  have nP:∀b u,H b=some u->(∀ps,u≠.tbl ps)->b≠P:=fun b u e n z=>by rw[z,hP] at e;exact n ps (Dj e).symm
  have lc:∀b u,H b=some u->b≠c':=fun b u e=>Aa (Ah (I.hok.lt e) hsz);have la:∀b u,H b=some u->b≠h'.objs.size:=fun b u e=>Aa (Bu (Ah (I.hok.lt e) hsz) hlt);have ca:c'≠h'.objs.size:=Aa hlt;have cP:c'≠P:=Dw (lc P _ hP);have Pa:P≠h'.objs.size:=la P _ hP;generalize hfd:W.kla_fn "<lambda>" q params body scope (cC X.env.cells scope.names []) ((X.mg "__name__").getD .none) (.ref c') ctv=fd;have hob:W.kla_obj "<lambda>" q params body scope (cC X.env.cells scope.names []) ((X.mg "__name__").getD .none) c' ctv={cls:=.type "function",data:=.func fd}:=by rw[<- hfd]
  rw[hob];obtain⟨H',eH⟩:∃H',H'=upd (upd (upd H P (.tbl (ps++#[rawInt pos.line,rawInt pos.col,.ref c']))) c' (CdO c' q)) h'.objs.size (FnO h'.objs.size fd):=⟨_,rfl⟩
  have eA:H' h'.objs.size=some (FnO h'.objs.size fd):=by rw[eH];exact ae
  have eC:H' c'=some (CdO c' q):=by rw[eH,ar ca];exact ae
  have eP:H' P=some (.tbl (ps++#[rawInt pos.line,rawInt pos.col,.ref c'])):=by rw[eH,ar Pa,ar (Dw cP)];exact ae
  have eO:∀b,b≠P->b≠c'->b≠h'.objs.size->H' b=H b:=fun b n1 n2 n3=>by rw[eH,ar n3,ar n2,ar n1]
  have SB:SmB P H H':=fun b o n e=>by rw[eO b n (lc b o e) (la b o e)];exact e
  have kp:∀b u,b≠P->s.heap.get? b=some u->(h'.push {cls:=.type "function",data:=.func fd}).get? b=some u:=fun b u n e=>Dx _ (ext b u n e);have gP':(h'.push {cls:=.type "function",data:=.func fd}).get? P=some (W.tabObj (ps++#[rawInt pos.line,rawInt pos.col,.ref c'])):=Dx _ htab;have tu:∀b xs,H b=some (.tup xs)->H' b=some (.tup xs):=fun b xs e=>SB b _ (nP b _ e fun _ z=>by cases z) e;have ow:∀b x,H b=some (.own x)->H' b=some (.own x):=fun b x e=>SB b _ (nP b _ e fun _ z=>by cases z) e;have I2:Inv X pins σ H' {s with heap:=h'.push {cls:=.type "function",data:=.func fd},toks:=tk}:=by
   refine I.un (t':=tk) ⟨fun b o e n _ _=>kp b o (fun z=>by rw[z,hP] at n;cases n) e,fun b o e n _ _=>⟨o.slots,kp b o (fun z=>by rw[z,hP] at n;cases n) e⟩,fun b o e n _=>?_,fun b o e _=>?_,tu,fun b o u e=>SB b _ (nP b _ e fun _ z=>by cases z) e,fun b ps' e=>?_⟩ fun b u e=>?_
   ·have lb:=Di e;rw[eO b (fun z=>by rw[z,hP] at n;cases n) (Aa (Ah lb hsz)) (Aa (Bu (Ah lb hsz) hlt))];exact n
   ·by_cases hb:b=P
    ·rw[hb];exact⟨_,gP'⟩
    ·exact⟨o,kp b o hb e⟩
   ·by_cases hb:b=P
    ·subst hb;rw[hP] at e;cases e;exact⟨_,eP⟩
    ·exact⟨#[],by rw[SB b _ hb e];simp⟩
   ·by_cases b1:b=h'.objs.size
    ·subst b1;rw[eA] at e;cases e;exact sZ (Dy _ rfl) rfl
    ·by_cases b2:b=c'
     ·subst b2;rw[eC] at e;cases e;obtain⟨c2,o,vs,t,e0,e1,e2,e3⟩:=hrec;cases e0;exact wq ⟨_,o,vs,t,rfl,Dx _ e1,e2,e3⟩
     ·by_cases b3:b=P
      ·subst b3;rw[eP] at e;cases e;exact gP'
      ·rw[eO b b3 b2 b1] at e;refine(I.hok b u e).GB (fun x v hx g=>kp x v (fun z=>?_) g) (fun x z=>ow x _ z) tu;rcases hx with hx|hx
       ·exact b3 (hx.symm.trans z)
       ·rw[z,hP] at hx;cases hx
  refine⟨.ref h'.objs.size,H',I2,rfl,h _ c' ((X.mg "__name__").getD .none) ctv H' ?_ (eA.trans (by rw[<- hfd])) eC ⟨_,eP,by rw[tl];exact TriplesOk_snoc _ _ _ _ hT,.inr ⟨c',by rw[tl];exact codeAmong_snoc _ hT hc,eC⟩⟩ SB⟩;exact I.hok.fresh (AS (Bi hsz hlt))
 ·refine W.kla_makeFunctionHit hcl I.ok.glob hns hcode (LK.hd _ I.kIn) gP hT hc (LK.bt _ I.kIn) fun ctv h' tk ext hsz=>?_;have I2:=I.laid (a:=h'.objs.size) (o:=FnO h'.objs.size (W.kla_fn "<lambda>" q params body scope (cC X.env.cells scope.names []) ((X.mg "__name__").getD .none) (.ref c0) ctv)) (t':=tk) (h':=h'.push {cls:=.type "function",data:=.func (W.kla_fn "<lambda>" q params body scope (cC X.env.cells scope.names []) ((X.mg "__name__").getD .none) (.ref c0) ctv)}) (fun b u e=>Dx _ (ext b u e)) hsz (sZ (Dy _ rfl) rfl);have hn:=I.hok.fresh (a:=h'.objs.size) hsz;have SS:=af hn (FnO h'.objs.size (W.kla_fn "<lambda>" q params body scope (cC X.env.cells scope.names []) ((X.mg "__name__").getD .none) (.ref c0) ctv));exact⟨.ref h'.objs.size,_,I2,rfl,h _ c0 _ ctv _ hn ae (SS _ _ hcc) (Ep.same ⟨ps,hP,hT,.inr ⟨c0,hc,hcc⟩⟩ SS) (SmB.of SS)⟩
def oD (X:Cx)(A:Around)(scope:Scope)(q:Str)(f:Addr)(cd:Value)(N:List Str)(s:Shared)(H:Hp):Cx where
 prog:=X.prog
 w:=X.w
 K:=X.K
 mg:=X.mg
 base:=X.base
 A:=A.deeper (W.envX q scope s.heap.objs.size f cd (cC X.env.cells scope.names []))
 N:=N
 s₀:=s
 H₀:=H
 env:=W.envX q scope s.heap.objs.size f cd (cC X.env.cells scope.names [])
 outer:=X.stack
 stack:=W.envX q scope s.heap.objs.size f cd (cC X.env.cells scope.names [])::X.stack
 ex:=[]
 fn:=fun _=>false
 calm:=A.handled.isNone
 pn:=[]
 xe:=fun _ _=>False
section
variable {X:Cx}{pins:List (Addr×Obj)}{σ:St}{H:Hp}{s:Shared}{scope:Scope}{cap:List Str}{js:List Nat}{A:Around}{q y:Str}{f:Addr}{cd:Value}
theorem uX(hA:A.frames=some X.stack)(I:Inv X pins σ H s)(CS:aU X scope [y] cap js):(oD X A scope q f cd ([y]++cap) s H).Ok where
 mod:=I.ok.mod
 kind:=CS.kind
 glob:=rfl
 blt:=rfl
 above:=zU _
 inj:=fun x z c h1 h2=>I.ok.inj x z c (CS.look I.ok h1) (CS.look I.ok h2)
 has:=fun x hx=>by
  have hx:scope.names.lookup x=some .cell\/scope.names.lookup x=some .free:=hx;rcases hx with hx|hx
  ·exact absurd rfl (CS.Hw _ (bg hx))
  ·exact BD.mp (eY (.inl (bg hx)))
 cab:=fun x c h _=>by cases (show false=true from h)
 hd:=fun h=>CO.mp h
 frames:=Around.frames_deeper hA
 stk:=.inr ⟨rfl,rfl⟩
 exf:=fun b hb=>absurd (show b∈([]:List Addr) from hb) (by simp)
 bs:=I.bs
 bsz:=Ak I.ok.bsz I.sz
 IQ:=fun b o e hb=>absurd (show b∈([]:List Addr) from hb) (by simp)
 Iv:=fun b hb=>absurd (show b∈([]:List Addr) from hb) (by simp)
 Gi:=I.stack
 frf:=I.Fj
theorem sd{s₄:Shared}{x:V}{u:Value}(hA:A.frames=some X.stack)(I:Inv X pins σ H s)(CS:aU X scope [y] cap js)(hy:scope.names.lookup y=some .local)(r:RelV x u)
  (old:∀b o,s.heap.get? b=some o->s₄.heap.get? b=some o)(hn:s₄.heap.Ns s.heap.objs.size fun z=>[(y,u)].reverse.lookup z)(hos:s₄.os=s.os)(hb:AllBare s₄.gens) :
  Inv (oD X A scope q f cd ([y]++cap) s H) [] ([some x]++cx js σ) H s₄ where
 ok:=uX hA I CS
 os:=hos
 bare:=hb
 base:=Un.kept old
 loc:=⟨_,hn,fun i z v h1 h2 h3=>by
  cases i with
  |zero=>
   have e1:y=z:=Dj h1;have e2:x=v:=Dj (Dj h2);subst e1 e2;exact⟨u,r,.inl ⟨hy,by simp⟩⟩
  |succ i=>
   have h1':cap[i]?=some z:=h1;have h2':(cx js σ)[i]?=some (some v):=h2;unfold cx at h2';rw[Ao] at h2';cases hj:js[i]? with
   |none=>rw[hj] at h2';cases h2'
   |some j=>
    rw[hj] at h2';have h2'':(σ[j]?).join=some v:=Dj h2';have hσ:σ[j]?=some (some v):=by
     cases e:σ[j]? with
     |none=>rw[e] at h2'';cases h2''
     |some o=>rw[e] at h2'';rw[show o=some v from h2'']
    have hN:X.N[j]?=some z:=by
     have:=congrArg (fun l=>l[i]?) CS.IE;simp only[Ao,h1',hj] at this;exact(Dj this).symm
    have hfr:=CS.JK z (Aq h1');have hk:=CS.free _ (bg hfr) rfl;obtain⟨m0,hn0,hl⟩:=I.loc;obtain⟨u',r',l⟩:=hl j z v hN hσ (.inr hk);refine⟨u',r',?_⟩;rcases l with ⟨k,_⟩|⟨k,c,e,zz⟩
    ·rcases hk with q|q<;>(rw[q] at k;cases k)
    ·obtain⟨c',e'⟩:=BD.mp (eY (cells:=X.env.cells) (acc:=[]) (.inl (bg hfr)));have e2:=CS.look I.ok e';have e3:X.env.cells.lookup z=some c:=e;rw[e3] at e2;cases e2;obtain⟨o,ho,hd⟩:=zz
     exact .inr ⟨.inr hfr,c,e',⟨o,old _ _ ho,hd⟩⟩⟩
 cell:=fun x c e=>by
  obtain⟨v,o,ho,hd⟩:=I.cell x c (CS.look I.ok e);exact⟨v,o,old _ _ ho,hd⟩
 free:=I.hok.fresh (zU _)
 Es:=fun x c e=>I.Es x c (CS.look I.ok e)
 pin:=fun p hp=>absurd (show p∈([]:List (Addr×Obj)) from hp) (by simp)
 hok:=I.hok.kept old
 len:=by
  show([some x]++cx js σ).length=([y]++cap).length;have:=congrArg List.length CS.IE;simp only[zV] at this;rw[zW,zW,cx,zV,this];rfl
theorem pF{te:TE}{params:Arguments}{body:Expr}{pm ct:Value}{c:Addr}{x:V}{u:Value}{Q:VK}(hA:A.frames=some X.stack)(hdp:A.depth<recursionLimit)(I:Inv X pins σ H s)(CS:aU X scope [y] cap js)(hy:scope.names.lookup y=some .local)
  (hco:scope.isCoroutine=false)(hge:scope.isGenerator=false)(hf:H f=some (FnO f (W.kla_fn "<lambda>" q params body scope (cC X.env.cells scope.names []) pm (.ref c) ct)))(hcd:H c=some (CdO c q))
  (hbind:bindArgs (W.kla_fn "<lambda>" q params body scope (cC X.env.cells scope.names []) pm (.ref c) ct) ⟨[u],[]⟩=pure [(y,u)])
  (hb:PE (oD X A scope q f (.ref c) ([y]++cap) s H) body te)(r:RelV x u)(h:te ([some x]++cx js σ) H Q) :
  wpAny (model X.prog X.w) A (call (.ref f) [u]) (EP X pins σ Q) (fun _ _=>False) s:=by
 obtain⟨o,ho,hd⟩:=tY I.hok hf;refine wpAny_call (codeAny_mono (R:=CR CX0 X.stack X.prog X.w H s Q E0) (W.kla_callFunE hdp ho hd hco hge rfl (tw I.hok hcd) ?_) fun r s' hq=>?_)
 ·rw[hbind];refine CV (wpAny_newFunctionEnv CS.Hw (fun z hz=>by rw[zY.mp hz];exact hy) (fun h₁ hns hsb=>⟨?_,W.kla_codeExpr ?_⟩) CS.kind)
  ·exact Heap.NoLimit.fresh I.nolimit _ hsb
  ·have old:∀b o,s.heap.get? b=some o->h₁.get? b=some o:=fun b o e=>hsb.extBut b o (Aa (Di e)) (Dx _ e);have J:=sd (A:=A) (q:=q) (f:=f) (cd:=.ref c) (s₄:={s with heap:=h₁,toks:=s.toks+[(y,u)].length}) hA I CS hy r old hns rfl I.bare;refine Df (hb [] _ _ H Q J h) (fun v s' hs=>?_) fun _ _ hF=>(show False from hF).elim;obtain⟨v',H',J',rv,q'⟩:=hs;exact⟨v',H',J'.os,J'.bare,J'.base,J'.hok,rv,q'⟩
 ·cases r with
  |error e=>exact False.elim hq
  |ok fl=>
   cases fl with
   |ret u=>exact I.after hq
   |next=>exact False.elim hq
   |brk=>exact False.elim hq
   |cont=>exact False.elim hq
end
end L2
namespace L2
open PySem PySem.Spec PyProof.Rows SeqAt
def xb (X:Cx)(σ:St)(H:Hp)(q:Addr)(key:Str->Int)(ks:List Str):Prop:=
 ∀(pins:List (Addr×Obj))(s:Shared)(k:Str)(t:Tok),Inv X pins σ H s->k∈ks->wpAny (model X.prog X.w) X.A.in1 (call (.ref q) [.str k t]) (EP X pins σ fun v H'=>v=.int (key k)/\H'=H) (fun _ _=>False) s
section
variable {X:Cx}{pins:List (Addr×Obj)}{σ:St}{H:Hp}
theorem nh{k:Str}{v:Value}(h:FX (.inr k) v=true):∃t,v=.str k t:=by
 rcases DU h with ⟨i,t,e,_⟩|⟨x,t,e,rfl⟩
 ·cases e
 ·cases e;exact⟨t,rfl⟩
theorem Inv.thaw{σ':St}{s s':Shared}{a:Addr}{u:HO}{o:Obj}(I0:Inv X pins σ H s)(e:H a=some u)(nt:∀xs,u≠.tup xs)(nf:∀o' u',u≠.frz o' u')(nb:∀ps,u≠.tbl ps)(no:∀x,u≠.own x)(I:Inv X pins σ' (upd H a (.frz o u)) s'):Inv X pins σ' H s':=by
 have b1:=I.base;have fr:∀b,upd H a (.frz o u) b=none->H b=none:=fun b n=>by
  by_cases hb:b=a
  ·subst hb;rw[ae] at n;cases n
  ·rw[ar hb] at n;exact n
 have hat:upd H a (.frz o u) a=some (.frz o u):=ae;refine⟨I.ok,I.os,I.bare,⟨b1.keep,b1.slot,fun b o e n hx=>fr b (b1.free b o e n hx),b1.there,fun b xs q=>?_,fun b o' u' q=>?_,fun b ps q=>?_⟩,I.loc,I.cell,fr _ I.free,fun x c e=>fr _ (I.Es x c e),fun p hp=>?_,fun b v q=>?_,I.len⟩
 ·have z:=b1.Ha b xs q;by_cases hb:b=a
  ·subst hb;rw[ae] at z;cases z
  ·rw[ar hb] at z;exact z
 ·exact I0.base.GG b o' u' q
 ·obtain⟨more,z⟩:=b1.GH b ps q;by_cases hb:b=a
  ·subst hb;rw[ae] at z;cases z
  ·rw[ar hb] at z;exact⟨more,z⟩
 ·obtain⟨h1,h2,h3⟩:=I.pin p hp;exact⟨h1,fr _ h2,h3⟩
 ·have tu:∀c xs,upd H a (.frz o u) c=some (.tup xs)->H c=some (.tup xs):=fun c xs z=>by
   by_cases hc:c=a
   ·subst hc;rw[ae] at z;cases z
   ·rw[ar hc] at z;exact z
  have ow:∀c x,upd H a (.frz o u) c=some (.own x)->H c=some (.own x):=fun c x z=>by
   by_cases hc:c=a
   ·subst hc;rw[ae] at z;cases z
   ·rw[ar hc] at z;exact z
  by_cases hb:b=a
  ·subst hb;rw[e] at q;cases q;exact(I.hok b _ hat).2.GB (fun _ _ _ q=>q) (fun c q=>ow c _ q) tu
  ·exact(I.hok b v (by rw[ar hb];exact q)).GB (fun _ _ _ q=>q) (fun c q=>ow c _ q) tu
theorem mf{q d IT S:Addr}{key:Str->Int}{ks:List Str}{ep:Nat}{o:Obj}{u:HO}{vs:List (Key×Value)}(hvs:vs.map (·.1)=ks.map Sum.inr)(hD:H d=some (.frz o u))(hat:∀h:Heap,h.get? d=some o->Heap.DictAt (aL X.prog X.w) h d vs ep)(hq:xb X σ H q key ks)(hc:X.calm=true)
  (hIS:IT≠S)(hdI:d≠IT){R:Result->Shared->Prop} :
  ∀(n j:Nat)(s:Shared)(rb:Str)(tb:Tok)(ti:Tok)(c:Nat),ks.length-j=n->j<=ks.length->Inv X pins σ H s ->
   Em X pins H IT->Em X pins H S->s.heap.IsKeyIter IT d j vs.length ep->s.heap.get? S=some (seqObj "list" #[.str rb tb,.int (key rb) ti] c)->rb∈ks->(∀k∈ks.take j,key rb<=key k) ->
   (∀(k:Str)(t:Tok)(s':Shared),k∈ks->(∀k'∈ks,key k<=key k')->Inv X pins σ H s'->R (.ok (.ret (.str k t))) s') ->
   codeAny (model X.prog X.w) X.A (.builtin "min.loop" ⟨[.ref IT,.ref q,.ref S],[]⟩) R s:=by
 have hname:(toString "min"++toString ".loop":String)="min.loop":=by decide
 have hlen:vs.length=ks.length:=by have:=congrArg List.length hvs;rw[zV,zV] at this;exact this
 intro n;induction n with
 |zero=>
  intro j s rb tb ti c hn hj I fI fS hit hS hrb hbest hR;obtain rfl:j=ks.length:=by lia
  have hdo:s.heap.get? d=some o:=(I.hok d _ hD).1;have W:=Walks.dictKeys (knd:=aL X.prog X.w) (prog:=X.prog) (w:=X.w) (A:=X.A.in1) (I.ok.hd hc) IT d hdI vs ep;refine codeAny_builtin PySem.F.entry_min_loop ?_;rw[Around.under_plainId PySem.F.plain_min_loop _];show wpAny _ X.A.in1 (seqItems? (.ref S) >>= _) _ _ _;refine CU (wpAny_seqItems hS rfl ?_);show wpAny _ X.A.in1 (tryCatch (pyNext (.ref IT)) _ >>= _) _ _ _;refine CU (wpAny_tryCatch (W.done _ _ _ ⟨by rw[hlen] at hit ⊢;exact hit,hat _ hdo⟩ fun h' tk' hk'=>?_));have I1:Inv X pins σ H {s with heap:=h',toks:=tk'}:=fI.turn I fun b o hb e=>hk' b o (by simpa using hb) e;have hS':=hk' S _ (by simpa using Dw hIS) hS;have s1:=Heap.SameBut.update h' S (Obj.mapSeq fun _=>(#[]:Array Value));show wpAny _ X.A.in1 (updateSeq S (fun _=>#[]) >>= _) _ _ _;refine CU ?_;refine wpAny_updateSeq hS' rfl (CU (wpAny_letGo (CV ?_)));exact hR rb tb _ hrb (fun k hk=>hbest k (by rw[Bg];exact hk)) (fS.turn I1 fun b o hb e=>by rw[s1.2 b hb];exact e)
 |succ n ih=>
  intro j s rb tb ti c hn hj I fI fS hit hS hrb hbest hR;have hlt:j<ks.length:=by lia
  have hdo:s.heap.get? d=some o:=(I.hok d _ hD).1;have W:=Walks.dictKeys (knd:=aL X.prog X.w) (prog:=X.prog) (w:=X.w) (A:=X.A.in1) (I.ok.hd hc) IT d hdI vs ep;refine codeAny_builtin PySem.F.entry_min_loop ?_;rw[Around.under_plainId PySem.F.plain_min_loop _];show wpAny _ X.A.in1 (seqItems? (.ref S) >>= _) _ _ _;refine CU (wpAny_seqItems hS rfl ?_);show wpAny _ X.A.in1 (tryCatch (pyNext (.ref IT)) _ >>= _) _ _ _;refine CU (wpAny_tryCatch (W.item j _ _ _ (by rw[hlen];exact hlt) ⟨hit,hat _ hdo⟩ fun v h' tk' hP hst' hk'=>?_));obtain⟨k0,x0,hk0,hkv⟩:=hP;have ek:k0=Sum.inr ks[j]:=by
   have:=congrArg (fun l=>l[j]?) hvs;simp only[Ao,hk0,Ac hlt] at this;exact Dj this
  subst ek;obtain⟨tv,rfl⟩:=nh hkv;have hmem:ks[j]∈ks:=Ay hlt;obtain⟨oI,hoI,hoc,hod⟩:=id hst'.1;have I1:Inv X pins σ H {s with heap:=h',toks:=tk'}:=fI.turn I fun b o hb e=>hk' b o (by simpa using hb) e;have hS':=hk' S _ (by simpa using Dw hIS) hS
  have IP:=I1.pinned (fp:=[IT,S]) (fun b hb=>by
   rcases Ad.mp hb with rfl|hb
   ·exact fI
   ·rw[zY.mp hb];exact fS) (fun b hb=>by
   rcases Ad.mp hb with rfl|hb
   ·exact⟨oI,hoI,fun v e=>by rw[hod] at e;cases e⟩
   ·rw[zY.mp hb]; exact⟨_,hS',fun v e=>by cases e⟩)
  show wpAny _ X.A.in1 (tryCatch (holding [_] (call (.ref q) [_])) _ >>= _) _ _ _;refine CU (wpAny_tryCatch (Dg (Df (hq _ _ _ tv IP hmem) (fun x s2 he=>?_) fun _ _ hF=>hF.elim)));obtain⟨_,_,I2,r2,rfl,rfl⟩:=he;obtain⟨tn,rfl⟩:=r2;have pin:∀b o,b∈[IT,S]->h'.get? b=some o->s2.heap.get? b=some o:=fun b o hb e=>by
   have m:(b,o)∈cH [IT,S] h':=AL.mpr ⟨b,hb,by rw[e];rfl⟩;exact(I2.pin (b,o) (Ab _ (Ab _ m))).1
  have gI2:=pin IT oI (.head _) hoI;have gS2:=pin S _ (.tail _ (.head _)) hS';have I3:=I2.DZ;show wpAny _ X.A.in1 (tryCatch (holding [_,.int (key ks[j]) tn] (richCompare .Lt (.int (key ks[j]) tn) (.int (key rb) ti) >>= _)) _ >>= _) _ _ _;refine CU (wpAny_tryCatch (Dg (CU (HT.ER _ _ _ _ _ _ _ _ _ _ ?_))));refine CU (Dg (wpAny_truthy_bool ?_));refine CU (wpAny_letGo (CV ?_));have htake:ks.take (j+1)=ks.take j++[ks[j]]:=by rw[Au,Ac hlt];rfl
  by_cases hb':key ks[j]<key rb
  ·have s1:=Heap.SameBut.update s2.heap S (Obj.mapSeq fun _=>#[.str ks[j] tv,.int (key ks[j]) tn]);obtain⟨c2,hc2⟩:∃c2,(s2.heap.update S (Obj.mapSeq fun _=>#[.str ks[j] tv,.int (key ks[j]) tn])).get? S=some (seqObj "list" #[.str ks[j] tv,.int (key ks[j]) tn] c2):=⟨_,get?_update_seq gS2 fun _=>#[.str ks[j] tv,.int (key ks[j]) tn]⟩
   simp only[Dd hb',if_true];refine CU ?_;refine wpAny_updateSeq gS2 rfl (CU (wpAny_letGo ?_));rw[hname];refine CV ⟨plainId_quiet PySem.F.plain_min_loop _,ih (j+1) _ _ tv tn c2 (by lia) hlt (fS.turn (t':=s2.toks) I3 fun b o hb e=>by rw[s1.2 b hb];exact e) fI fS ⟨oI,(s1.2 IT hIS).trans gI2,hoc,hod⟩ hc2 hmem (fun k h=>?_) hR⟩;rw[htake] at h;rcases zZ.mp h with h|h
   ·have:=hbest k h;lia
   ·rw[zY.mp h];exact BR _
  ·simp only[De hb',Bx,if_false];refine CU (wpAny_letGo ?_);rw[hname];refine CV ⟨plainId_quiet PySem.F.plain_min_loop _,ih (j+1) s2 rb tb ti c (by lia) hlt I3 fI fS ⟨oI,gI2,hoc,hod⟩ gS2 hrb (fun k h=>?_) hR⟩;rw[htake] at h;rcases zZ.mp h with h|h
   ·exact hbest k h
   ·rw[zY.mp h];lia
end
def uo (X:Cx)(σ:St)(q:Addr):List V->List V->Hp->VK->Prop:=fun xs zs H Q=>∃(d:Addr)(kvs:List (Key×V))(ks:List Str)(key:Str->Int),xs=[.ref d]/\zs=[.ref q]/\H d=some (.dK kvs)/\kvs.map (·.1)=ks.map Sum.inr/\ks≠[] /\
 (∀o,xb X σ (upd H d (.frz o (.dK kvs))) q key ks)/\∀k,k∈ks->(∀k'∈ks,key k<=key k')->Q (.str k) H
theorem Hu:∀{kvs:List (Key×V)}{vs:List (Key×Value)},KV kvs vs->vs.map (·.1)=kvs.map (·.1)
 |_,_,.nil=>rfl
 |_,_,.cons r t=>by rw[Av,Av,Hu t,r.1]
theorem iD{P:Program}{w:World}:∀{es:List DictEntry}{vs:List (Key×Value)},Pairs (aL P w) es vs->es.length=vs.length
 |_,_,.nil=>rfl
 |_,_,.cons _ _ t=>by rw[AE,AE,iD t]
theorem lS{X:Cx}{q:Addr}{pins:List (Addr×Obj)}{s:Shared}{σ:St}{H:Hp}{xs zs:List V}{us ws:List Value}{Q:VK}(hc:X.calm=true)(I:Inv X pins σ H s)(r:Vals xs us)(rz:Vals zs ws)(h:uo X σ q xs zs H Q) :
  (wq X) (call (.builtin "min") us ((["key"]:List Str).zip ws)) (EP X pins σ Q) X.xe s:=by
 obtain⟨d,kvs,ks,key,rfl,rfl,hd,hks,hne,hK,h1⟩:=h;obtain⟨u,rfl,rx⟩:=dF r;cases rx;obtain⟨rfl⟩:ws=[.ref q]:=by
  cases rz with
  |cons a b=>cases b;cases a;rfl
 have hname:(toString "min"++toString ".loop":String)="min.loop":=by decide
 show (wq X) (call (.builtin "min") [.ref d] [("key",.ref q)]) _ _ s;obtain⟨hz,hm,vs,kv,o,es,ep,ho,hex,hdd,hko,hpr,hnd⟩:=I.hok d _ hd;have hvs:vs.map (·.1)=ks.map Sum.inr:=(Hu kv).trans hks;have hat:∀h:Heap,h.get? d=some o->Heap.DictAt (aL X.prog X.w) h d vs ep:=fun h e=>⟨o,es,e,hex,hdd,hko,hpr,hnd⟩
 have hesz:es.size=vs.length:=by rw[<- AD];exact iD hpr
 have hlen:vs.length=ks.length:=by have:=congrArg List.length hvs;rw[zV,zV] at this;exact this
 have If:=I.freeze hd ho (fun _ z=>by cases z) (fun _ _ z=>by cases z) (fun _ z=>by cases z) (fun _ z=>by cases z);have hKo:=hK o;obtain⟨Hf,eHf⟩:∃Hf,Hf=upd H d (.frz o (.dK kvs)):=⟨_,rfl⟩
 rw[<- eHf] at If hKo;have hDf:Hf d=some (.frz o (.dK kvs)):=by rw[eHf];exact ae
 have back:∀(k:Str)(t:Tok)(s':Shared),k∈ks->(∀k'∈ks,key k<=key k')->Inv X pins σ Hf s'->EP X pins σ Q (.str k t) s':=fun k t s' hk hb I'=>by
  rw[eHf] at I';exact⟨.str k,H,Inv.thaw I hd (fun _ z=>by cases z) (fun _ _ z=>by cases z) (fun _ z=>by cases z) (fun _ z=>by cases z) I',⟨t,rfl⟩,h1 k hk hb⟩
 refine kmk_tree PySem.F.kind_min PySem.F.plain_min PySem.F.entry_min (kmk_min_key _ _) ?_;show wpAny _ X.A.in1 (Builtin.Builtins.bindParams "min" ["key","default"] 0 ⟨[],[("key",.ref q)]⟩ >>= _) _ _ s;refine CU (wpAny_of_eq (show Builtin.Builtins.bindParams "min" ["key","default"] 0 ⟨[],[("key",.ref q)]⟩=pure [some (.ref q),none] from rfl) ?_);refine CU (CV ?_);refine CU (pS hm ho hex hdd ?_);refine CU (wpAny_newList ?_ (Ag _));rw[hname];have hll:d<s.heap.objs.size:=Di ho;obtain⟨oi,eoi⟩:∃oi:Obj,oi={cls:=.type "dict_keyiterator",data:=.fields #[.ref d,.int 0 0,.int es.size 0,.int ep 0]}:=⟨_,rfl⟩
 rw[<- eoi];have hS:(s.heap.push oi).objs.size=s.heap.objs.size+1:=size_push' ..;have hlI:d≠s.heap.objs.size:=Aa hll;have hIS:s.heap.objs.size≠(s.heap.push oi).objs.size:=by rw[hS];exact Aa (AI _)
 refine CV ⟨plainId_quiet PySem.F.plain_min_loop _,?_⟩;have K0:∀b o,s.heap.get? b=some o->((s.heap.push oi).push (seqObj "list" #[] 0)).get? b=some o:=fun b x e=>Dx _ (Dx _ e);have gI:((s.heap.push oi).push (seqObj "list" #[] 0)).get? s.heap.objs.size=some oi:=Dx _ (Dy _ (by rw[eoi];rfl));have gS:((s.heap.push oi).push (seqObj "list" #[] 0)).get? (s.heap.push oi).objs.size=some (seqObj "list" #[] 0):=Dy _ rfl;have fI:Em X pins Hf s.heap.objs.size:=If.Hr _ (zU _);have fS:Em X pins Hf (s.heap.push oi).objs.size:=If.Hr _ (by rw[hS];exact AH _);have I0:Inv X pins σ Hf {s with heap:=(s.heap.push oi).push (seqObj "list" #[] 0)}:=If.kept (t':=s.toks) K0;have hit0:((s.heap.push oi).push (seqObj "list" #[] 0)).IsKeyIter s.heap.objs.size d 0 vs.length ep:=⟨oi,gI,by rw[eoi],by rw[eoi,<- hesz];rfl⟩
 have hd0:=K0 _ _ ho;generalize (s.heap.push oi).objs.size=S at *;generalize (s.heap.push oi).push (seqObj "list" #[] 0)=hh at *;have W:=Walks.dictKeys (knd:=aL X.prog X.w) (prog:=X.prog) (w:=X.w) (A:=X.A.in1) (I.ok.hd hc) s.heap.objs.size d hlI vs ep;refine codeAny_builtin PySem.F.entry_min_loop ?_;rw[Around.under_plainId PySem.F.plain_min_loop _];show wpAny _ X.A.in1 (seqItems? (.ref _) >>= _) _ _ _;refine CU (wpAny_seqItems gS rfl ?_);show wpAny _ X.A.in1 (tryCatch (pyNext (.ref s.heap.objs.size)) _ >>= _) _ _ _;have hlt:0<ks.length:=Bb.mpr hne;refine CU (wpAny_tryCatch (W.item 0 _ _ _ (by rw[hlen];exact hlt) ⟨hit0,hat _ hd0⟩ fun v h' tk' hP hst' hk'=>?_));obtain⟨k0,x0,hk0,hkv⟩:=hP;have ek:k0=Sum.inr ks[0]:=by
  have:=congrArg (fun l=>l[0]?) hvs;simp only[Ao,hk0,Ac hlt] at this;exact Dj this
 subst ek;obtain⟨tv,rfl⟩:=nh hkv;have hmem:ks[0]∈ks:=Ay hlt;obtain⟨oI,hoI,hoc,hod⟩:=id hst'.1;have I1:Inv X pins σ Hf {s with heap:=h',toks:=tk'}:=fI.turn (s:={s with heap:=hh}) I0 fun b o hb e=>hk' b o (by simpa using hb) e;have hS':=hk' S _ (by simpa using Dw hIS) gS
 have IP:=I1.pinned (fp:=[s.heap.objs.size,S]) (fun b hb=>by
  rcases Ad.mp hb with rfl|hb
  ·exact fI
  ·rw[zY.mp hb];exact fS) (fun b hb=>by
  rcases Ad.mp hb with rfl|hb
  ·exact⟨oI,hoI,fun v e=>by rw[hod] at e;cases e⟩
  ·rw[zY.mp hb]; exact⟨_,hS',fun v e=>by cases e⟩)
 show wpAny _ X.A.in1 (tryCatch (holding [_] (call (.ref q) [_])) _ >>= _) _ _ _;refine CU (wpAny_tryCatch (Dg (Df (hKo _ _ _ tv IP hmem) (fun x s2 he=>?_) fun _ _ hF=>hF.elim)));obtain⟨_,_,I2,r2,rfl,rfl⟩:=he;obtain⟨tn,rfl⟩:=r2;have pin:∀b o,b∈[s.heap.objs.size,S]->h'.get? b=some o->s2.heap.get? b=some o:=fun b o hb e=>by
  have m:(b,o)∈cH [s.heap.objs.size,S] h':=AL.mpr ⟨b,hb,by rw[e];rfl⟩;exact(I2.pin (b,o) (Ab _ (Ab _ m))).1
 have gI2:=pin _ oI (.head _) hoI;have gS2:=pin S _ (.tail _ (.head _)) hS';have I3:=I2.DZ;have s1:=Heap.SameBut.update s2.heap S (Obj.mapSeq fun _=>#[.str ks[0] tv,.int (key ks[0]) tn]);obtain⟨c2,hc2⟩:∃c2,(s2.heap.update S (Obj.mapSeq fun _=>#[.str ks[0] tv,.int (key ks[0]) tn])).get? S=some (seqObj "list" #[.str ks[0] tv,.int (key ks[0]) tn] c2):=⟨_,get?_update_seq gS2 fun _=>#[.str ks[0] tv,.int (key ks[0]) tn]⟩
 show wpAny _ X.A.in1 (updateSeq S (fun _=>#[.str ks[0] tv,.int (key ks[0]) tn]) >>= _) _ _ _;refine CU ?_;refine wpAny_updateSeq gS2 rfl ?_;rw[hname]
 refine CV ⟨plainId_quiet PySem.F.plain_min_loop _,mf (pins:=pins) (σ:=σ) hvs hDf hat hKo hc hIS hlI _ 1 _ _ tv tn c2 rfl hlt (fS.turn (t':=s2.toks) I3 fun b o hb e=>by rw[s1.2 b hb]; exact e) fI fS ⟨oI,(s1.2 _ hIS).trans gI2,hoc,hod⟩ hc2 hmem (fun k h=>?_)
  fun k t s' a1 a2 a3=>back k t s' a1 a2 a3⟩
 have e:ks.take 1=[ks[0]]:=by rw[Au,Ac hlt];rfl
 rw[e] at h;rw[zY.mp h];exact BR _
def sI (lpos:Pos)(q:Str)(P:Addr)(js:List Nat)(te:TE)(tl:TE):TE:=fun σ H Q=>tl σ H fun x H1=>Ep lpos q P H1/\∃(d:Addr)(kvs:List (Key×V))(ks:List Str)(key:Str->Int),x=.ref d/\H1 d=some (.dK kvs)/\kvs.map (·.1)=ks.map Sum.inr/\ks≠[] /\
 (∀H2 o k,SmB P H1 H2->k∈ks->te ([some (.str k)]++cx js σ) (upd H2 d (.frz o (.dK kvs))) fun v H'=>v=.int (key k)/\H'=upd H2 d (.frz o (.dK kvs))) /\
 ∀k H2,k∈ks->(∀k'∈ks,key k<=key k')->SmB P H1 H2->Ep lpos q P H2->Q (.str k) H2
theorem nV{X:Cx}{l body:Expr}{tl te:TE}{params:Arguments}{scope:Scope}{lpos kpos p pos:Pos}{c P:Addr}{q y:Str}{cap:List Str}{js:List Nat}(LK:JL X.K X.mg c P)(hcode:X.env.code=.ref c)(hq:X.env.qual++"<lambda>"=q)(hd:defaultsOf params X.env=([],[]))(CS:aU X scope [y] cap js)
  (hy:scope.names.lookup y=some .local)(hco:scope.isCoroutine=false)(hge:scope.isGenerator=false)(hbind:∀cl pm cd ct u,bindArgs (W.kla_fn "<lambda>" q params body scope cl pm cd ct) ⟨[u],[]⟩=pure [(y,u)])
  (hc:X.calm=true)(hdp:X.A.depth<recursionLimit)(hb:∀f c s H,PE (oD X X.A.in1 scope q f (.ref c) ([y]++cap) s H) body te)(hg:Gl X "min")(hm:X.mg "min"=none)(hv:bootBuiltins "min"=some (.builtin "min"))(hl:PE X l tl)
  (hall:(backToKw pos (keywordEach [⟨some "key",.Lambda params body scope lpos,kpos⟩] X.env)).all (·.1.isSome)=true:=by rfl)(hks:(backToKw pos (keywordEach [⟨some "key",.Lambda params body scope lpos,kpos⟩] X.env)).filterMap (·.1)=(["key"]:List Str):=by rfl)
  (he:starEach [l] X.env=(false,eval l X.env)::starEach [] X.env:=by rfl)
  (hpl:((backTo pos (starEach [l] X.env)).any (·.1)||(backToKw pos (keywordEach [⟨some "key",.Lambda params body scope lpos,kpos⟩] X.env)).any (·.1.isNone))=false:=by rfl) :
  PE X (.Call (.Name "min" p) [l] [⟨some "key",.Lambda params body scope lpos,kpos⟩] pos) (sI lpos q P js te tl):=by
 intro pins s σ H Q I h;refine wpAny_Call_Name_kw (dv I hg hm hv ?_ (by decide) (by decide));refine bS hpl ?_
 have hA:=(DJ hl DT he:PA X [l] (fF tl Hz)) pos pins s σ H (fun vs H1=>match vs with
  |[x]=>Ep lpos q P H1/\∃(d:Addr)(kvs:List (Key×V))(ks:List Str)(key:Str->Int),x=.ref d/\H1 d=some (.dK kvs)/\kvs.map (·.1)=ks.map Sum.inr/\ks≠[] /\
    (∀H2 o k,SmB P H1 H2->k∈ks->te ([some (.str k)]++cx js σ) (upd H2 d (.frz o (.dK kvs))) fun v H'=>v=.int (key k)/\H'=upd H2 d (.frz o (.dK kvs))) /\
    ∀k H2,k∈ks->(∀k'∈ks,key k<=key k')->SmB P H1 H2->Ep lpos q P H2->Q (.str k) H2
  | _=>False) I h
 rw[he] at hA ⊢;refine evalArgs_kw hall (thn hA fun us s1 hq76=>?_);obtain⟨vs,H1,I1,r1,q1⟩:=hq76;obtain⟨x,rfl⟩:∃x,vs=[x]:=by
  match vs,q1 with
  |[x],_=>exact⟨x,rfl⟩
 obtain⟨hL,d,kvs,ks,key,rfl,hdk,hks',hne,hte,hfin⟩:=q1;have hdP:d≠P:=by
  obtain⟨ps,hP,_⟩:=hL.ex;exact dg hdk hP (fun z=>by cases z)
 have hkw:=(jL (nm:=some "key") (kpos:=kpos) (tE (body:=body) (pos:=lpos) LK hcode hq hd CS) Il) pos pins s1 σ H1 (fun zs H2=>∃a,zs=[.ref a]/\uo X σ a [.ref d] zs H2 Q) I1 (by
  refine⟨hL,fun a c' pm ct H' hn ha hcd hT hS=>⟨a,rfl,d,kvs,ks,key,rfl,rfl,hS d _ hdP hdk,hks',hne,fun o pins s k t I hk=>?_,fun k hk hmin=>hfin k H' hk hmin hS hT⟩⟩;have na:a≠d:=dg ha (hS d _ hdP hdk) (fun z=>by cases z);have nc:c'≠d:=dg hcd (hS d _ hdP hdk) (fun z=>by cases z)
  exact pF (A:=X.A.in1) (x:=.str k) I.ok.frames hdp I CS hy hco hge (by rw[ar na]; exact ha) (by rw[ar nc]; exact hcd) (hbind _ _ _ _ _) (hb _ _ _ _) ⟨t,rfl⟩ (hte H' o k hS hk))
 refine thn hkw fun ws s2 hq77=>?_;obtain⟨zs,H2,I2,rz,q2⟩:=hq77;obtain⟨a,_,q2⟩:=q2;rw[hks];exact lS hc I2 r1 rz q2
theorem Fun.okC{P:Program}{w:World}{K:W.Frag}{mg:Str->Option Value}{base:Heap}{x qual:Str}{st:Stmt}{f:Addr}{fd:FuncData}{N ps:List Str}{k:Nat}{sp:Sp}{c:Addr}(F:Fun K x qual st f fd)(hcode:fd.code=.ref c)(S:DK N ps (aq st))(len:∀vs H Q E,sp vs H Q E->vs.length=ps.length)
  (hbody:∀(A:Around) (outer:List Env) (s:Shared) (H:Hp) (vs:List V) (Q:VK) (E:XK),EG k (A.deeper (envOfC qual (aq st) s.heap.objs.size f (.ref c)))->sp vs H Q E ->
   ∃t,PSs (bJ CX0 P w K mg base N qual (aq st) f (.ref c) A outer s H E).nox (bA st) t/\t { nx:=fun _ H'=>Q .non H',rt:=Q } (start N vs) H):DQ P w K mg base CX0 (k+1) f fd ps sp:=by
 obtain⟨oc,od,kV,doc,pm,an,cdv,ct,osl,rfl,lk,hcd⟩:=F.ex;have e:cdv=.ref c:=hcode;subst e;refine tW lk hcd S len fun A outer s H vs Q E hr hsp=>?_;obtain⟨t,h,q⟩:=hbody A outer s H vs Q E hr hsp;exact⟨t,h.nox,q⟩
end L2
namespace L2
open PySem PySem.Spec PyProof.Rows
def vp (T:Addr)(H:Hp):Prop:=∀b,b≠T->H b=none\/∃o xs,H b=some (.frz o (.lst xs))
theorem mz{P:Program}{T c0:Addr}{ps:Array Value}{w:World}{K:W.Frag}{mg mb:Str->Option Value}{CX:CXT}{k:Nat}{fa a:Addr}{fd:FuncData}{x:Str}{sp:Sp}{s₁:Shared}{vs:List Value}{ns:List Int}
  (gT:s₁.heap.get? T=some (W.tabObj ps))(kT:K.lookup T=none)(cT:W.CodeHd s₁.heap c0 T)
  (KX:K.In s₁.heap)(hns:s₁.heap.Ns mainGlobals mg)(hb:s₁.heap.Ns builtinsNs mb)(hbb:∀x:Str,x≠"__name__"->mb x=bootBuiltins x)(hlim:s₁.heap.NoLimit)(hg:s₁.gens=#[])
  (ha:s₁.heap.get? a=some {cls:=.type "list",data:=.seq vs.toArray})(hi:IntsAre vs ns)(hl:ns.length<=sizeLine)(hr:EG k callerA)
  (F:∀base:Heap,K.In base->base.Ns mainGlobals mg->DQ P w K mg base CX k fa fd [x] sp)(hbind:∀(s:Shared)(u:Value),BindsTo s fd ⟨[u],[]⟩ [(x,u)])
  (hsp:∀H:Hp,H T=some (.tbl ps)->vp T H->SqL K H a (ns.map V.int)->sp [.ref a] H (fun v _=>v=.bl true) fun _ _ _=>False)
  (hCX:∀H e s',CX [] H s₁ (fun _ _ _=>False) e s'->False) :
  codeAny (model P w) callerA (.call (.ref fa) ⟨[.ref a],[]⟩) (fun r s'=>r=.ok (.ret (.bool true))/\OldK s₁.heap s'.heap/\s'.os=s₁.os/\AllBare s'.gens) s₁:=by
 have rv:=FC hi;have lenV:=hi.length;have aT:a≠T:=fun z=>by rw[z,gT] at ha;cases ha
 have core:∀H:Hp,H T=some (.tbl ps)->vp T H->SqL K H a (ns.map V.int)->HOk P w H s₁.heap->(∀b,H b≠none->b=a\/b=T)->(H a≠none->K.lookup a=none) ->
   codeAny (model P w) callerA (.call (.ref fa) ⟨[.ref a],[]⟩) (fun r s'=>r=.ok (.ret (.bool true))/\OldK s₁.heap s'.heap/\s'.os=s₁.os/\AllBare s'.gens) s₁:=by
  intro H hT hO hS hok hA hK;have base_of:∀{b:Addr}{o:Obj},s₁.heap.get? b=some o->H b=none->(ou s₁.heap H).get? b=some o:=fun e n=>oE e n;have noA:∀{b:Addr}{o:Obj}{es:Array DictEntry}{ep:Nat},s₁.heap.get? b=some o->o.data=.dict es ep->H b=none:=fun {b o es ep} e d=>by
   cases q:H b with
   |none=>rfl
   |some u=>
    rcases hA b (by rw[q];simp) with e'|e'
    ·subst e';rw[ha] at e;cases e;have d':Data.seq vs.toArray _=Data.dict es ep:=d;cases d'
    ·subst e';rw[gT] at e;cases e;have d':Data.fields ps=Data.dict es ep:=d;cases d'
  have nsK:∀{b:Addr}{m:Str->Option Value},s₁.heap.Ns b m->(ou s₁.heap H).Ns b m:=fun {b m} ⟨o,es,ep,e,d,r⟩=>⟨o,es,ep,base_of e (noA e d),d,r⟩
  have hKb:K.In (ou s₁.heap H):=fun b o e=>base_of (KX b o e) (by
   cases q:H b with
   |none=>rfl
   |some u=>
    rcases hA b (by rw[q];simp) with e'|e'
    ·subst e';rw[hK (by rw[q];simp)] at e;cases e
    ·subst e'
     rw[kT] at e; cases e)
  have hM:Mod K mg (ou s₁.heap H):=⟨hKb,nsK hns,⟨mb,nsK hb,hbb⟩,let ⟨mc,h1,h2⟩:=hlim;⟨mc,nsK h1,h2⟩⟩
  have e0:IS P w K mg (ou s₁.heap H) callerA [] s₁ H:=⟨rfl,hM,fun b o e=>rj e,BV (mx _ _),trivial,fun b hb=>absurd (show b∈([]:List Addr) from hb) (by simp),hok,.of_eq hg⟩
  refine codeAny_mono ((F _ hKb (nsK hns)).run callerA [] s₁ H ⟨[.ref a],[]⟩ [.ref a] [.ref a] _ _ hr e0 (hbind s₁ (.ref a)) (.cons rfl .nil) (hsp H hT hO hS)) fun r s' h=>?_;cases r with
  |error e=>exact(hCX H e s' h).elim
  |ok fl=>
   cases fl with
   |next=>exact False.elim h
   |brk=>exact False.elim h
   |cont=>exact False.elim h
   |ret u=>
    obtain⟨v,H',os,bare,un,hok',r',q⟩:=h;have q':v=.bl true:=q;subst q';obtain rfl:u=Value.bool true:=r';have key:∀b o,s₁.heap.get? b=some o->b≠T->s'.heap.get? b=some o:=fun b o e nT=>by
     cases q:H b with
     |none=>exact un.keep b o e q (by intro z;exact absurd (show b∈([]:List Addr) from z) (by simp)) (by simp)
     |some u=>
      rcases hO b nT with z|⟨ob,xs,z⟩
      ·rw[q] at z;cases z
      ·have z2:=un.GG b ob _ z;obtain⟨e1,_⟩:=hok b _ z;obtain⟨e2,_⟩:=hok' b _ z2;rw[e] at e1;cases e1;exact e2
    obtain⟨more,zT⟩:=un.GH T ps hT;have gT':s'.heap.get? T=some {cls:=.none,data:=.fields (ps++more)}:=hok' T _ zT;obtain⟨oc,vc,_,_,_,_,_,_,_,c1,c2,c3,c4,_⟩:=cT;refine⟨rfl,⟨fun b o e=>?_,fun b o e=>?_⟩,os,bare⟩
    ·by_cases nT:b=T
     ·subst nT;rw[gT] at e;cases e;exact .inr (.inl ⟨⟨c0,oc,vc,c1,c2,c3,c4⟩,rfl,ps,more,rfl,gT'⟩)
     ·exact .inl (key b o e nT)
    ·by_cases nT:b=T
     ·subst nT;exact⟨_,gT'⟩
     ·exact⟨o,key b o e nT⟩
 cases hk:K.lookup a with
 |some o=>
  have e:=KX a o hk;rw[ha] at e;cases e;refine core (fun b=>if b=T then some (.tbl ps) else none) (Dc rfl) (fun b nb=>.inl (CZ nb)) (.inr ⟨_,vs.toArray,_,hk,rfl,rfl,rfl,by rw[Aj,lenV];exact hl,by simpa using rv⟩) (fun b u z=>?_) (fun b z=>?_) fun z=>absurd (CZ aT) z
  ·by_cases hb:b=T
   ·have z':=(Dc hb).symm.trans z;cases z';subst hb;exact gT
   ·have z':=(CZ hb).symm.trans z;cases z'
  ·by_cases hb:b=T
   ·exact .inr hb
   ·exact absurd (CZ hb) z
 |none=>
  refine core (fun b=>if b=T then some (.tbl ps) else if b=a then some (.frz {cls:=.type "list",data:=.seq vs.toArray} (.lst (ns.map V.int))) else none) (Dc rfl) (fun b nb=>?_) (.inl (.inr ⟨{cls:=.type "list",data:=.seq vs.toArray},(CZ aT).trans (Dc rfl)⟩)) (fun b u z=>?_) (fun b z=>?_) fun _=>hk
  ·by_cases hb:b=a
   ·exact .inr ⟨_,_,(CZ nb).trans (Dc hb)⟩
   ·exact .inl ((CZ nb).trans (CZ hb))
  ·by_cases hT:b=T
   ·have z':=(Dc hT).symm.trans z;cases z';subst hT;exact gT
   ·by_cases hb:b=a
    ·have z':=((CZ hT).trans (Dc hb)).symm.trans z;cases z';subst hb;exact⟨ha,by rw[zV];exact hl,vs,_,rv,ha⟩
    ·have z':=((CZ hT).trans (CZ hb)).symm.trans z;cases z'
  ·by_cases hT:b=T
   ·exact .inr hT
   ·by_cases hb:b=a
    ·exact .inl hb
    ·exact absurd ((CZ hT).trans (CZ hb)) z
theorem HE{l:W.OpenLaw}{n k:Nat}{q:Program}{loose:List Str}{XP:(Str->Option Value)->Heap->Prop}{YP:World->Heap->Prop}{d:DefRec}{K KF:Params->W.Frag}{CX:World->CXT}{sp:World->Sp}{x:Str}{T c0:Addr}{ps:Array Value}
  (hn:l.most=some n)(hn2:n<=sizeLine)(hdf:d.params.defaults=[])(hr:EG k callerA)
  (hY:∀(w:World)(h:Heap),YP w h->(KF w.params).In h)(hKF:∀(p:Params)(h:Heap),(KF p).In h->(K p).In h/\h.get? T=some (W.tabObj ps)/\W.CodeHd h c0 T)(kT:∀p:Params,(K p).lookup T=none)
  (F:∀(w:World) (mg:Str->Option Value) (fa:Addr) (h:Heap),(K w.params).In h->h.Ns mainGlobals mg->mg d.name=some (.ref fa) ->
   ∃fd:FuncData,(∀(s:Shared)(u:Value),BindsTo s fd ⟨[u],[]⟩ [(x,u)]) /\
    ∀base:Heap,(K w.params).In base->base.Ns mainGlobals mg->DQ l.prog w (K w.params) mg base (CX w) k fa fd [x] (sp w))
  (hsp:∀(w:World)(H:Hp)(a:Addr)(ns:List Int),ns.length<=n->H T=some (.tbl ps)->SqL (K w.params) H a (ns.map V.int)->sp w [.ref a] H (fun v _=>v=.bl true) fun _ _ _=>False)
  (hCX:∀(w:World)(H:Hp)(s:Shared)(e:Value)(s':Shared),CX w [] H s (fun _ _ _=>False) e s'->False) :
  W.WalkO q loose XP YP l.row.toRowW d [] (fun f vs=>PySem.call f vs):=by
 refine Att.FU hn hdf fun w s₀ s₁ mg mb fa o pm cd doc a vs ns G Y ho hd hcd hmg hobj hints hlen hg=>?_;obtain⟨KX,gT,cT⟩:=hKF _ _ (hY w _ Y);obtain⟨fd,hb,hF⟩:=F w mg fa _ KX G.T.g hmg;exact mz gT (kT _) cT KX G.T.g G.T.b G.T.builtins G.T.nolimit hg hobj hints (Ak hlen hn2) hr hF hb (fun H hT hO hS=>hsp w H a ns hlen hT hS) fun H e s'=>hCX w H s₁ e s'
section
variable {X:Cx}{scope:Scope}{ts cap:List Str}{js:List Nat}{tg0 tg1 elt iter0 iter1:Expr}{ifs0 ifs1:List Expr}{pos:Pos}
theorem pR{wi:TI}{g:TG}{tc:TT}{wi1:TI}{g1:TG}{tc1:TT}{te:TE}{i:Nat}{y:Str}{py spos:Pos}(hc:X.calm=true)(CS:aU X scope ts cap js)(hi:PI X tg0 iter0 wi)(hg:∀C fp s H,PG (aF X scope C fp (ts++cap) s H) tg0 g)
  (ht:∀C fp s H,PTs (aF X scope C fp (ts++cap) s H) ifs0 tc)(hi1:∀C fp s H,PI (aF X scope C fp (ts++cap) s H) tg1 iter1 wi1)
  (hg1:∀C fp s H,PG (aF X scope C fp (ts++cap) s H) tg1 g1)(ht1:∀C fp s H,PTs (aF X scope C fp (ts++cap) s H) ifs1 tc1)(he:∀C fp s H,PE (aF X scope C fp (ts++cap) s H) elt te)
  (hN:X.N.Nodup)(hy:X.N[i]?=some y)(hx:Loc X.env.scope y)(hsw:swapsWith (.ListComp elt [⟨tg0,iter0,ifs0,0⟩,⟨tg1,iter1,ifs1,0⟩] scope pos) (some (.Name y py)) spos.line X.env=pure true)
  (hs1:∀C x,foldedSetIterable iter1 (compEnvC scope (cC X.env.cells scope.names []) C X.env) x=pure x:=by intro _ _;rfl)
  (hs:∀x,foldedSetIterable iter0 X.env x=pure x:=by intro _;rfl)(hf:X.fn y=true\/X.env.scope.names.lookup y=some .local:=by first|exact .inl rfl|exact .inr rfl|assumption) :
  PS X (.Assign [.Name y py] (.ListComp elt [⟨tg0,iter0,ifs0,0⟩,⟨tg1,iter1,ifs1,0⟩] scope pos) spos) (uJ (uK wi ts.length js g tc wi1 g1 tc1 te) i):=by
 intro pins s σ H D I h;rw[exec_Assign_Name_used _ _ _ _ hsw];refine CU (wpAny_standAt (CU ?_));show wpAny _ X.A (do let _ <- comprehension (.ListComp elt [⟨tg0,iter0,ifs0,0⟩,⟨tg1,iter1,ifs1,0⟩] scope pos) scope X.env _ (newList []) false (eval iter0 X.env) (some (assign (.Name y py) X.env))) _ _ s
 refine CU (Df (wpAny_comprehension_free (use:=some (assign (.Name y py) X.env)) (Q:=fun _ s'=>SP X pins D .next s') rfl hs (bM (CS.cells I.ok)) CS.kind CS.names
  (thn (hi pins s σ H _ I h) fun v s1 h1=>thn h1 fun itv s2 h2=>?_)) (fun _ s' hq=>CV (CV hq)) fun _ _ e=>e)
 obtain⟨it,fp,tn,J,H2,e,I2,T,st2,f2,W,⟨m0,w0⟩,turn⟩:=h2;subst e;refine jf (RR:=fun acc C=>compPost (model X.prog X.w) X.A X.xe (some (assign (.Name y py) X.env)) (fun _ s'=>SP X pins D .next s') acc C) hc I2 T st2 f2 CS hg ht hi1 hg1 ht1 he hs1 w0 turn ?_;intro D' C s' H' ys m I' hn hC hD hCD hHC hHD fin;have szL:=I2.lt;have low:∀b o,s2.heap.get? b=some o->b≠C:=fun b o e=>Aa (Ah (Di e) hC);have hCL:X.env.locals≠C:=Aa (Ah szL hC);have hcell:∀x c,X.env.cells.lookup x=some c->c≠C:=fun x c e=>by
  obtain⟨v,o,ho,_⟩:=I2.cell x c e;exact low c o ho
 show wpAny _ X.A (assign (.Name y py) X.env (.ref D')) _ _ _;refine wpAny_assign_Name (fq (v:=.ref D') I' hN hy hx rfl (fun s'' I'' hch=>?_) hf);obtain⟨a,hsb,ha⟩:=hch;have hCa:C≠a:=by
  rcases ha with z|z
  ·rw[z];exact Dw hCL
  ·exact Dw (hcell _ _ z)
 refine⟨m,hn.sameBut hsb hCa,fun h' hs'=>⟨_,_,fJ (n0:=0) I'' (Heap.get?_none_of_le (Ak I2.sz hC)) hCL hcell (fun p hp=>low _ _ (I2.pin p hp).1) (by rw[ar hCD];exact hHC) hs',fin D' hHD⟩⟩
end
def tMid (t:TS):TS:=fun D σ H=>∃M:St->Hp->Prop,t {D with nx:=M} σ H/\∀σ' H',M σ' H'->D.nx σ' H'
theorem kr{X:Cx}{st:Stmt}{t:TS}(h:PS X st t):PS X st (tMid t):=by
 intro pins s σ H D I hw;obtain⟨M,h1,h2⟩:=hw;refine Df (h pins s σ H {D with nx:=M} I h1) (fun fl s' hs=>?_) fun _ _ e=>e;cases fl with
 |next=>
  obtain⟨σ',H',J,q⟩:=hs;exact⟨σ',H',J,h2 σ' H' q⟩
 |ret u=>exact hs
 |brk=>exact hs
 |cont=>exact hs
def vS (t:TE):TE:=fun σ H Q=>∃M:VK,t σ H M/\∀v H',M v H'->Q v H'
theorem iB{X:Cx}{e:Expr}{t:TE}(h:PE X e t):PE X e (vS t):=by
 intro pins s σ H Q I hw;obtain⟨M,h1,h2⟩:=hw;refine Df (h pins s σ H M I h1) (fun v s' hq78=>?_) fun _ _ e=>e;obtain⟨x,H',J,r,q⟩:=hq78;exact⟨x,H',J,r,h2 x H' q⟩
end L2
namespace SH
open PySem PyProof.Rows
def LtK (prog:Program)(w:World)(κ:KeyKind)(kd:SortKind)(s:Shared):Prop:=∀(A:Around)(E:Value->Shared->Prop)(x y:Value)(a b:κ.α)(Q:Bool->Shared->Prop),κ.keyOf x=some a->κ.keyOf y=some b->Q (κ.blt a b) s->wpAny (model prog w) A (keyLt' kd x y) Q E s
structure SB(κ:KeyKind)(kd:SortKind)(a₀:Array Keyed)(st:SortSt):Prop where
 perm:(arrOf st).Perm a₀
 kind:kindOf st=kd
 failed:failedOf st=none
section
variable {κ:KeyKind}{kd:SortKind}{a₀:Array Keyed}{st:SortSt}
theorem SB.size(h:SB κ kd a₀ st):(arrOf st).size=a₀.size:=h.perm.size_eq
theorem SB.at(h:SB κ kd a₀ st)(h0:KeysOf κ a₀){i:Nat}(hi:i<a₀.size):∃p,(arrOf st)[i]?=some p/\∃a,κ.keyOf p.1=some a:=by
 have hi':i<(arrOf st).size:=by rw[h.size];exact hi
 exact⟨(arrOf st)[i],Bq hi',h0 _ ((BI.mp h.perm).mem_iff.mp (by simp))⟩
end
theorem iF{prog:Program}{w:World}{A:Around}{E:Value->Shared->Prop}{s:Shared}{st:SortSt}{arr:Array Keyed}{i:Nat}{p:Keyed}{Q:Keyed->SortSt->Prop}(e:arr[i]?=some p)(h:Q p st):wpS (model prog w) A E s (elem' arr i) Q st:=by
 rw[elem'_eq,e];exact CY h
theorem bP{prog:Program}{w:World}{A:Around}{E:Value->Shared->Prop}{s:Shared}{st:SortSt}{α:Type}{c:Prop} [Decidable c]{m n:StateT SortSt Sem α}{Q:α->SortSt->Prop}(h1:c->wpS (model prog w) A E s m Q st)(h2:¬c->wpS (model prog w) A E s n Q st):wpS (model prog w) A E s (if c then m else n) Q st:=by
 by_cases h:c
 ·rw[Dc h];exact h1 h
 ·rw[CZ h];exact h2 h
structure Frm(κ:KeyKind)(kd:SortKind)(a₀:Array Keyed)(st0:SortSt)(lo hi:Nat)(st:SortSt):Prop where
 sb:SB κ kd a₀ st
 pend:pendingOf st=pendingOf st0
 out:∀k,k<lo\/hi<=k->(arrOf st)[k]?=(arrOf st0)[k]?
section
variable {κ:KeyKind}{kd:SortKind}{a₀:Array Keyed}{st0 st:SortSt}{lo hi:Nat}
theorem Frm.refl(h:SB κ kd a₀ st):Frm κ kd a₀ st lo hi st:=⟨h,rfl,fun _ _=>rfl⟩
theorem Frm.put(h:Frm κ kd a₀ st0 lo hi st){xs:Array Keyed}(p:xs.Perm (arrOf st))(o:∀k,k<lo\/hi<=k->xs[k]?=(arrOf st)[k]?):Frm κ kd a₀ st0 lo hi (setArr st xs):=⟨⟨p.trans h.sb.perm,h.sb.kind,h.sb.failed⟩,h.pend,fun k hk=>(o k hk).trans (h.out k hk)⟩
theorem Frm.mirror(h:Frm κ kd a₀ st0 lo hi st){i j:Nat}(h1:lo<=i)(h2:j<=hi)(h3:hi<=a₀.size):Frm κ kd a₀ st0 lo hi (setArr st (mirror (arrOf st) i j ((j-i)/2))):=h.put (mirror_perm _ _ _ _) fun k hk=>by
 rw[getElem?_mirror_all (by rw[h.sb.size];lia),CZ (by lia)]
theorem Frm.bubble(h:Frm κ kd a₀ st0 lo hi st){src d:Nat}(h1:lo<=src-d)(h2:src<hi)(h3:hi<=a₀.size)(h4:d<=src):Frm κ kd a₀ st0 lo hi (setArr st (bubble (arrOf st) src d)):=h.put (bubble_perm _ _ _) fun k hk=>by
 rw[getElem?_bubble (by rw[h.sb.size];lia) d h4,CZ (by lia),CZ (by lia)]
end
def Up (κ:KeyKind)(xs:Array Keyed)(lo n:Nat):Prop:=∀i j,i<=j->j<n->κ.kle (KK κ xs (lo+i)) (KK κ xs (lo+j))
def Dn (κ:KeyKind)(xs:Array Keyed)(lo n:Nat):Prop:=∀i j,i<=j->j<n->κ.kle (KK κ xs (lo+j)) (KK κ xs (lo+i))
theorem Up.more{κ:KeyKind}{xs:Array Keyed}{lo n:Nat}(h:Up κ xs lo n)(h1:1<=n)(hl:κ.kle (KK κ xs (lo+n-1)) (KK κ xs (lo+n))):Up κ xs lo (n+1):=fun i j hij hj=>by
 by_cases c:j<n
 ·exact h i j hij c
 ·have e:j=n:=by lia
  subst e;by_cases d:i=j
  ·subst d;exact Dp _
  ·refine KeyOrd.kle_trans (h i (j-1) (by lia) (by lia)) ?_;rw[show lo+(j-1)=lo+j-1 by lia];exact hl
theorem Dn.more{κ:KeyKind}{xs:Array Keyed}{lo n:Nat}(h:Dn κ xs lo n)(h1:1<=n)(hl:κ.kle (KK κ xs (lo+n)) (KK κ xs (lo+n-1))):Dn κ xs lo (n+1):=fun i j hij hj=>by
 by_cases c:j<n
 ·exact h i j hij c
 ·have e:j=n:=by lia
  subst e;by_cases d:i=j
  ·subst d;exact Dp _
  ·refine KeyOrd.kle_trans ?_ (h i (j-1) (by lia) (by lia));rw[show lo+(j-1)=lo+j-1 by lia];exact hl
section
variable {prog:Program}{w:World}{A:Around}{E:Value->Shared->Prop}{s:Shared}{κ:KeyKind}{kd:SortKind}{st:SortSt}{a₀:Array Keyed}
theorem eF{i j:Nat}{Q:Option Bool->SortSt->Prop}(hO:LtK prog w κ kd s)(hB:SB κ kd a₀ st)(h0:KeysOf κ a₀)(hi:i<a₀.size)(hj:j<a₀.size)(h:Q (some (κ.blt (KK κ (arrOf st) i) (KK κ (arrOf st) j))) st):wpS (model prog w) A E s (ltAt' i j) Q st:=by
 obtain⟨⟨x,p⟩,e1,a,ha⟩:=hB.at h0 hi;obtain⟨⟨y,q⟩,e2,b,hb⟩:=hB.at h0 hj;have ka:KK κ (arrOf st) i=a:=by unfold KK;rw[e1];simp[ha]
 have kb:KK κ (arrOf st) j=b:=by unfold KK;rw[e2];simp[hb]
 rw[ka,kb] at h;rw[ltAt'_eq];refine CW (wpS_get ?_);refine CW (iF e1 (CW (iF e2 ?_)));rw[lt'_eq];refine CW (wpS_get ?_);rw[hB.kind];exact CW (wpS_lift (DC (hO A _ x y a b _ ha hb ⟨rfl,CY h⟩)))
theorem gn{i j:Nat}{Q:Unit->SortSt->Prop}(h:∀st',st'=setArr st (mirror (arrOf st) i j ((j-i)/2))->Q () st'):wpS (model prog w) A E s (reverseSlice' i j) Q st:=by
 rw[reverseSlice'_eq];exact wpS_modify (h _ rfl)
def Jl:Nat->Nat->StateT SortSt Sem (Option Nat):=sortPriv% PySem.Builtin.countRun
def IB:Nat->Nat->Nat->StateT SortSt Sem Bool:=sortPriv% PySem.Builtin.binarySort
theorem kU{lo nrem:Nat}{Q:Option Nat->SortSt->Prop}(hO:LtK prog w κ kd s)(h0:KeysOf κ a₀)(hn:lo+nrem<=a₀.size)(h1:1<=nrem)(hB:SB κ kd a₀ st)
  (h:∀m st',Frm κ kd a₀ st lo (lo+nrem) st'->1<=m->m<=nrem->Up κ (arrOf st') lo m->Q (some m) st'):wpS (model prog w) A E s (Jl lo nrem) Q st:=by
 have fin:∀st1,Frm κ kd a₀ st lo (lo+nrem) st1->∀n,1<=n->n<=nrem->Dn κ (arrOf st1) lo n->Up κ (arrOf (setArr st1 (mirror (arrOf st1) lo (lo+n) ((lo+n-lo)/2)))) lo n:=fun st1 F n n1 n2 hd i j hij hj=>by
  have hz:lo+n<=(arrOf st1).size:=by rw[F.sb.size];lia
  show κ.kle (KK κ (mirror (arrOf st1) lo (lo+n) ((lo+n-lo)/2)) (lo+i)) (KK κ (mirror (arrOf st1) lo (lo+n) ((lo+n-lo)/2)) (lo+j));rw[KK_mirror hz,KK_mirror hz,Dc (by lia),Dc (by lia)];have:=hd (n-1-j) (n-1-i) (by lia) (by lia);rw[show lo+(n-1-j)=lo+(lo+n)-1-(lo+j) by lia,show lo+(n-1-i)=lo+(lo+n)-1-(lo+i) by lia] at this;exact this
 have init:Up κ (arrOf st) lo 1:=fun i j hij hj=>by
  have:i=j:=by lia
  subst this;exact Dp _
 refine CW (wpS_mono (wpS_forRange (I:=fun x c st'=>st'=st/\c=(none,x)/\Up κ (arrOf st) lo x) (Q:=fun c st'=>st'=st/\∃n,c=(none,n)/\1<=n/\n<=nrem/\Up κ (arrOf st) lo n/\(n=nrem\/κ.klt (KK κ (arrOf st) (lo+n)) (KK κ (arrOf st) (lo+n-1)))) ?step ?fin ⟨rfl,rfl,init⟩) ?post)
 case fin=>
  rintro c st' ⟨rfl,rfl,u⟩;rw[show max 1 nrem=nrem by lia] at u ⊢;exact⟨rfl,nrem,rfl,h1,zU _,u,.inl rfl⟩
 case step=>
  rintro x c st' hx1 hx2 ⟨rfl,rfl,u⟩;refine CW (eF (i:=lo+x) (j:=lo+x-1) hO hB h0 (by lia) (by lia) ?_);cases hl:κ.blt (KK κ (arrOf st') (lo+x)) (KK κ (arrOf st') (lo+x-1)) with
  |true=>
   exact CY ⟨rfl,x,rfl,hx1,by lia,u,.inr hl⟩
  |false=>
   exact CY ⟨rfl,rfl,u.more hx1 hl⟩
 case post=>
  rintro c st' ⟨rfl,n,rfl,n1,n2,u,hor⟩;refine bP (fun e=>CY (h n st' (.refl hB) n1 n2 u)) fun e=>?_;have hne:n≠nrem:=fun z=>e (by show((n:Nat)==nrem)=true;rw[z];exact beq_self_eq_true _);have hlt:κ.klt (KK κ (arrOf st') (lo+n)) (KK κ (arrOf st') (lo+n-1)):=hor.resolve_left hne;apply bP
  case' h1=>
   intro hgt;have hgt':n>1:=hgt;refine CW (eF (i:=lo) (j:=lo+n-1) hO hB h0 (by lia) (by lia) ?_);cases hrose:κ.blt (KK κ (arrOf st') lo) (KK κ (arrOf st') (lo+n-1))
   case true=>exact CY (h n st' (.refl hB) n1 n2 u)
   have hall:∀k,lo<=k->k<lo+n->KK κ (arrOf st') k=KK κ (arrOf st') (lo+n-1):=fun k k1 k2=>by
    have a1:=u 0 (k-lo) (by lia) (by lia);have a2:=u (k-lo) (n-1) (by lia) (by lia);rw[show lo+(k-lo)=k by lia] at a1 a2;rw[show lo+(n-1)=lo+n-1 by lia] at a2;exact KeyOrd.kle_antisymm a2 (KeyOrd.kle_trans hrose a1)
   refine CW (gn (i:=lo) (j:=lo+n) fun st1 hst=>?_);have hz:lo+n<=(arrOf st').size:=by rw[hB.size];lia
   have F1:Frm κ kd a₀ st' lo (lo+nrem) st1:=by rw[hst];exact(Frm.refl hB).mirror (zU _) (by lia) hn
   have D1:Dn κ (arrOf st1) lo (n+1):=by
    rw[hst];have e0:∀k,KK κ (arrOf (setArr st' (mirror (arrOf st') lo (lo+n) ((lo+n-lo)/2)))) k=KK κ (arrOf st') k:=KK_mirror_equal hz hall;have d0:Dn κ (arrOf (setArr st' (mirror (arrOf st') lo (lo+n) ((lo+n-lo)/2)))) lo n:=fun i j hij hj=>by
     rw[e0,e0,hall (lo+i) (by lia) (by lia),hall (lo+j) (by lia) (by lia)];exact Dp _
    refine d0.more n1 ?_;rw[e0,e0];exact Dq hlt
  case' h2=>
   intro hgt;have hn1:n=1:=by
    have:¬n>1:=hgt;lia
   obtain⟨st1,e1⟩:∃st1,st1=st':=⟨_,rfl⟩
   have F1:Frm κ kd a₀ st' lo (lo+nrem) st1:=by rw[e1];exact .refl hB
   have D1:Dn κ (arrOf st1) lo (n+1):=by
    rw[e1];have d0:Dn κ (arrOf st') lo n:=fun i j hij hj=>by
     have:i=j:=by lia
     subst this;exact Dp _
    exact d0.more n1 (Dq hlt)
   rw[<- e1]
  all_goals (
   clear hlt hor u;refine CW (wpS_lift (DH ⟨rfl,?_⟩))
   refine CW (wpS_mono (wpS_forRange (I:=fun x c st2=>∃neq,c=(none,x,neq)/\Frm κ kd a₀ st' lo (lo+nrem) st2/\Dn κ (arrOf st2) lo x/\neq+1<=x/\∀k,lo+x - (neq+1)<=k->k < lo+x->KK κ (arrOf st2) k=KK κ (arrOf st2) (lo+x - 1))
    (Q:=fun c st2=>∃m neq,c=(none,m,neq)/\Frm κ kd a₀ st' lo (lo+nrem) st2/\n+1<=m/\m<=nrem/\Dn κ (arrOf st2) lo m/\neq+1<=m/\∀k,lo+m - (neq+1)<=k->k < lo+m->KK κ (arrOf st2) k=KK κ (arrOf st2) (lo+m - 1)) (fun x c st2 hx1 hx2 z=>?_) (fun c st2 z=>?_) ⟨0,rfl,F1,D1,by lia,fun k k1 k2=>by congr 1; lia⟩) fun c st2 z=>?_)
   ·obtain⟨neq,rfl,F2,D2,q1,q2⟩:=z;have hz:lo+x<=(arrOf st2).size:=by rw[F2.sb.size];lia
    refine CW (eF (i:=lo+x) (j:=lo+x-1) hO F2.sb h0 (by lia) (by lia) ?_);cases hl:κ.blt (KK κ (arrOf st2) (lo+x)) (KK κ (arrOf st2) (lo+x-1)) with
    |true=>
     refine bP (fun _=>bP (fun hq=>?_) fun hq=>?_) fun z=>absurd rfl z
     ·refine CW (gn (i:=lo+x-(neq+1)) (j:=lo+x) fun st3 hst=>CY ?_);have e0:∀k,KK κ (arrOf st3) k=KK κ (arrOf st2) k:=by rw[hst];exact KK_mirror_equal hz q2
      have d0:Dn κ (arrOf st3) lo x:=fun i j hij hj=>by rw[e0,e0];exact D2 i j hij hj
      exact⟨0,rfl,by rw[hst];exact F2.mirror (by lia) (by lia) hn,d0.more (by lia) (by rw[e0,e0];exact Dq hl),by lia,fun k k1 k2=>by congr 1;lia⟩
     ·exact CY ⟨0,rfl,F2,D2.more (by lia) (Dq hl),by lia,fun k k1 k2=>by congr 1;lia⟩
    |false=>
     refine CW (eF (i:=lo+x-1) (j:=lo+x) hO F2.sb h0 (by lia) (by lia) ?_);cases hg:κ.blt (KK κ (arrOf st2) (lo+x-1)) (KK κ (arrOf st2) (lo+x)) with
     |true=>exact CY ⟨x,neq,rfl,F2,hx1,by lia,D2,q1,q2⟩
     |false=>
      have heq:KK κ (arrOf st2) (lo+x)=KK κ (arrOf st2) (lo+x-1):=KeyOrd.kle_antisymm hg hl;refine CY ⟨neq+1,rfl,F2,D2.more (by lia) (by rw[heq];exact Dp _),by lia,fun k k1 k2=>?_⟩;rw[show lo+(x+1)-1=lo+x by lia];by_cases c:k=lo+x
      ·rw[c]
      ·rw[heq];exact q2 k (by lia) (by lia)
   ·obtain⟨neq,rfl,F2,D2,q1,q2⟩:=z;rw[show max (n+1) nrem=nrem by lia] at D2 q1 q2 ⊢;exact⟨nrem,neq,rfl,F2,by lia,zU _,D2,q1,q2⟩
   ·obtain⟨m,neq,rfl,F2,m1,m2,D2,q1,q2⟩:=z;have hz:lo+m<=(arrOf st2).size:=by rw[F2.sb.size];lia
    apply bP
    case' h1=>
     intro hq;refine CW (gn (i:=lo+m-(neq+1)) (j:=lo+m) fun st3 hst=>?_);have e0:∀k,KK κ (arrOf st3) k=KK κ (arrOf st2) k:=by rw[hst];exact KK_mirror_equal hz q2
     have D3:Dn κ (arrOf st3) lo m:=fun i j hij hj=>by rw[e0,e0];exact D2 i j hij hj
     have F3:Frm κ kd a₀ st' lo (lo+nrem) st3:=by rw[hst];exact F2.mirror (by lia) (by lia) hn
     clear hst e0
    case' h2=>
     intro hq;obtain⟨st3,e3⟩:∃st3,st3=st2:=⟨_,rfl⟩
     have D3:Dn κ (arrOf st3) lo m:=by rw[e3];exact D2
     have F3:Frm κ kd a₀ st' lo (lo+nrem) st3:=by rw[e3];exact F2
     rw[<- e3];clear e3
    all_goals (
     refine CW (gn (i:=lo) (j:=lo+m) fun st4 hst=>?_);have U4:Up κ (arrOf st4) lo m:=by rw[hst];exact fin st3 F3 m (by lia) m2 D3
     have F4:Frm κ kd a₀ st' lo (lo+nrem) st4:=by rw[hst];exact F3.mirror (zU _) (by lia) hn
     refine CW (wpS_mono (wpS_forRange (I:=fun x c st5=>st5=st4/\c=(none,x)/\Up κ (arrOf st4) lo x) (Q:=fun c st5=>st5=st4/\∃n,c=(none,n)/\1<=n/\n<=nrem/\Up κ (arrOf st4) lo n) (fun x c st5 hx1 hx2 z=>?_) (fun c st5 z=>?_) ⟨rfl,rfl,U4⟩) fun c st5 z=>?_)
     ·obtain⟨rfl,rfl,u⟩:=z;have hx1':m<=x:=hx1;have hx2':x<nrem:=hx2;refine CW (eF (i:=lo+x) (j:=lo+x-1) hO F4.sb h0 (by lia) (by lia) ?_);cases hl:κ.blt (KK κ (arrOf st5) (lo+x)) (KK κ (arrOf st5) (lo+x-1)) with
      |true=>exact CY ⟨rfl,x,rfl,by lia,by lia,u⟩
      |false=>exact CY ⟨rfl,rfl,u.more (by lia) hl⟩
     ·obtain⟨rfl,rfl,u⟩:=z;rw[show max m nrem=nrem by lia] at u ⊢;exact⟨rfl,nrem,rfl,h1,zU _,u⟩
     ·obtain⟨rfl,n',rfl,b1,b2,u⟩:=z
      exact CY (h n' st5 F4 b1 b2 u)))
theorem jG{lo n ok:Nat}{Q:Bool->SortSt->Prop}(hO:LtK prog w κ kd s)(h0:KeysOf κ a₀)(hn:lo+n<=a₀.size)(hok:ok<=n)(hB:SB κ kd a₀ st)(hs:Up κ (arrOf st) lo ok)
  (h:∀st',Frm κ kd a₀ st lo (lo+n) st'->Up κ (arrOf st') lo n->Q true st'):wpS (model prog w) A E s (IB lo n ok) Q st:=by
 refine CW (wpS_mono (wpS_forRange (I:=fun k c st'=>c=(none,())/\Frm κ kd a₀ st lo (lo+n) st'/\Up κ (arrOf st') lo (min k n)) (Q:=fun c st'=>c=(none,())/\Frm κ kd a₀ st lo (lo+n) st'/\Up κ (arrOf st') lo n) (fun k c st1 hk1 hk2 z=>?_) (fun c st' z=>?_) ⟨rfl,.refl hB,?_⟩) fun c st' z=>?_)
 rotate_left
 ·obtain⟨hc,F,u⟩:=z;rw[show min (max (max ok 1) n) n=n by lia] at u;exact⟨hc,F,u⟩
 ·intro i j hij hj;by_cases c:ok=0
  ·have:i=j:=by lia
   subst this;exact Dp _
  ·exact hs i j hij (by lia)
 ·obtain⟨rfl,F,u⟩:=z;exact CY (h st' F u)
 obtain⟨rfl,F1,u⟩:=z;rw[show min k n=k by lia] at u;have hk:lo+k<a₀.size:=by lia
 refine CW (wpS_mono (wpS_forRange (I:=fun x c st2=>st2=st1/\∃l r,c=(none,l,r)/\l<=r/\r<=k/\r - l<=k - x/\(∀i,i < l->κ.kle (KK κ (arrOf st1) (lo+i)) (KK κ (arrOf st1) (lo+k)))/\(∀i,r<=i->i < k->κ.klt (KK κ (arrOf st1) (lo+k)) (KK κ (arrOf st1) (lo+i))))
  (Q:=fun c st2=>st2=st1/\∃l r,c=(none,l,r)/\l<=k/\(∀i,i < l->κ.kle (KK κ (arrOf st1) (lo+i)) (KK κ (arrOf st1) (lo+k)))/\(∀i,l<=i->i < k->κ.klt (KK κ (arrOf st1) (lo+k)) (KK κ (arrOf st1) (lo+i)))) (fun x c st2 hx1 hx2 z=>?_) (fun c st2 z=>?_) ⟨rfl,0,k,rfl,Ag _,zU _,by lia,fun i hi=>by lia,fun i h1 h2=>by lia⟩) fun c st2 z=>?_)
 ·obtain⟨rfl,l,r,rfl,b1,b2,b3,b4,b5⟩:=z;refine bP (fun hge=>?_) fun hge=>?_
  ·have hge':l≥r:=hge;have:l=r:=by lia
   subst this;exact CY ⟨rfl,l,l,rfl,b2,b4,b5⟩
  have hge':¬l≥r:=hge;refine CW (eF (i:=lo+k) (j:=lo+(l+r)/2) hO F1.sb h0 hk (by lia) ?_);cases hl:κ.blt (KK κ (arrOf st2) (lo+k)) (KK κ (arrOf st2) (lo+(l+r)/2)) with
  |true=>exact CY ⟨rfl,l,(l+r)/2,rfl,by lia,by lia,by lia,b4,fun i h1 h2=>KeyOrd.klt_of_klt_of_kle hl (u _ _ h1 h2)⟩
  |false=>exact CY ⟨rfl,(l+r)/2+1,r,rfl,by lia,by lia,by lia,fun i h1=>KeyOrd.kle_trans (u i ((l+r)/2) (by lia) (by lia)) hl,b5⟩
 ·obtain⟨rfl,l,r,rfl,b1,b2,b3,b4,b5⟩:=z;have b3':r-l<=k-max 0 k:=b3;have:l=r:=by lia
  subst this;exact⟨rfl,l,l,rfl,b2,b4,b5⟩
 ·obtain⟨rfl,l,r,rfl,b1,b4,b5⟩:=z;have hz:lo+k<(arrOf st2).size:=by rw[F1.sb.size];exact hk
  refine CW (wpS_modify (CY ⟨rfl,F1.bubble (src:=lo+k) (d:=lo+k-(lo+l)) (by lia) (by lia) hn (by lia),?_⟩));rw[show min (k+1) n=k+1 by lia];intro i j hij hj;show κ.kle (KK κ (bubble (arrOf st2) (lo+k) (lo+k-(lo+l))) (lo+i)) (KK κ (bubble (arrOf st2) (lo+k) (lo+k-(lo+l))) (lo+j));rw[KK_bubble hz (by lia),KK_bubble hz (by lia),show lo+k-(lo+k-(lo+l))=lo+l by lia];by_cases c1:lo+j=lo+l
  ·rw[Dc c1];by_cases c2:lo+i=lo+l
   ·rw[Dc c2];exact Dp _
   ·rw[CZ c2,CZ (by lia)];exact b4 i (by lia)
  ·rw[CZ c1];by_cases c3:lo+l<lo+j/\lo+j<=lo+k
   ·rw[Dc c3,show lo+j-1=lo+(j-1) by lia];by_cases c2:lo+i=lo+l
    ·rw[Dc c2];exact Dq (b5 _ (by lia) (by lia))
    ·rw[CZ c2];by_cases c4:lo+l<lo+i/\lo+i<=lo+k
     ·rw[Dc c4,show lo+i-1=lo+(i-1) by lia];exact u _ _ (by lia) (by lia)
     ·rw[CZ c4];exact u _ _ (by lia) (by lia)
   ·rw[CZ c3,CZ (by lia),CZ (by lia)];exact u _ _ (by lia) (by lia)
theorem sC{n:Nat}(h:n<64)(h1:1<=n):minRun' n n 0=n:=by
 obtain⟨f,rfl⟩:∃f,n=f+1:=⟨n-1,by lia⟩
 rw[minRun'_succ,Dc h]
theorem jD{Q:Unit->SortSt->Prop}(hO:LtK prog w κ kd s)(h0:KeysOf κ a₀)(hB:SB κ kd a₀ st)(hp:pendingOf st=#[])(h1:1<=a₀.size)(h64:a₀.size<64)
  (h:∀st',SB κ kd a₀ st'->Up κ (arrOf st') 0 a₀.size->Q () st'):wpS (model prog w) A E s sortRuns' Q st:=by
 refine CW (wpS_get ?_);have hsz:(arrOf st).size=a₀.size:=hB.size;have hmr:minRun' (arrOf st).size (arrOf st).size 0=a₀.size:=by rw[hsz];exact sC h64 h1
 refine CW (wpS_mono (wpS_forRange (I:=fun x c st'=>(x=0/\c=(none,0)/\SB κ kd a₀ st'/\pendingOf st'=#[])\/(c=(none,a₀.size)/\SB κ kd a₀ st'/\(pendingOf st').size=1/\Up κ (arrOf st') 0 a₀.size)) (Q:=fun c st'=>c.1=none/\SB κ kd a₀ st'/\(pendingOf st').size=1/\Up κ (arrOf st') 0 a₀.size) (fun x c st1 hx1 hx2 z=>?_) (fun c st' z=>?_) (.inl ⟨rfl,rfl,hB,hp⟩)) fun c st' z=>?_)
 rotate_left
 ·rcases z with ⟨z,_⟩|⟨rfl,z⟩
  ·have z':max 0 (arrOf st).size=0:=z;lia
  ·exact⟨rfl,z⟩
 ·obtain⟨c0,lo⟩:=c;obtain⟨e,B,l,u⟩:=z;cases e;refine CW (wpS_mono (wpS_forRange (I:=fun x c st2=>c=(none,())/\st2=st') (Q:=fun c st2=>c=(none,())/\st2=st') (fun x c st2 hx1 hx2 z=>?_) (fun c st2 z=>z) ⟨rfl,rfl⟩) fun c st2 z=>?_)
  ·obtain⟨rfl,rfl⟩:=z;refine CW (wpS_get ?_);exact bP (fun _=>CY ⟨rfl,rfl⟩) fun e=>absurd (show(pendingOf st2).size<=1 from BV l) e
  ·obtain⟨rfl,rfl⟩:=z;exact CY (h st2 B u)
 rcases z with ⟨rfl,rfl,B,p0⟩|⟨rfl,B,l,u⟩
 ·refine bP (fun e=>absurd (show 0≥(arrOf st).size from e) (by lia)) fun e=>?_;refine CW (kU (lo:=0) (nrem:=(arrOf st).size-0) hO h0 (by lia) (by lia) B fun m st2 F2 m1 m2 U2=>?_)
  have lst:∀st3 (t:Nat×Nat×Nat),SB κ kd a₀ st3->pendingOf st3=#[]->Up κ (arrOf st3) 0 a₀.size->SB κ kd a₀ (setPending st3 ((pendingOf st3).push t))/\(pendingOf (setPending st3 ((pendingOf st3).push t))).size=1/\Up κ (arrOf (setPending st3 ((pendingOf st3).push t))) 0 a₀.size:=fun st3 t B3 p3 u3=>⟨⟨B3.perm,B3.kind,B3.failed⟩,by
   show((pendingOf st3).push t).size=1
   rw[p3];rfl,u3⟩
  apply bP
  case' h1=>
   intro hm;refine CW (wpS_lift (DH ⟨rfl,?_⟩));refine CW (jG (lo:=0) (n:=min ((arrOf st).size-0) (minRun' (arrOf st).size (arrOf st).size 0)) (ok:=m) hO h0 (by rw[hmr];lia) (by rw[hmr];lia) F2.sb U2 fun st3 F3 U3=>?_);refine bP (fun z=>absurd z (by decide)) fun _=>?_;have B3:=F3.sb;have P3:pendingOf st3=#[]:=by rw[F3.pend,F2.pend];exact p0
   have en:min ((arrOf st).size-0) (minRun' (arrOf st).size (arrOf st).size 0)=a₀.size:=by rw[hmr];lia
   rw[en] at U3;clear F3;obtain⟨n,hn⟩:∃n,n=min ((arrOf st).size-0) (minRun' (arrOf st).size (arrOf st).size 0):=⟨_,rfl⟩
   have hn':n=a₀.size:=hn.trans en
  case' h2=>
   intro hm;have hm':¬m<minRun' (arrOf st).size (arrOf st).size 0:=hm;rw[hmr] at hm';obtain⟨st3,e3⟩:∃st3,st3=st2:=⟨_,rfl⟩
   have B3:SB κ kd a₀ st3:=by rw[e3];exact F2.sb
   have P3:pendingOf st3=#[]:=by rw[e3,F2.pend];exact p0
   have em:m=a₀.size:=by lia
   have U3:Up κ (arrOf st3) 0 a₀.size:=by rw[e3,<- em];exact U2
   rw[<- e3];clear e3;obtain⟨n,hn⟩:∃n,n=m:=⟨_,rfl⟩
   have hn':n=a₀.size:=hn.trans em
  all_goals (
   refine CW (wpS_get ?_);cases eb:(pendingOf st3).back? with
   |some t=>rw[P3] at eb;cases eb
   |none=>
    subst hn
    exact CW (wpS_modify (CY (.inr ⟨congrArg (Prod.mk (none:Option Unit)) ((BW _).trans hn'),lst st3 _ B3 P3 U3⟩))))
 ·refine bP (fun e=>CY ⟨rfl,B,l,u⟩) fun e=>absurd (show a₀.size≥(arrOf st).size from BV hsz) e
end
end SH
namespace SH
open PySem PySem.Spec PyProof.Rows SeqAt
def TupAt(h:Heap)(v:Value)(ns:List Int):Prop:=∃t o us e,v=.ref t/\h.get? t=some o/\o.cls=.type "tuple"/\o.data=.seq us.toArray e/\IntsAre us ns
section
variable {prog:Program}{w:World}{A:Around}{E:Value->Shared->Prop}{s:Shared}
theorem mC(b:Bool)(x y:Value):keyLt' (tuples' b) x y=(do
  let xs <- Builtin.List.listItems x
  let ys <- Builtin.List.listItems y
  for ((p,q),i) in (xs.toList.zip ys.toList).zipIdx do
   if !(<- eqBool p q) then return <- oneLt' (b&&i==0) p q
  return decide (xs.size < ys.size)):=rfl
theorem ml{b:Bool}{n m:Int}{t u:Tok}{Q:Bool->Shared->Prop}(h:Q (decide (n<m)) s):wpAny (model prog w) A (oneLt' b (.int n t) (.int m u)) Q E s:=by
 cases b with
 |true=>exact oneLt_int h
 |false=>
  rw[oneLt'_eq];simp only[Bx,if_false];refine CU (HT.ER _ _ _ _ _ _ _ _ _ _ ?_);exact wpAny_truthy_bool h
theorem oP{x y:Value}{ns ms:List Int}(hx:TupAt s.heap x ns)(hy:TupAt s.heap y ms)(hl:ns.length=ms.length){b:Bool}{Q:Bool->Shared->Prop}(h:Q (decide (ns<ms)) s):wpAny (model prog w) A (keyLt' (tuples' b) x y) Q E s:=by
 obtain⟨p,o,us,e,rfl,ho,_,hd,iu⟩:=hx;obtain⟨q,o2,vs,e2,rfl,ho2,_,hd2,iv⟩:=hy;rw[mC];refine CU (listItems_at ho hd (CU (listItems_at ho2 hd2 ?_)));have ls:us.length=vs.length:=by rw[iu.length,iv.length,hl]
 refine CU (Df (wpAny_forIn_list (β:=Option Bool×Unit) _ (fun rest c s'=>c.1=none/\s'=s/\∃k ns' ms' us' vs',rest=(us'.zip vs').zipIdx k/\IntsAre us' ns'/\IntsAre vs' ms'/\ns'.length=ms'.length/\decide (ns<ms)=decide (ns'<ms')) (fun c s'=>s'=s/\(c.1=some (decide (ns<ms))\/(c.1=none/\decide (ns<ms)=false))) (fun z rest c s' hI=>?_) (fun c s' hI=>?_) _ _ ⟨rfl,rfl,0,ns,ms,us,vs,by simp,iu,iv,hl,rfl⟩) (fun c s' hI=>?_) fun _ _ e=>e)
 ·obtain⟨c1,rfl,k,ns',ms',us',vs',er,iu',iv',hl',ed⟩:=hI;cases iu' with
  |nil=>rw[List.zip_nil_left,List.zipIdx_nil] at er;cases er
  |@cons n t us2 ns2 iu2=>
   cases iv' with
   |nil=>rw[List.zip_nil_right,List.zipIdx_nil] at er;cases er
   |@cons m u vs2 ms2 iv2=>
    rw[List.zip_cons_cons,List.zipIdx_cons] at er;obtain⟨rfl,rfl⟩:=List.cons.inj er;refine CU (wpAny_eqBool_int ?_);by_cases q:n=m
    ·subst q;rw[beq_self_eq_true];refine CV ⟨rfl,rfl,k+1,ns2,ms2,us2,vs2,rfl,iu2,iv2,Nat.succ.inj hl',ed.trans ?_⟩;rw[decide_eq_decide,List.cons_lt_cons_iff];exact⟨fun z=>z.elim (fun z=>absurd z (Int.lt_irrefl _)) And.right,fun z=>.inr ⟨rfl,z⟩⟩
    ·rw[beq_eq_false_iff_ne.mpr q];refine CU (ml (CV ⟨rfl,.inl ?_⟩));rw[ed];refine congrArg some (decide_eq_decide.mpr ?_);rw[List.cons_lt_cons_iff];exact⟨fun z=>.inl z,fun z=>z.elim id fun z=>absurd z.1 q⟩
 ·obtain⟨c1,rfl,k,ns',ms',us',vs',er,iu',iv',hl',ed⟩:=hI;refine⟨rfl,.inr ⟨c1,ed.trans ?_⟩⟩;cases iu' with
  |nil=>
   cases ms' with
   |nil=>rfl
   |cons a b=>cases hl'
  |cons n t iu2=>
   cases iv' with
   |nil=>cases hl'
   |cons m u iv2=>rw[List.zip_cons_cons,List.zipIdx_cons] at er;cases er
 ·obtain⟨rfl,hc⟩:=hI;obtain⟨c1,c2⟩:=c;rcases hc with hc|⟨hc,ed⟩
  ·have hc:c1=_:=hc;subst hc;exact CV h
  ·have hc:c1=_:=hc;subst hc;refine CV ?_;rw[ed] at h;rw[show decide (us.toArray.size<vs.toArray.size)=false from De (by rw[Aj,Aj];lia)];exact h
theorem pU(v:Value):firstOfTuple' v=(do
  if (<- typeOf v) != .type "tuple" then return none
  return (<- Builtin.List.listItems v)[0]?):=rfl
theorem Fh:∀(vs:List Value),(∀v∈vs,∃ns,TupAt s.heap v ns/\ns≠[])->∀{Q:List (Option Value)->Shared->Prop},(∀us ns,IntsAre us ns->us.length=vs.length->Q (us.map some) s)->wpAny (model prog w) A (vs.mapM firstOfTuple') Q E s
 |[],_,Q,h=>by rw[List.mapM_nil];exact CV (h [] [] .nil rfl)
 |v::vs,hv,Q,h=>by
  obtain⟨ns,⟨t,o,us,e,rfl,ho,hc,hd,iu⟩,hn⟩:=hv _ zX;rw[List.mapM_cons,pU];cases iu with
  |nil=>exact absurd rfl hn
  |@cons n u us' ns' iu'=>
   refine CU (CU (wpAny_typeOf ⟨o,ho,hc⟩ ?_));rw[CZ (by decide)];refine CU (listItems_at ho hd (CV (CU (Fh vs (fun v hm=>hv v (Af _ hm)) fun us2 ns2 i2 l2=>CV ?_))));exact h (.int n u::us2) (n::ns2) (.cons _ _ i2) (by rw[AE,AE,l2])
theorem mW{vs:List Value}(hv:∀v∈vs,∃ns,TupAt s.heap v ns/\ns≠[])(h0:vs≠[]){Q:SortKind->Shared->Prop}(h:Q (tuples' true) s):wpAny (model prog w) A (keyKind' vs.toArray) Q E s:=by
 rw[keyKind'_eq,List.mapM_toArray,map_eq_pure_bind];refine CU (CU (Fh vs hv fun us ns iu hl=>CV ?_));rw[Dc (by simp)];refine CU (DH ?_);have e1:(us.map some).toArray.filterMap id=us.toArray:=by simp
 rw[e1,oneTypeOnly'_eq,List.mapM_toArray,mapM_typeOf_ints iu];simp only[map_pure,pure_bind];cases iu with
 |nil=>exact absurd (AR.mp hl.symm) h0
 |@cons n u us' ns' iu'=>
  rw[show(List.map (fun _=>Value.type "int") (Value.int n u::us')).toArray[0]?=some (Value.type "int") by simp];dsimp only;rw[Dc (by simp)];exact CU (CV (CV h))
end
end SH
namespace L2
open PySem PySem.Spec PyProof.Rows
def ddS:List Str->List Str
 |[]=>[]
 |x::r=>if x∈ddS r then ddS r else x::ddS r
theorem EA{x:Str}:∀{l:List Str},x∈ddS l↔x∈l
 |[]=>Iff.rfl
 |y::r=>by
  unfold ddS;split
  ·rename_i h;rw[EA,Ad];exact⟨.inr,fun z=>z.elim (fun e=>by rw[e];exact EA.mp h) id⟩
  ·rw[Ad,Ad,EA]
theorem GR:∀l:List Str,(ddS l).Nodup
 |[]=>.nil
 |y::r=>by
  unfold ddS;split
  ·exact GR r
  ·rename_i h;exact Bo.mpr ⟨h,GR r⟩
theorem Ft:∀l:List Str,(ddS l).length<=l.length
 |[]=>zU _
 |y::r=>by
  unfold ddS;have:=Ft r;split
  ·exact Bj this
  ·exact DA this
theorem jk(t:SetTable)(n:Nat):(t.orStandIn n).led=t.led/\((t.orStandIn n).plain=t.plain\/(t.orStandIn n).plain=false):=by
 unfold SetTable.orStandIn;split
 ·exact⟨rfl,.inl rfl⟩
 ·exact⟨rfl,.inr rfl⟩
theorem kF(t:SetTable)(es:Array (Int×Value))(h:Int)(x:Value):(layNew t es h x).2.1.led=t.led:=by
 unfold layNew;split
 ·exact(jk _ _).1
 ·rfl
theorem oX{mask finger moves:Nat}{led plain:Bool}{hashes:Array Int}{r:SetTable×Array Nat}(h:SetTable.laid mask finger moves led plain hashes=some r):r.1.led=led/\r.1.plain=plain:=by
 unfold SetTable.laid at h;simp only[Option.bind_eq_bind,Option.pure_def,Option.bind_eq_some_iff] at h;obtain⟨_,_,h⟩:=h;cases h;exact⟨rfl,rfl⟩
theorem mw(t:SetTable)(es:Array (Int×Value))(n:Nat):(relayAll t es n).2.1.led=t.led/\(t.plain=false->(relayAll t es n).2.1.plain=false):=by
 unfold relayAll;split
 ·rename_i t' order h;obtain⟨h1,h2⟩:=oX h;dsimp only;split
  ·exact⟨h1,fun z=>h2.trans z⟩
  ·exact⟨rfl,fun _=>rfl⟩
 ·exact⟨rfl,fun _=>rfl⟩
def FR (P:Program)(w:World)(L:Bool)(o:Obj)(ys:List Str):Prop:=o.ExactSet/\∃es ep t,o.data=.set es ep t/\ElemsOf (strKind P w) es.toList/\(es.toList.map fun e=>strOf e.2).Perm (ddS ys)/\t.fits es.size=true/\t.led=L/\(0<es.size->t.plain=false)
theorem FR.fresh(P:Program)(w:World)(L:Bool):FR P w L {cls:=.type "set",dict:=none,data:=.set #[] 0 (.fresh 0 0 L)} []:=
 ⟨⟨rfl,rfl,rfl⟩,#[],0,_,rfl,fun e he=>by simp at he,.refl _,by rfl,rfl,fun h=>absurd h (AC _)⟩
section
variable {prog:Program}{w:World}{A:Around}{E:Value->Shared->Prop}{s:Shared}{a:Addr}{o:Obj}{L:Bool}{ys:List Str}{z:Str}{tz:Tok}
theorem qw{e:Int×Value}{l:List (Int×Value)}(h:ElemsOf (strKind prog w) l)(he:e∈l):∃x t,e.2=.str x t:=by
 obtain⟨k,hk⟩:=h.keys e he;obtain⟨t,ht⟩:=Value.isStrOf_shape hk;exact⟨k,t,ht⟩
theorem isz(x y:Str)(t:Tok):Value.isStrOf x (.str y t)=decide (x=y):=by
 cases h:Value.isStrOf x (.str y t) with
 |true=>
  obtain⟨u,e⟩:=Value.isStrOf_shape h;cases e;exact(Dd rfl).symm
 |false=>
  refine(De fun e=>?_).symm;subst e;have:Value.isStrOf x (.str x t)=true:=Dd rfl;rw[this] at h;cases h
theorem tM{g:Bool->Sem Unit}(hg:∀(b:Bool)(s₁:Shared)(Q':Unit->Shared->Prop),Q' () s₁->wpAny (model prog w) A (g b) Q' E s₁){es:Array (Int×Value)}{ep:Nat}{t:SetTable}(ho:s.heap.get? a=some o)(hex:o.ExactSet)(hd:o.data=.set es ep t)
  {es1:Array (Int×Value)}{t2:SetTable}(hel1:ElemsOf (strKind prog w) es1.toList)(hp1:(es1.toList.map fun e=>strOf e.2).Perm (ddS ys))(hb1:es1.size<scanBound)(hf2:t2.fits es1.size=true)(hl2:t2.led=L)(hpl2:t2.plain=false){wasDummy:Bool}{R:Option Bool->Shared->Prop}
  (h:∀h' o',Heap.SameBut a s.heap h'->h'.get? a=some o'->FR prog w L o' ys->R (some true) {s with heap:=h'}) :
  wpAny (model prog w) A (storeSet a es1 t2 >>= fun _=>if (!wasDummy&&t2.tooFull)=true then g (relayAll t2 es1 (SetTable.grown es1.size)).2.2 >>= fun _=>storeSet a (relayAll t2 es1 (SetTable.grown es1.size)).1 (relayAll t2 es1 (SetTable.grown es1.size)).2.1 >>= fun _=>pure (some true) else pure (some true)) R E s:=by
 have at1:∀(h0:Heap)(o0:Obj)(es0:Array (Int×Value))(ep0:Nat)(t0:SetTable)(es':Array (Int×Value))(t':SetTable),h0.get? a=some o0->o0.data=.set es0 ep0 t0->(h0.update a (Obj.putSet es' t')).get? a=some {o0 with data:=.set es' (ep0+1) t'}:=fun h0 o0 es0 ep0 t0 es' t' h1 h2=>by
  have:=Heap.get?_update_self (Obj.putSet es' t') h1 (by rw[putSet_of es' t' h2];rfl);rw[putSet_of es' t' h2] at this;exact this
 refine CU (wpAny_storeSet_of ho hd ?_ (fits_of_scanBound hb1));have g1:=at1 _ _ _ _ _ es1 t2 ho hd;have b1:=Heap.SameBut.update s.heap a (Obj.putSet es1 t2);split
 ·have hp:=relayAll_perm t2 es1 (SetTable.grown es1.size);have hfr:=relayAll_fits t2 es1 (SetTable.grown es1.size);obtain⟨hlr,hpr⟩:=mw t2 es1 (SetTable.grown es1.size);generalize relayAll t2 es1 (SetTable.grown es1.size)=Rl at hp hfr hlr hpr ⊢;obtain⟨es2,t3,gave2⟩:=Rl;dsimp only at hp hfr hlr hpr ⊢;have hsz:es2.size=es1.size:=by rw[<- AD,hp.length_eq,AD]
  refine CU (hg _ _ _ (CU (wpAny_storeSet_of g1 rfl ?_ (fits_of_scanBound (by rw[hsz];exact hb1)))));refine CV (h _ _ (b1.trans (Heap.SameBut.update _ a _)) (at1 _ _ _ _ _ es2 t3 g1 rfl) ⟨hex,es2,_,t3,rfl,hel1.perm hp,(hp.map _).trans hp1,hfr,hlr.trans hl2,fun _=>hpr hpl2⟩)
 ·exact CV (h _ _ b1 g1 ⟨hex,es1,_,t2,rfl,hel1,hp1,hf2,hl2,fun _=>hpl2⟩)
def eU (w:World):Bool:=!w.params.followText "set-order"
end
section
variable {X:Cx}{scope:Scope}{ts cap:List Str}{js:List Nat}{tg elt iter:Expr}{ifs:List Expr}{pos:Pos}{wi:TI}{g:TG}{tc:TT}{te:TE}
abbrev Hj:=St->Hp->(List Str->Hp->Prop)->Prop
def uk (X:Cx)(e:Expr)(t:Hj):Prop:=
 ∀(pins:List (Addr×Obj))(s:Shared)(σ:St)(H:Hp)(Q:List Str->Hp->Prop),Inv X pins σ H s->t σ H Q ->
  (wq X) (eval e X.env) (fun v s'=>∃D o ys H',v=.ref D/\Inv X pins σ H' s'/\s'.heap.get? D=some o/\FR X.prog X.w (eU X.w) o ys/\(ddS ys).length<scanBound/\Q ys H') X.xe s
end
theorem Ej:Slot "set_iterator" "__next__" "set_iterator.__next__":=.of (owner:="set_iterator") (n:="__next__") (by rw[typeLookup_type,builtinLookup_eq_fast];kernel_rfl) (by decide +kernel) (by decide +kernel) (by decide +kernel) (by first|exact .inl (by decide +kernel)|exact .inr (by decide +kernel)) (by rw[isSubtype_type];kernel_rfl)
theorem EO:entryFor table "set_iterator.__next__"=some Builtin.«set_iterator.__next__»:=entryFor_of_tree (by kernel_rfl)
theorem FY:entryFor table "set.__iter__"=some Builtin.«frozenset.__iter__»:=entryFor_alias (id':="frozenset.__iter__") (by kernel_rfl) rfl (by decide +kernel) (by kernel_rfl)
theorem gG(a:Value):argsOk "set_iterator.__next__" ⟨[a],[]⟩:=by unfold argsOk;kernel_rfl
abbrev siO(first:Value)(i:Nat)(D:Addr)(n ep:Nat):Obj:={cls:=.type "set_iterator",data:=.fields #[first,rawInt i,.ref D,rawInt n,rawInt ep]}
section
variable {prog:Program}{w:World}{A:Around}{E:Value->Shared->Prop}{s:Shared}{a:Addr}{o:Obj}{ys:List Str}
theorem eI{α:Type}:∀(l:List α)(i:Nat)(h:i<l.length),(l[i]::l.eraseIdx i).Perm l
 |x::xs,0,_=>.refl _
 |x::xs,i+1,h=>(List.Perm.swap x (xs[i]'(Nat.lt_of_succ_lt_succ h)) (xs.eraseIdx i)).trans ((eI xs i (Nat.lt_of_succ_lt_succ h)).cons x)
theorem lu{M:Model}{src:Source}{n:Nat}{Q:Nat->Shared->Prop}(hn:n≠0)(h:∀i d,i<n->Q i {s with drawn:=d}):wpAny M A (choose src n) Q E s:=fun Γ p _=>⟨hn,h _ _ (Nat.mod_lt _ (Nat.pos_of_ne_zero hn))⟩
theorem fN{α:Type}:∀(n:Nat)(xs:List α)(s:Shared)(Q:List α->Shared->Prop),xs.length=n->(∀ys d,ys.Perm xs->Q ys {s with drawn:=d})->wpAny (model prog w) A (drawOrder n xs) Q E s
 |0,xs,s,Q,hl,h=>by
  rw[AR.mp hl];have:=h [] s.drawn (by rw[AR.mp hl]);exact CV this
 |n+1,[],s,Q,hl,h=>by cases hl
 |n+1,x::xs,s,Q,hl,h=>by
  show wpAny _ _ (choose .order (x::xs).length >>= _) _ _ _;refine CU (lu (by simp) fun i d hi=>?_);rw[Ac hi];refine CU (fN n ((x::xs).eraseIdx i) _ _ (by rw[CP hi,hl];rfl) fun ys d' hy=>?_);refine CV (h _ _ ?_);exact(hy.cons _).trans (eI _ i hi)
theorem oy{es:Array (Int×Value)}{ep:Nat}{t:SetTable}{Q:Value->Shared->Prop}(ho:s.heap.get? a=some o)(hex:o.ExactSet)(hd:o.data=.set es ep t)(hf:t.fits es.size=true)(hz:es.size<=sizeLine)
  (hA:(w.params.followText "set-order"=true\/t.plain=true\/es.size<=1)->Q (.ref s.heap.objs.size) {s with heap:=s.heap.push (siO (rawInt 0) 0 a es.size ep)})
  (hB:w.params.followText "set-order"=false->t.plain=false->1<es.size->∀(ps:List Nat) d,ps.Perm (List.range es.size)->Q (.ref (s.heap.objs.size+1)) {s with heap:=(s.heap.push (seqObj "tuple" (ps.map fun i=>rawInt (i:Nat)).toArray 0)).push (siO (.ref s.heap.objs.size) 0 a es.size ep),drawn:=d}) :
  wpAny (model prog w) A (pyIter (.ref a)) Q E s:=by
 have hT:s.TypeIs (.ref a) "set":=⟨o,ho,hex.1⟩
 refine wpAny_pyIter_slot hT F.slot_set_iter (DE F.slot_set_iter hT FY ?_ (F.args_set_iter_1 _));unfold Builtin.«frozenset.__iter__» Builtin.Frozenset.slot0 Builtin.Frozenset.sizeOf Builtin.Frozenset.addrOf setDrawn setEpoch setEntries setsByText;refine CU (CU (CV (CV ?_)));refine CU (CU (CU (Dv ho hd hf (CV (CV ?_)))));refine CU (CU (Dv ho hd hf (CU (CU (wpAny_askSetting (CV (CV ?_)))))));dsimp only;split
 ·rename_i hc;have h2:(!w.params.followText "set-order" && (!t.plain&&decide (es.size>1)))=true:=hc;rw[AG,AG,decide_eq_true_eq] at h2;obtain⟨h3,h4,h5⟩:=h2;refine CU (fN _ _ _ _ Br fun ps d hp=>?_);refine CU (wpAny_newTuple ?_ (by rw[zV,hp.length_eq,Br];exact hz));refine CU (CU (Dv (Dx _ ho) hd hf (CV ?_)));refine CU (wpAny_newObj_type (CV ⟨_,rfl,"set_iterator",_,⟨_,Dy _ rfl,rfl⟩,Ej.lookup,?_⟩));have:=hB (by cases q:w.params.followText "set-order" with|false=>rfl|true=>rw[q] at h3;cases h3) (by cases q:t.plain with|false=>rfl|true=>rw[q] at h4;cases h4) h5 ps d hp;rw[show s.heap.objs.size+1=(s.heap.push (seqObj "tuple" (ps.map fun i=>rawInt (i:Nat)).toArray 0)).objs.size by rw[DG]] at this;exact this
 ·rename_i hc;have h2:¬(!w.params.followText "set-order" && (!t.plain&&decide (es.size>1)))=true:=hc;refine CU (CV (CU (CU (Dv ho hd hf (CV ?_)))));refine CU (wpAny_newObj_type (CV ⟨_,rfl,"set_iterator",_,⟨_,Dy _ rfl,rfl⟩,Ej.lookup,hA ?_⟩));by_cases h3:w.params.followText "set-order"=true
  ·exact .inl h3
  ·by_cases h4:t.plain=true
   ·exact .inr (.inl h4)
   ·refine .inr (.inr (Cq fun h5=>h2 ?_));rw[Bs.mpr h3,Bs.mpr h4,Dd h5];rfl
theorem lg{I D Pl:Addr}{ps:List Nat}{i p n ep:Nat}{es:Array (Int×Value)}{t:SetTable}{e:Int×Value}{Q:Option Value->Shared->Prop}(hI:s.heap.get? I=some (siO (.ref Pl) i D n ep))(hP:s.heap.get? Pl=some (seqObj "tuple" (ps.map fun i=>rawInt (i:Nat)).toArray 0))(ho:s.heap.get? D=some o)(hd:o.data=.set es ep t)(hf:t.fits es.size=true)(hn:es.size=n)(hi:ps[i]?=some p)(he:es[p]?=some e)
  (hQ:∀h',Heap.SameBut I s.heap h'->h'.get? I=some (siO (.ref Pl) (i+1) D n ep)->Q (some e.2) {s with heap:=h'}):wpAny (model prog w) A (pyNext (.ref I)) Q E s:=by
 have hT:s.TypeIs (.ref I) "set_iterator":=⟨_,hI,rfl⟩
 unfold pyNext;refine CU (DC (wpAny_callSpecial?_slot (name:=Str.ofString "__next__") hT Ej (DE Ej hT EO ?_ (gG _))));unfold Builtin.«set_iterator.__next__» setEntries;refine CU (CV ?_);refine CU (wpAny_fieldsOf hI rfl ?_);refine CU (CU (Dv ho hd hf (CV ?_)));dsimp only;rw[CZ (by rw[hn];simp)];have hpl:(ps.map fun i=>rawInt (i:Nat)).toArray[((i:Nat):Int).toNat]?=some (rawInt (p:Nat)):=by rw[AM,Bf,Ao,hi];rfl
 refine CU (wpAny_seqItems hP rfl ?_);dsimp only;rw[hpl];show wpAny _ _ (setNextDrawn D ((p:Nat):Int).toNat ((ep:Nat):Int).toNat >>= _) _ _ _;rw[AM,AM];unfold setNextDrawn;refine CU (CU (Dv ho hd hf ?_));dsimp only;rw[CZ (by simp),he];refine CV ?_;refine CU (wpAny_setField hI rfl (by simp) ?_);refine CV ⟨_,rfl,CV (hQ _ (Heap.SameBut.update ..) ?_)⟩;exact Heap.get?_update_self (Obj.mapFields (·.setIfInBounds 1 (rawInt ((i:Nat)+1)))) hI rfl
theorem iZ{F:PySem.Fin->Shared->Prop}{Q:Option Value->Shared->Prop}(hh:A.handled=none)(hQ:∀h',(∀b u,s.heap.get? b=some u->h'.get? b=some u)->Q none {s with heap:=h'}) :
  wpAny (model prog w) A.in1 (newExc (.type "StopIteration") [] >>= fun e=>raiseNew e) F (fun e s'=>wpAny (model prog w) A (isInstance e (.type "StopIteration") >>= fun b=>if b=true then pure none else throw e) Q E s') s:=by
 refine CU ?_;simp only[newExc,newTuple];refine CU (wpAny_newObj_type (CU (m:=firstArgMember _ _) (wpAny_of_eq (a:=Value.none) (by first|rfl|(simp only[firstArgMember];rfl)) (wpAny_newObj_type ?_ (by size_fits)))) (by size_fits));simp only[raiseNew];refine CU (wpAny_handled ?_);rw[show A.in1.handled=none from hh];refine CU (CV (wpAny_throw ?_));refine CU (wpAny_isInstance (T:="StopIteration") (b:=true) ⟨_,Dy _ rfl,rfl⟩ isSubtype_stop (CV (hQ _ fun b u e=>?_)));exact Dx _ (Dx _ e)
theorem lT{I D Pl:Addr}{ps:List Nat}{i n ep:Nat}{es:Array (Int×Value)}{t:SetTable}{Q:Option Value->Shared->Prop}(hh:A.handled=none)(hI:s.heap.get? I=some (siO (.ref Pl) i D n ep))(hP:s.heap.get? Pl=some (seqObj "tuple" (ps.map fun i=>rawInt (i:Nat)).toArray 0))(ho:s.heap.get? D=some o)(hd:o.data=.set es ep t)(hf:t.fits es.size=true)(hn:es.size=n)(hi:ps[i]?=none)
  (hQ:∀h',(∀b u,b≠I->s.heap.get? b=some u->h'.get? b=some u)->Q none {s with heap:=h'}):wpAny (model prog w) A (pyNext (.ref I)) Q E s:=by
 have hT:s.TypeIs (.ref I) "set_iterator":=⟨_,hI,rfl⟩
 unfold pyNext;refine CU (DC (wpAny_callSpecial?_slot (name:=Str.ofString "__next__") hT Ej (DE Ej hT EO ?_ (gG _))));unfold Builtin.«set_iterator.__next__» setEntries;refine CU (CV ?_);refine CU (wpAny_fieldsOf hI rfl ?_);refine CU (CU (Dv ho hd hf (CV ?_)));dsimp only;rw[CZ (by rw[hn];simp)];have hpl:(ps.map fun i=>rawInt (i:Nat)).toArray[((i:Nat):Int).toNat]?=none:=by rw[AM,Bf,Ao,hi];rfl
 refine CU (wpAny_seqItems hP rfl ?_);dsimp only;rw[hpl];dsimp only;refine CU (wpAny_setField hI rfl (by simp) ?_);have h1:=Heap.get?_update_self (Obj.mapFields (·.setIfInBounds 0 (rawInt 0))) hI rfl;refine CU (wpAny_setField h1 rfl (by simp) ?_);refine iZ hh fun h' hk=>?_;refine hQ h' fun b u nb e=>hk b u ?_;exact(Heap.SameBut.update _ I _).extBut b u nb ((Heap.SameBut.update _ I _).extBut b u nb e)
theorem ja{I D:Addr}{i n ep slot nxt:Nat}{x:Value}{es:Array (Int×Value)}{t:SetTable}{Q:Option Value->Shared->Prop}(hI:s.heap.get? I=some (siO (rawInt (slot:Nat)) i D n ep))(ho:s.heap.get? D=some o)(hd:o.data=.set es ep t)(hf:t.fits es.size=true)(hn:es.size=n)
  (hx:∀(B:Around)(E':Value->Shared->Prop)(Q':Option (Value×Nat)->Shared->Prop),Q' (some (x,nxt)) s->wpAny (model prog w) B (setNext D slot i ep) Q' E' s)
  (hQ:∀h',Heap.SameBut I s.heap h'->h'.get? I=some (siO (rawInt (nxt:Nat)) (i+1) D n ep)->Q (some x) {s with heap:=h'}):wpAny (model prog w) A (pyNext (.ref I)) Q E s:=by
 have hT:s.TypeIs (.ref I) "set_iterator":=⟨_,hI,rfl⟩
 unfold pyNext;refine CU (DC (wpAny_callSpecial?_slot (name:=Str.ofString "__next__") hT Ej (DE Ej hT EO ?_ (gG _))));unfold Builtin.«set_iterator.__next__» setEntries;refine CU (CV ?_);refine CU (wpAny_fieldsOf hI rfl ?_);refine CU (CU (Dv ho hd hf (CV ?_)));dsimp only;rw[CZ (by rw[hn];simp)];show wpAny _ _ (setNext D ((slot:Nat):Int).toNat ((i:Nat):Int).toNat ((ep:Nat):Int).toNat >>= _) _ _ _;rw[AM,AM,AM];refine CU (hx _ _ _ ?_);dsimp only;refine CU (wpAny_setField hI rfl (by simp) ?_);have h1:=Heap.get?_update_self (Obj.mapFields (·.setIfInBounds 0 (rawInt (nxt:Nat)))) hI rfl;refine CU (wpAny_setField h1 rfl (by simp) ?_);refine CV ⟨_,rfl,CV (hQ _ ((Heap.SameBut.update ..).trans (Heap.SameBut.update ..)) ?_)⟩;exact Heap.get?_update_self (Obj.mapFields (·.setIfInBounds 1 (rawInt ((i:Nat)+1)))) h1 rfl
theorem jS{I D:Addr}{i n ep slot:Nat}{es:Array (Int×Value)}{t:SetTable}{Q:Option Value->Shared->Prop}(hh:A.handled=none)(hI:s.heap.get? I=some (siO (rawInt (slot:Nat)) i D n ep))(ho:s.heap.get? D=some o)(hd:o.data=.set es ep t)(hf:t.fits es.size=true)(hn:es.size=n)
  (hx:∀(B:Around)(E':Value->Shared->Prop)(Q':Option (Value×Nat)->Shared->Prop),Q' none s->wpAny (model prog w) B (setNext D slot i ep) Q' E' s)
  (hQ:∀h',(∀b u,b≠I->s.heap.get? b=some u->h'.get? b=some u)->Q none {s with heap:=h'}):wpAny (model prog w) A (pyNext (.ref I)) Q E s:=by
 have hT:s.TypeIs (.ref I) "set_iterator":=⟨_,hI,rfl⟩
 unfold pyNext;refine CU (DC (wpAny_callSpecial?_slot (name:=Str.ofString "__next__") hT Ej (DE Ej hT EO ?_ (gG _))));unfold Builtin.«set_iterator.__next__» setEntries;refine CU (CV ?_);refine CU (wpAny_fieldsOf hI rfl ?_);refine CU (CU (Dv ho hd hf (CV ?_)));dsimp only;rw[CZ (by rw[hn];simp)];show wpAny _ _ (setNext D ((slot:Nat):Int).toNat ((i:Nat):Int).toNat ((ep:Nat):Int).toNat >>= _) _ _ _;rw[AM,AM,AM];refine CU (hx _ _ _ ?_);dsimp only;refine CU (wpAny_setField hI rfl (by simp) ?_);exact iZ hh fun h' hk=>hQ h' fun b u nb e=>hk b u ((Heap.SameBut.update _ I _).extBut b u nb e)
theorem iU{D:Addr}{es:Array (Int×Value)}{t:SetTable}{ep slot i:Nat}{Q:Option (Value×Nat)->Shared->Prop}(hb:w.params.followText "set-order"=true)(ho:s.heap.get? D=some o)(hd:o.data=.set es ep t)(hf:t.fits es.size=true)
  (h:Q (((pickOrder (w.params.setOrder D ep) es)[i]?).map fun e=>(e.2,slot)) s):wpAny (model prog w) A (setNext D slot i ep) Q E s:=by
 unfold setNext setWalk setsByText;refine CU (Dv ho hd hf (CU (CU (wpAny_askSetting (CV ?_)))));dsimp only;rw[Dc (show(model prog w).w.params.followText "set-order"=true from hb),CZ (by simp)];refine CU (CU (Dv ho hd hf (CU (CU (wpAny_askSetting (CV ?_))))));dsimp only;rw[Dc (show(model prog w).w.params.followText "set-order"=true from hb)];refine CU (wpAny_askSetting (CV (CV ?_)));exact h
theorem jQ{D:Addr}{es:Array (Int×Value)}{t:SetTable}{ep ep' slot i:Nat}{Q:Option (Value×Nat)->Shared->Prop}(hb:w.params.followText "set-order"=false)(hl:t.led=true)(h1:es.size<=1)(ho:s.heap.get? D=some o)(hd:o.data=.set es ep t)(hf:t.fits es.size=true)
  (h:Q (match es[SetTable.below t.place slot]?,t.place[SetTable.below t.place slot]? with|some (_,x),some j=>some (x,j+1)|_,_=>none) s):wpAny (model prog w) A (setNext D slot i ep') Q E s:=by
 unfold setNext setsByText;refine CU (Dv ho hd hf (CU (CU (wpAny_askSetting (CV ?_)))));dsimp only;rw[CZ (show ¬(model prog w).w.params.followText "set-order"=true from fun q=>by rw[show(model prog w).w.params.followText "set-order"=false from hb] at q;cases q)];split
 ·rename_i q;have q':(!t.plain&&decide (es.size>1))=true:=q;rw[AG,decide_eq_true_eq] at q';exact absurd q'.2 (by lia)
 ·refine CU (show wpAny (model prog w) A (if (!t.led && !es.isEmpty)=true then unsupported "set:maker-not-led" else pure ()) _ E s from ?_);rw[hl];exact CV (CV h)
theorem lK{α:Type}(next:Nat->Nat):∀(fuel k:Nat)(left:List α)(out:Array α),left.length=fuel->(pickOrder.go next fuel k left out).toList.Perm (out.toList++left)
 |0,k,left,out,h=>by
  rw[AR.mp h,AA];exact .refl _
 |fuel+1,k,left,out,h=>by
  have hi:next k % left.length<left.length:=Nat.mod_lt _ (by lia);unfold pickOrder.go;rw[Ac hi];refine(lK next fuel (k+1) (left.eraseIdx _) (out.push _) (by rw[CP hi,h];rfl)).trans ?_;rw[Array.toList_push,AF];exact(List.Perm.refl _).append (eI _ _ hi)
theorem fH{α:Type}(next:Nat->Nat)(xs:Array α):(pickOrder next xs).toList.Perm xs.toList:=by
 have:=lK next xs.size 0 xs.toList #[] (by rw[AD]);exact this
end
theorem Gk:Slot "set_iterator" "__iter__" "set_iterator.__iter__":=.of (owner:="set_iterator") (n:="__iter__") (by rw[typeLookup_type,builtinLookup_eq_fast];kernel_rfl) (by decide +kernel) (by decide +kernel) (by decide +kernel) (by first|exact .inl (by decide +kernel)|exact .inr (by decide +kernel)) (by rw[isSubtype_type];kernel_rfl)
theorem qd(a:Value):argsOk "set_iterator.__iter__" ⟨[a],[]⟩:=by unfold argsOk;kernel_rfl
section
variable {prog:Program}{w:World}{A:Around}{E:Value->Shared->Prop}{s:Shared}{o:Obj}{I D Pl:Addr}{ps:List Nat}{n ep:Nat}{es:Array (Int×Value)}{t:SetTable}
theorem kP(hh:A.handled=none)(nD:D≠I)(nP:Pl≠I)(hd:o.data=.set es ep t)(hf:t.fits es.size=true)(hn:es.size=n)(hp:ps.Perm (List.range n))(self:∀(i:Nat)(s:Shared)(Q:Value->Shared->Prop)(E:Value->Shared->Prop),s.heap.get? I=some (siO (.ref Pl) i D n ep)->Q (.ref I) s->wpAny (model prog w) A (pyIter (.ref I)) Q E s) :
  WalksS prog w A I [I,D,Pl] [I] (fun a b=>b=a) n (fun i v=>∃p e,ps[i]?=some p/\es[p]?=some e/\v=e.2) (fun i s=>s.heap.get? I=some (siO (.ref Pl) i D n ep)/\s.heap.get? D=some o/\s.heap.get? Pl=some (seqObj "tuple" (ps.map fun i=>rawInt (i:Nat)).toArray 0)) where
 sub:=fun b hb=>by rw[zY.mp hb];exact zX
 grefl:=fun _=>rfl
 gtrans:=fun a b c h1 h2=>h2.trans h1
 frame:=fun _ _ _ _ st _ hk=>⟨hk I (by simp) _ st.1,hk D (by simp) _ st.2.1,hk Pl (by simp) _ st.2.2⟩
 item:=fun i s Q E hi st hQ=>by
  have hl:ps.length=n:=by rw[hp.length_eq,Br]
  have hi':i<ps.length:=by lia
  have hm:ps[i]<n:=AY.mp (hp.mem_iff.mp (Ay hi'));have e1:ps[i]?=some ps[i]:=Ac hi';have e2:es[ps[i]]?=some es[ps[i]]:=Bq (by lia);refine lg st.1 st.2.2 st.2.1 hd hf hn e1 e2 fun h' hs' hI'=>?_;exact hQ _ {s with heap:=h'} ⟨_,_,e1,e2,rfl⟩ ⟨hI',hs'.extBut _ _ nD st.2.1,hs'.extBut _ _ nP st.2.2⟩ ⟨fun b u hb e=>hs'.extBut b u (fun q=>hb (by simp[q])) e,rfl,rfl,rfl,zU _⟩
 done:=fun s Q E st hQ=>lT hh st.1 st.2.2 st.2.1 hd hf hn (BJ (by rw[hp.length_eq,Br];exact zU _)) fun h' hk=>hQ {s with heap:=h'} ⟨fun b u hb e=>hk b u (fun q=>hb (by simp[q])) e,rfl,rfl,rfl,zU _⟩
 self:=fun i s Q E st hQ=>self i s Q E st.1 hQ
theorem GP:entryFor table "set_iterator.__iter__"=some Builtin.«dict_keyiterator.__iter__»:=entryFor_alias (id':="dict_keyiterator.__iter__") (by kernel_rfl) rfl (by decide +kernel) (by kernel_rfl)
theorem jg{f:Value}{i:Nat}{Q:Value->Shared->Prop}(hI:s.heap.get? I=some (siO f i D n ep))(h:Q (.ref I) s):wpAny (model prog w) A (pyIter (.ref I)) Q E s:=by
 have hT:s.TypeIs (.ref I) "set_iterator":=⟨_,hI,rfl⟩
 refine wpAny_pyIter_slot hT Gk (DE Gk hT GP (show wpAny _ _ (ret (.ref I)) _ _ s from CV ⟨_,rfl,"set_iterator",_,hT,Ej.lookup,h⟩) (qd _))
theorem lH(hh:A.handled=none)(nD:D≠I)(hb:w.params.followText "set-order"=true)(hd:o.data=.set es ep t)(hf:t.fits es.size=true)(hn:es.size=n) :
  WalksS prog w A I [I,D] [I] (fun a b=>b=a) n (fun i v=>∃e,(pickOrder (w.params.setOrder D ep) es)[i]?=some e/\v=e.2) (fun i s=>s.heap.get? I=some (siO (rawInt ((0:Nat):Int)) i D n ep)/\s.heap.get? D=some o) where
 sub:=fun b hb=>by rw[zY.mp hb];exact zX
 grefl:=fun _=>rfl
 gtrans:=fun a b c h1 h2=>h2.trans h1
 frame:=fun _ _ _ _ st _ hk=>⟨hk I (by simp) _ st.1,hk D (by simp) _ st.2⟩
 item:=fun i s Q E hi st hQ=>by
  have hl:(pickOrder (w.params.setOrder D ep) es).size=n:=by rw[<- AD,(fH _ _).length_eq,AD,hn]
  have e1:(pickOrder (w.params.setOrder D ep) es)[i]?=some (pickOrder (w.params.setOrder D ep) es)[i]:=Bq (by lia);refine ja (nxt:=0) st.1 st.2 hd hf hn (fun B E' Q' q=>iU hb st.2 hd hf (by rw[e1];exact q)) fun h' hs' hI'=>?_;exact hQ _ {s with heap:=h'} ⟨_,e1,rfl⟩ ⟨hI',hs'.extBut _ _ nD st.2⟩ ⟨fun b u hb e=>hs'.extBut b u (fun q=>hb (by simp[q])) e,rfl,rfl,rfl,zU _⟩
 done:=fun s Q E st hQ=>jS hh st.1 st.2 hd hf hn (fun B E' Q' q=>iU hb st.2 hd hf (by
  rw[Cz (by rw[<- AD,(fH _ _).length_eq,AD,hn]; exact zU _)]; exact q)) fun h' hk=>hQ { s with heap:=h' } ⟨fun b u hb e=>hk b u (fun q=>hb (by simp [q])) e,rfl,rfl,rfl,zU _⟩
 self:=fun i s Q E st hQ=>jg st.1 hQ
theorem iJ(pl:Array Nat)(h:pl.size<=1):SetTable.below pl 0=0/\∀j,pl[0]?=some j->SetTable.below pl (j+1)=1:=by
 obtain⟨l⟩:=pl
 match l,h with
 |[],_=>exact⟨rfl,fun j e=>by cases e⟩
 |[j],_=>
  refine⟨by simp[SetTable.below,SetTable.below.go],fun k e=>?_⟩;have:k=j:=by simpa using e.symm
  subst this;simp[SetTable.below,SetTable.below.go]
theorem pV(hh:A.handled=none)(nD:D≠I)(hb:w.params.followText "set-order"=false)(hl:t.led=true)(h1:es.size<=1)(hd:o.data=.set es ep t)(hf:t.fits es.size=true)(hn:es.size=n) :
  WalksS prog w A I [I,D] [I] (fun a b=>b=a) n (fun i v=>∃e,es[i]?=some e/\v=e.2) (fun i s=>(∃slot:Nat,s.heap.get? I=some (siO (rawInt (slot:Nat)) i D n ep)/\SetTable.below t.place slot=i)/\s.heap.get? D=some o) where
 sub:=fun b hb=>by rw[zY.mp hb];exact zX
 grefl:=fun _=>rfl
 gtrans:=fun a b c h1 h2=>h2.trans h1
 frame:=fun _ _ _ _ st _ hk=>by
  obtain⟨⟨sl,h1,h2⟩,h3⟩:=st;exact⟨⟨sl,hk I (by simp) _ h1,h2⟩,hk D (by simp) _ h3⟩
 item:=fun i s Q E hi st hQ=>by
  obtain⟨⟨sl,hI,hbl⟩,hD⟩:=st;have hps:t.place.size=es.size:=by
   have:=hf;unfold SetTable.fits at this;rw[AG,DI] at this;exact this.1
  have i0:i=0:=by lia
  subst i0;have e1:es[0]?=some es[0]:=Bq (by lia);have e2:t.place[0]?=some t.place[0]:=Bq (by lia);refine ja (nxt:=t.place[0]+1) hI hD hd hf hn (fun B E' Q' q=>jQ hb hl h1 hD hd hf (by rw[hbl,e1,e2];exact q)) fun h' hs' hI'=>?_;exact hQ _ {s with heap:=h'} ⟨_,e1,rfl⟩ ⟨⟨_,hI',(iJ t.place (by lia)).2 _ e2⟩,hs'.extBut _ _ nD hD⟩ ⟨fun b u hb e=>hs'.extBut b u (fun q=>hb (by simp[q])) e,rfl,rfl,rfl,zU _⟩
 done:=fun s Q E st hQ=>by
  obtain⟨⟨sl,hI,hbl⟩,hD⟩:=st;refine jS hh hI hD hd hf hn (fun B E' Q' q=>jQ hb hl h1 hD hd hf ?_) fun h' hk=>hQ {s with heap:=h'} ⟨fun b u hb e=>hk b u (fun q=>hb (by simp[q])) e,rfl,rfl,rfl,zU _⟩;rw[hbl,Cz (by lia)];exact q
 self:=fun i s Q E st hQ=>by
  obtain⟨⟨sl,hI,hbl⟩,hD⟩:=st;exact jg hI hQ
end
section
variable {prog:Program}{w:World}{A B:Around}{E:Value->Shared->Prop}{s:Shared}{o:Obj}{D:Addr}{ys:List Str}
theorem gX{P:Nat->Value->Prop}{acc:Array Value}{n:Nat}{vs:List Value}(h:ItemsOf P acc n)(hl:vs.length=n)(hP:∀j v,P j v->vs[j]?=some v):acc.toList=vs:=by
 refine CA fun j=>?_;by_cases hj:j<n
 ·have hj':j<acc.size:=by rw[h.1];exact hj
  have e:acc[j]?=some (acc[j]'hj'):=Bq hj';rw[AO,e,hP j _ (h.2 j _ e)]
 ·rw[BJ (by rw[AD,h.1];lia),BJ (by lia)]
theorem qO{es:List (Int×Value)}(hel:ElemsOf (strKind prog w) es){vs:List Value}(hp:vs.Perm (es.map (·.2))):∀v∈vs,∃x t,v=.str x t:=fun v hv=>by
 obtain⟨e,he,rfl⟩:=Ae.mp (hp.mem_iff.mp hv);exact qw hel he
theorem mn{Q:Value->Shared->Prop}(hh:B.handled=none)(ho:s.heap.get? D=some o)(hS:FR prog w (eU w) o ys)(hb:(ddS ys).length<scanBound)
  (hQ:∀(I n:Nat)(fp:List Addr)(P:Nat->Value->Prop)(St:Nat->Shared->Prop)(s1:Shared),n<=sizeLine->WalksS prog w B I fp [I] (fun a b=>b=a) n P St->St 0 s1->s.heap.objs.size<=I->(∀b∈fp,b=D\/s.heap.objs.size<=b)->(∀b u,s.heap.get? b=some u->s1.heap.get? b=some u)->s1.gens=s.gens->s1.os=s.os->(∀acc:Array Value,ItemsOf P acc n->(acc.toList.map strOf).Perm (ddS ys)/\∀v∈acc.toList,∃x t,v=.str x t)->Q (.ref I) s1) :
  wpAny (model prog w) A (pyIter (.ref D)) Q E s:=by
 obtain⟨hex,es,ep,t,hd,hel,hp,hf,hl,hpl⟩:=hS;have hz:es.size<=sizeLine:=fits_of_scanBound (by rw[<- AD,<- zV (f:=fun e=>strOf e.2),hp.length_eq];exact hb);have hlt:=Di ho;have told:∀vs:List Value,vs.Perm (es.toList.map (·.2))->(vs.map strOf).Perm (ddS ys)/\∀v∈vs,∃x t,v=.str x t:=fun vs hv=>⟨((hv.map strOf).trans (by rw[AJ];exact .refl _)).trans hp,qO hel hv⟩
 refine oy ho hex hd hf hz (fun hc=>?_) (fun h1 h2 h3 ps d hps=>?_)
 ·have g1:(s.heap.push (siO (rawInt 0) 0 D es.size ep)).get? s.heap.objs.size=some (siO (rawInt 0) 0 D es.size ep):=Dy _ rfl;have g2:(s.heap.push (siO (rawInt 0) 0 D es.size ep)).get? D=some o:=Dx _ ho;have nD:D≠s.heap.objs.size:=fun e=>absurd hlt (by rw[<- e];exact AC _);have hfp:∀b∈[s.heap.objs.size,D],b=D\/s.heap.objs.size<=b:=fun b hb=>by
   simp only[Ad,AN,or_false] at hb;rcases hb with rfl|rfl
   ·exact .inr (zU _)
   ·exact .inl rfl
  by_cases hbt:w.params.followText "set-order"=true
  ·refine hQ _ es.size _ _ _ _ hz (lH hh nD hbt hd hf rfl) ⟨g1,g2⟩ (zU _) hfp (fun b u e=>Dx _ e) rfl rfl fun acc ha=>?_;have:=fH (w.params.setOrder D ep) es;rw[gX (vs:=(pickOrder (w.params.setOrder D ep) es).toList.map (·.2)) ha (by rw[zV,this.length_eq,AD]) (fun j v ⟨e,h1,h2⟩=>by rw[Ao,AO,h1,h2];rfl)];exact told _ (this.map _)
  ·have hbf:w.params.followText "set-order"=false:=Bs.mpr hbt;have h1:es.size<=1:=by
    rcases hc with h|h|h
    ·exact absurd h hbt
    ·refine Cq fun q=>?_;rw[hpl (by lia)] at h;cases h
    ·exact h
   refine hQ _ es.size _ _ _ _ hz (pV hh nD hbf (by rw[hl];unfold eU;rw[hbf];rfl) h1 hd hf rfl) ⟨⟨0,g1,?_⟩,g2⟩ (zU _) hfp (fun b u e=>Dx _ e) rfl rfl fun acc ha=>?_
   ·refine(iJ t.place ?_).1;have:=hf;unfold SetTable.fits at this;rw[AG,DI] at this;rw[this.1];exact h1
   ·rw[gX (vs:=es.toList.map (·.2)) ha (by rw[zV,AD]) (fun j v ⟨e,h1,h2⟩=>by rw[Ao,AO,h1,h2];rfl)];exact told _ (.refl _)
 ·generalize hH1:s.heap.push (seqObj "tuple" (ps.map fun i=>rawInt (i:Nat)).toArray 0)=hp1;have z1:hp1.objs.size=s.heap.objs.size+1:=by rw[<- hH1,DG]
  have k1:∀b u,s.heap.get? b=some u->hp1.get? b=some u:=fun b u e=>by rw[<- hH1];exact Dx _ e
  have gP:hp1.get? s.heap.objs.size=some (seqObj "tuple" (ps.map fun i=>rawInt (i:Nat)).toArray 0):=by rw[<- hH1];exact Dy _ rfl
  have g1:(hp1.push (siO (.ref s.heap.objs.size) 0 D es.size ep)).get? (s.heap.objs.size+1)=some (siO (.ref s.heap.objs.size) 0 D es.size ep):=by rw[<- z1];exact Dy _ rfl
  refine hQ _ es.size _ _ _ _ hz (kP (I:=s.heap.objs.size+1) (Pl:=s.heap.objs.size) hh (fun e=>absurd hlt (by rw[e];exact Nat.not_lt.mpr (AH _))) (Aa (AI _)) hd hf rfl hps fun i s Q E h q=>jg h q) ⟨g1,Dx _ (k1 _ _ ho),Dx _ gP⟩ (AH _) (fun b hb=>?_) (fun b u e=>Dx _ (k1 b u e)) rfl rfl fun acc ha=>?_
  ·simp only[Ad,AN,or_false] at hb;rcases hb with rfl|rfl|rfl
   ·exact .inr (AH _)
   ·exact .inl rfl
   ·exact .inr (zU _)
  ·rw[gX (vs:=ps.map fun p=>(es.toList.getD p (0,.none)).2) ha (by rw[zV,hps.length_eq,Br]) (fun j v hq79=>by
    obtain⟨p,e,h1,h2,h3⟩:=hq79;rw[Ao,h1,h3];show some (es.toList.getD p (0,.none)).2=_
    rw[Am,AO,h2]; rfl)]
   refine told _ ((hps.map _).trans ?_);have:(List.range es.size).map (fun p=>(es.toList.getD p (0,.none)).2)=es.toList.map (·.2):=by
    refine CA fun j=>?_;rw[Ao,Ao];by_cases hj:j<es.size
    ·rw[List.getElem?_range hj];show some (es.toList.getD j (0,.none)).2=_;rw[Am,AO,Bq hj];rfl
    ·rw[BJ (by rw[Br];lia),AO,Cz (by lia)];rfl
   rw[this]
end
theorem HG:splitId "set.__len__"=some ("set","__len__"):=by kernel_rfl
section
variable {prog:Program}{w:World}{A:Around}{E:Value->Shared->Prop}{s:Shared}{o:Obj}{D:Addr}
theorem oQ{Q:Bool->Shared->Prop}(hT:s.TypeIs (.ref D) "set")(h:Q false s):wpAny (model prog w) A (Builtin.List.listLengthHint (.ref D)) Q E s:=by
 unfold Builtin.List.listLengthHint;refine CU (wpAny_specialOf hT F.slot_set_len.lookup ?_);dsimp only;rw[HG];dsimp only;refine CU (wpAny_isInstance hT sub_set_self ?_);refine wpAny_ite ?_;rw[CZ (show ¬(!true)=true from Ax)];refine wpAny_ite ?_;rw[Dc]
 ·exact CU (wpAny_typeOf hT (CV h))
 ·kernel_rfl
theorem jo{ys:List Str}{Q:List Value->Shared->Prop}(hh:A.handled=none)(ho:s.heap.get? D=some o)(hS:FR prog w (eU w) o ys)(hb:(ddS ys).length<scanBound)
  (hQ:∀s' vs,(∀b u,s.heap.get? b=some u->s'.heap.get? b=some u)->s.heap.objs.size<=s'.heap.objs.size->s'.gens=s.gens->s'.os=s.os->(vs.map strOf).Perm (ddS ys)->(∀v∈vs,∃x t,v=.str x t)->Q vs s'):wpAny (model prog w) A (collect (.ref D)) Q E s:=by
 have hex:=hS.1;have hT:∀h' tk d,(∀b u,s.heap.get? b=some u->h'.get? b=some u)->({s with heap:=h',toks:=tk,drawn:=d}:Shared).TypeIs (.ref D) "set":=fun h' tk d hk=>⟨o,hk _ _ ho,hex.1⟩
 unfold collect;refine CU (wpAny_runValue (codeAny_builtin F.entry_proto_collect ?_));rw[Around.under_plainId F.plain_proto_collect _];show wpAny _ A.in1 (newList [] >>= fun l=>again (.builtin "list.__iadd__" ⟨[l,.ref D],[]⟩)) _ _ s;refine CU (wpAny_newObj_type (CV ⟨plainId_quiet F.plain_list_iadd _,codeAny_builtin F.entry_list_iadd ?_⟩));rw[Around.under_plainId F.plain_list_iadd _];show wpAny _ A.in1 (Builtin.List.listExtendWith (.ref s.heap.objs.size) (.ref D) (.ref s.heap.objs.size)) _ _ _;unfold Builtin.List.listExtendWith;have k1:∀b u,s.heap.get? b=some u->(s.heap.push {cls:=.type "list",data:=.seq ([]:List Value).toArray}).get? b=some u:=fun b u e=>Dx _ e;refine CU (wpAny_typeOf (hT _ _ _ k1) ?_);have hSD:s.heap.objs.size≠D:=fun e=>absurd (Di ho) (by rw[e];exact AC _);have h1:Builtin.List.listSameRef (.ref s.heap.objs.size) (.ref D)=false:=by simp[Builtin.List.listSameRef,hSD]
 have h2:(Value.type "set" == Value.type "list")=false:=by decide
 have h3:(Value.type "set" == Value.type "tuple")=false:=by decide
 simp only[h1,h2,h3,Bool.or_false,Bx,if_false];generalize hH1:s.heap.push {cls:=.type "list",data:=.seq ([]:List Value).toArray}=h1' at k1 ⊢;have hS1:h1'.get? s.heap.objs.size=some {cls:=.type "list",data:=.seq ([]:List Value).toArray}:=by rw[<- hH1];exact Dy _ rfl
 have hz1:h1'.objs.size=s.heap.objs.size+1:=by rw[<- hH1,DG]
 refine CU (mn (B:=A.in1) (s:={s with heap:=h1'}) hh (k1 _ _ ho) hS hb fun I n fp P St s1 hn W st0 hI hfp hk hg hos hacc=>?_);have hSf:s.heap.objs.size∉fp:=fun hm=>by
  rcases hfp _ hm with e|e
  ·exact hSD e
  ·rw[show({s with heap:=h1'}:Shared).heap.objs.size=s.heap.objs.size+1 from hz1] at e;exact absurd e (Nat.not_le.mpr (AI _))
 refine CU (Dg (oQ ⟨o,hk _ _ (k1 _ _ ho),hex.1⟩ (wpAny_ite ?_)));rw[Dc]
 ·have g1:=hk _ _ hS1;have g2:=Heap.get?_update_self (Obj.mapSeq (·.push Value.none)) g1 rfl;have g3:=Heap.get?_update_self (Obj.mapSeq (·.pop)) g2 rfl;refine CU (DH (CU (show wpAny _ A.in1 (updateSeq s.heap.objs.size (·.push .none) >>= fun _=>updateSeq s.heap.objs.size (·.pop)) _ _ _ from CU (wpAny_updateSeq g1 rfl (wpAny_updateSeq g2 rfl ?_)))));refine CV ⟨plainId_quiet F.plain_extend_loop _,codeAny_extend_loopS W hn _ hSf _ n 0 _ _ _ rfl (Ag _) (W.frame 0 s1 _ s1.toks st0 (zU _) fun b hb u e=>?_) g3 (ItemsOf.nil P) fun s' acc c' hm hS' ha=>?_⟩
  ·have nb:s.heap.objs.size≠b:=fun q=>hSf (by rw[q];exact hb);exact(Heap.get?_update_other _ _ nb).trans ((Heap.get?_update_other _ _ nb).trans e)
  ·obtain⟨a1,a2⟩:=hacc acc ha;refine CU (wpAny_load hS' (CV (hQ s' acc.toList (fun b u e=>?_) (AS (Di hS')) ?_ ?_ a1 a2)))
   ·have hlt:b<s.heap.objs.size:=Di e;have nb:s.heap.objs.size≠b:=Dw (Aa hlt);refine hm.heap b u (fun q=>?_) ((Heap.get?_update_other _ _ nb).trans ((Heap.get?_update_other _ _ nb).trans (hk b u (k1 b u e))));rcases Ad.mp q with q|q
    ·exact nb q.symm
    ·rw[zY.mp q] at hlt;have:s.heap.objs.size+1<=I:=by rw[<- hz1];exact hI
     exact absurd hlt (Nat.not_lt.mpr (Nat.le_of_succ_le this))
   ·exact hm.gens.trans hg
   ·exact hm.os.trans hos
 ·kernel_rfl
end
section
variable {prog:Program}{w:World}{A:Around}{E:Value->Shared->Prop}{s:Shared}{o:Obj}{D:Addr}{ys:List Str}
theorem kW{Q:Value->Shared->Prop}(hh:A.handled=none)(ho:s.heap.get? D=some o)(hS:FR prog w (eU w) o ys)(h64:(ddS ys).length<64)
  (hQ:∀s' l zs out e,(∀b u,s.heap.get? b=some u->s'.heap.get? b=some u)->s'.gens=s.gens->s'.os=s.os->zs.Perm (ddS ys)->sortedS zs=true->s.heap.objs.size<=l->s'.heap.get? l=some (seqObj "list" out e)->StrsAre out.toList zs->Q (.ref l) s') :
  wpAny (model prog w) A (call (.builtin "sorted") [.ref D]) Q E s:=by
 refine Calls.call_function_entry kind_sorted plain_sorted entry_sorted (args_sorted1 _) ?_;unfold Builtin.«sorted»;refine CU (m:=checkCount "sorted" 1 1 _) (CV (CU (jo hh ho hS (Bu h64 (by decide)) fun s1 vs hk hle hg hos hp ha=>?_)));have hst:=strsAre_map vs ha;have hl:vs.length=(ddS ys).length:=by rw[<- hp.length_eq,zV]
 have hoL:(s1.heap.push (seqObj "list" vs.toArray 0)).get? s1.heap.objs.size=some (seqObj "list" vs.toArray 0):=Dy _ rfl;refine CU (wpAny_newList ?_);refine CU (Dg (DE slot_list_sort ⟨_,hoL,rfl⟩ entry_list_sort (list_sort_treeK strKind_oneLt hoL hst.keysOf (fun v₁ v₂ rest e=>keyKind_strs (by rw[<- e];exact hst)) (by lia) fun st' a1 a2=>⟨_,rfl,?_⟩) (args_list_sort _)));obtain⟨ss',b1,b2,b3⟩:=sorted_out_str hst a1 a2;obtain⟨e,he⟩:=sortedHeap_at (out:=(arrOf st').map (·.2)) hoL;refine CV ⟨_,rfl,hQ _ _ ss' _ e (fun b u q=>?_) hg hos (b2.trans hp) b3 hle he b1⟩;have q1:=hk b u q;have lt1:=Di q1;exact(sortedHeap_old (Aa lt1) (by rw[DG];exact AW lt1)).trans (Dx _ q1)
end
section
variable {X:Cx}{x:Str}{p pos:Pos}{e:Expr}{t:Hj}
def qa (t:Hj):TE:=fun σ H Q=>t σ H fun ys H1=>(ddS ys).length<64/\∀l zs,zs.Perm (ddS ys)->sortedS zs=true->H1 l=none->Q (.ref l) (upd H1 l (.lst (zs.map V.str)))
theorem kS(hc:X.A.handled=none)(he:uk X e t)(hg:Gl X "sorted")(hm:X.mg "sorted"=none)(hv:bootBuiltins "sorted"=some (.builtin "sorted"))(hs:starEach [e] X.env=(false,eval e X.env)::starEach [] X.env:=by rfl):PE X (.Call (.Name "sorted" p) [e] [] pos) (qa t):=by
 intro pins s σ H Q I h;refine wpAny_Call_Name_kw (dv I hg hm hv ?_ (by decide) (by decide));refine PyProof.Rows.callWith_builtin1 ?_ hs rfl;rw[hs];refine Calls.spliced_cons (thn (he pins s σ H _ I h) fun v s1 z=>?_);obtain⟨D,o,ys,H1,rfl,I1,ho,hS,hb,h64,q⟩:=z;refine Calls.spliced_nil ?_;refine kW hc ho hS h64 fun s' l zs out ep hk hg' hos hp hso hle hl hst=>?_;have I2:Inv X pins σ (upd H1 l (.lst (zs.map V.str))) {s1 with heap:=s'.heap,toks:=s'.toks}:=I1.laid hk hle ⟨by rw[zV,hp.length_eq];have:=sizeLine_eq;lia,out.toList,ep,Hm hst,by rw[Cy];exact hl⟩;have e3:s'={s1 with heap:=s'.heap,toks:=s'.toks,drawn:=s'.drawn}:=by
  obtain⟨a1,a2,a3,a4,a5⟩:=s';cases hg';cases hos;rfl
 rw[e3];exact⟨.ref l,_,⟨I2.ok,I2.os,I2.bare,I2.base,I2.loc,I2.cell,I2.free,I2.Es,I2.pin,I2.hok,I2.len⟩,rfl,q l zs hp hso (I1.hok.fresh hle)⟩
end
end L2
namespace SH
open PySem PySem.Spec PyProof.Rows SeqAt
theorem TupAt.eq{h:Heap}{v:Value}{a b:List Int}(x:TupAt h v a)(y:TupAt h v b):a=b:=by
 obtain⟨t,o,us,e,rfl,ho,_,hd,iu⟩:=x;obtain⟨t2,o2,us2,e2,q,ho2,_,hd2,iu2⟩:=y;cases q;rw[ho] at ho2;cases ho2;rw[hd] at hd2;injection hd2 with q _;have q:us=us2:=List.toArray_inj q;subst q;rw[<- iu.nums,<- iu2.nums]
noncomputable def cm(h:Heap)(L:Nat):KeyKind where
 α:=List Int
 blt:=fun a b=>decide (a<b)
 irrefl:=fun a=>De (List.lt_irrefl a)
 trans:=fun a b c h1 h2=>Dd (List.lt_trans (Dh h1) (Dh h2))
 negTrans:=fun a b c h1=>by
  by_cases q:a<b
  ·exact .inl (Dd q)
  ·refine .inr (Dd ?_);have h1:=Dh h1;have q:b<=a:=List.not_lt.mp q;exact List.lt_of_le_of_lt q h1
 total:=fun a b h1 h2=>CB (List.not_lt.mp (of_decide_eq_false h2)) (List.not_lt.mp (of_decide_eq_false h1))
 keyOf:=fun v=>by
  classical
  exact if q:∃ns,TupAt h v ns/\ns.length=L then some q.choose else none
 dflt:=[]
theorem kn{h:Heap}{L:Nat}{v:Value}{a:List Int}(e:(cm h L).keyOf v=some a):TupAt h v a/\a.length=L:=by
 unfold cm at e;dsimp only at e;split at e
 ·rename_i q;have:=q.choose_spec;rw[Dj e] at this;exact this
 ·cases e
theorem gz{h:Heap}{L:Nat}{v:Value}{a:List Int}(x:TupAt h v a)(l:a.length=L):(cm h L).keyOf v=some a:=by
 unfold cm;dsimp only;split
 ·rename_i q;rw[(q.choose_spec.1).eq x]
 ·rename_i q;exact absurd ⟨a,x,l⟩ q
section
variable {prog:Program}{w:World}{A:Around}{E:Value->Shared->Prop}{s:Shared}
theorem pD{L:Nat}:LtK prog w (cm s.heap L) (tuples' true) s:=fun A E x y a b Q ha hb q=>by
 obtain⟨x1,x2⟩:=kn ha;obtain⟨y1,y2⟩:=kn hb;exact oP x1 y1 (x2.trans y2.symm) q
theorem gj{L:Nat}(hL:1<=L){a:Addr}{vs:List Value}{n:Nat}{P:PySem.Fin->Shared->Prop}(ho:s.heap.get? a=some (seqObj "list" vs.toArray n))(hv:∀v∈vs,∃ns,TupAt s.heap v ns/\ns.length=L)(h64:vs.length<64)
  (h:∀xs:Array Keyed,xs.Perm (pairsOf vs)->(∀(i j:Nat)(p q:Keyed),i<=j->xs[i]?=some p->xs[j]?=some q->∀a b,TupAt s.heap p.1 a->TupAt s.heap q.1 b->¬b<a)->P (.done (.ret .none)) {s with heap:=sortedHeap s.heap a vs (xs.map (·.2))}):wpAny (model prog w) A (Builtin.«list.sort» ⟨[.ref a],[]⟩) P E s:=by
 rw[list_sort_plain];have ha:a<s.heap.objs.size:=Di ho;have hz:vs.length<=sizeLine:=by rw[sizeLine_eq];lia
 refine CU (listItems_at ho rfl (CU (listUpdate_at ho rfl ?_)));obtain⟨e1,ho1⟩:∃e1,(s.heap.update a (Obj.mapSeq fun _=>#[])).get? a=some (seqObj "list" #[] e1):=⟨_,get?_update_seq ho (fun _=>#[])⟩
 refine CU (seqEpoch_at ho1 rfl (CU (wpAny_newTuple (CU (wpAny_newList (Dg ?_))) (by show vs.toArray.size<=sizeLine;rw[Aj];exact hz))));have oth:∀b o,b≠a->s.heap.get? b=some o->(((s.heap.update a (Obj.mapSeq fun _=>#[])).push (seqObj "tuple" vs.toArray 0)).push (seqObj "list" #[] 0)).get? b=some o:=fun b o hne hb=>by
  have hlt:=Di hb;rw[Heap.get?_push_ne _ _ _ (by rw[size_push',Heap.size_update];exact Aa (AW hlt)),Heap.get?_push_ne _ _ _ (by rw[Heap.size_update];exact Aa hlt),Heap.get?_update_ne _ _ _ _ hne];exact hb
 have ho6:(((s.heap.update a (Obj.mapSeq fun _=>#[])).push (seqObj "tuple" vs.toArray 0)).push (seqObj "list" #[] 0)).get? a=some (seqObj "list" #[] e1):=by rw[Heap.get?_push_ne _ _ _ (by rw[size_push',Heap.size_update];exact Aa (AW ha)),Heap.get?_push_ne _ _ _ (by rw[Heap.size_update];exact Aa ha)];exact ho1
 show wpAny (model prog w) A _ P E {s with heap:=((s.heap.update a (Obj.mapSeq fun _=>#[])).push (seqObj "tuple" vs.toArray 0)).push (seqObj "list" #[] 0)};dsimp only;generalize eh:((s.heap.update a (Obj.mapSeq fun _=>#[])).push (seqObj "tuple" vs.toArray 0)).push (seqObj "list" #[] 0)=h6 at oth ho6 ⊢;have up:∀v ns,TupAt s.heap v ns->TupAt h6 v ns:=fun v ns x=>by
  obtain⟨t,o,us,e,rfl,hto,hc,hd,iu⟩:=x;refine⟨t,o,us,e,rfl,oth t o (fun q=>?_) hto,hc,hd,iu⟩;rw[q,ho] at hto;cases hto;exact absurd (show Value.type "list"=Value.type "tuple" from hc) (by decide)
 have hv6:∀v∈vs,∃ns,TupAt h6 v ns/\ns.length=L:=fun v hm=>(hv v hm).elim fun ns z=>⟨ns,up v ns z.1,z.2⟩
 have hk:KeysOf (cm h6 L) (pairsOf vs):=fun p hp=>by
  rw[pairsOf_toList] at hp;obtain⟨_,hm⟩:=mem_zip_self hp;obtain⟨ns,z1,z2⟩:=hv6 _ hm;exact⟨ns,gz z1 z2⟩
 have hsz:vs.toArray.size=vs.length:=by simp
 by_cases h2:vs.toArray.size<2
 ·rw[Dc h2,Dc h2];refine CU (CV ?_);rw[StateT.run_pure];refine CU (CV ?_);dsimp only;refine CU (seqEpoch_at ho6 rfl (CU (listUpdate_at ho6 rfl ?_ (hsz2:=by rw[Array.size_map];show(pairsOf vs).size<=_;rw[pairsOf_size];exact Bj hz))));simp only[bne_self_eq_false,Bx,if_false];have:=h (pairsOf vs) (Array.Perm.refl _) fun i j p q hij e1 e2 a b x y=>by
   have l1:=(By.mp e1).1;have l2:=(By.mp e2).1;rw[pairsOf_size] at l1 l2;have:i=j:=by lia
   subst this;rw[e1] at e2;cases e2;rw[x.eq y];exact List.lt_irrefl _
  refine CV ?_;unfold sortedHeap at this;rw[eh] at this;exact this
 ·rw[CZ h2,CZ h2];refine CU (mW (s:={s with heap:=h6}) (fun v hm=>(hv6 v hm).elim fun ns z=>⟨ns,z.1,fun q=>by rw[q] at z;exact absurd z.2 (by intro q;have:0=L:=q;lia)⟩) (fun q=>by rw[q] at h2;exact h2 (by decide)) ?_);refine CU (Df (jD (κ:=cm h6 L) (kd:=tuples' true) (pD (s:={s with heap:=h6})) (a₀:=pairsOf vs) (st:=SortSt.mk' (tuples' true) (vs.toArray.zip vs.toArray) #[] 7 none) (Q:=fun _ st'=>SB (cm h6 L) (tuples' true) (pairsOf vs) st'/\Up (cm h6 L) (arrOf st') 0 (pairsOf vs).size) hk ⟨Array.Perm.refl _,rfl,rfl⟩ rfl (by rw[pairsOf_size];lia) (by rw[pairsOf_size];exact h64) fun st' a1 a2=>⟨a1,a2⟩) ?_ fun _ _ e=>e);rintro⟨⟨⟩,st'⟩ s' ⟨rfl,hp,hs⟩;dsimp only;refine CU (seqEpoch_at ho6 rfl (CU (listUpdate_at ho6 rfl ?_ (hsz2:=by refine Ak (BV ((Array.size_map ..).trans (hp.perm.size_eq.trans (pairsOf_size _)))) (Bj hz)))));rw[hp.failed];simp only[bne_self_eq_false,Bx,if_false];have:=h (arrOf st') hp.perm fun i j p q hij e1 e2 a b x y=>by
   have l2:=(By.mp e2).1;rw[hp.size] at l2;have u:=hs i j hij l2;rw[BW,BW] at u;have la:a.length=L:=by
    have hm:p∈(pairsOf vs).toList:=(BI.mp hp.perm).mem_iff.mp (by rw[Ck];exact Array.mem_of_getElem? e1);rw[pairsOf_toList] at hm;obtain⟨ns,z1,z2⟩:=hv _ (mem_zip_self hm).2;rw[x.eq z1];exact z2
   have lb:b.length=L:=by
    have hm:q∈(pairsOf vs).toList:=(BI.mp hp.perm).mem_iff.mp (by rw[Ck];exact Array.mem_of_getElem? e2);rw[pairsOf_toList] at hm;obtain⟨ns,z1,z2⟩:=hv _ (mem_zip_self hm).2;rw[y.eq z1];exact z2
   unfold KK at u;rw[e1,e2] at u;dsimp only at u;rw[gz (up _ _ x) la,gz (up _ _ y) lb] at u;exact of_decide_eq_false u
  refine CV ?_;unfold sortedHeap at this;rw[eh] at this;exact this
end
end SH
namespace L2
open PySem PySem.Spec PyProof.Rows
section
variable {prog:Program}{w:World}{A:Around}{E:Value->Shared->Prop}{s:Shared}{a:Addr}{o:Obj}{L:Bool}{ys:List Str}{z:Str}{tz:Tok}
theorem rV{Q:Bool->Shared->Prop}(ho:s.heap.get? a=some o)(h:FR prog w L o ys)(hb:(ddS ys).length+1<scanBound)
  (hQ:∀h' o',Heap.SameBut a s.heap h'->h'.get? a=some o'->FR prog w L o' (z::ys)->∀c,Q c {s with heap:=h',toks:=s.toks+1}) :
  wpAny (model prog w) A (setAdd a (.str z tz)) Q E s:=by
 obtain⟨hex,es,ep,t,hd,hel,hp,hf,hl,hpl⟩:=h;have hn:es.size=(ddS ys).length:=by rw[<- hp.length_eq,zV,AD]
 have hkey:(strKind prog w).is z (.str z tz)=true:=Dd rfl;have hsc:(Value.str z tz).scannable=true:=rfl;unfold setAdd setAddHashed setAddHashedIn;refine Dg (CU ((strKind prog w).pyHash hkey (Dg (CU (Dv (s:={s with toks:=s.toks+1}) ho hd hf ?_)))));dsimp only;rw[byScan_of hsc (by rw[hn];lia) hel];simp only[↓reduceIte];unfold setAddByScan;refine CU (CU (DH (CU (wpAny_setScan_of hkey ho hd hf hel ?_))));have hfind:∀e∈es.toList,((strKind prog w).is z e.2=true↔strOf e.2=z):=fun e he=>by
  obtain⟨x,t,ex⟩:=qw hel he;rw[ex];show Value.isStrOf z (.str x t)=true↔x=z;rw[isz,decide_eq_true_iff];exact eq_comm
 have hmem:z∈ys↔∃e∈es.toList,strOf e.2=z:=by
  rw[<- EA,<- hp.mem_iff,Ae]
 cases hr:List.findIdx? (fun e=>(strKind prog w).is z e.2) es.toList with
 |some j=>
  obtain⟨hj,hpj,_⟩:=List.findIdx?_eq_some_iff_getElem.mp hr;have hz:z∈ys:=hmem.mpr ⟨_,Ay hj,(hfind _ (Ay hj)).mp hpj⟩;have e1:ddS (z::ys)=ddS ys:=by
   show(if z∈ddS ys then ddS ys else z::ddS ys)=_;rw[Dc (EA.mpr hz)]
  refine CV (CV ?_);exact hQ s.heap o (Heap.SameBut.refl a s.heap) ho ⟨hex,es,ep,t,hd,hel,by rw[e1];exact hp,hf,hl,hpl⟩ _
 |none=>
  have hz:z∉ys:=fun hz=>by
   obtain⟨e,he,ez⟩:=hmem.mp hz;have:=List.findIdx?_eq_none_iff.mp hr e he;rw[(hfind e he).mpr ez] at this;cases this
  have e1:ddS (z::ys)=z::ddS ys:=by
   show(if z∈ddS ys then ddS ys else z::ddS ys)=_;rw[CZ (fun q=>hz (EA.mp q))]
  have hperm:=layNew_perm t es ((strKind prog w).hash z) (.str z tz);have hfits:=layNew_fits t es ((strKind prog w).hash z) (.str z tz);have hled:=kF t es ((strKind prog w).hash z) (.str z tz);dsimp only;generalize layNew t es ((strKind prog w).hash z) (.str z tz)=Ln at hperm hfits hled ⊢;obtain⟨es1,t1,wasDummy,gave⟩:=Ln;dsimp only at hperm hfits hled ⊢;rw[Array.toList_push] at hperm;have hsz:es1.size=(ddS ys).length+1:=by rw[<- AD,hperm.length_eq,zW,AD,hn];rfl
  have hp1:(es1.toList.map fun e=>strOf e.2).Perm (ddS (z::ys)):=by
   rw[e1];refine(hperm.map _).trans ?_;rw[An];exact(List.perm_append_comm).trans (hp.cons z)
  have gw:∀(b:Bool)(s₁:Shared)(Q':Unit->Shared->Prop),Q' () s₁->wpAny (model prog w) A (match b with|true=>rule "set.scan.the-table-gave-way" |false=>pure ()) Q' E s₁:=fun b s₁ Q' hq=>by
   cases b
   ·exact CV hq
   ·exact DH hq
  refine CU (gw _ _ _ ?_);have fin:∀h' o',Heap.SameBut a s.heap h'->h'.get? a=some o'->FR prog w L o' (z::ys)->wpAny (model prog w) A (pure true) Q E {s with heap:=h',toks:=s.toks+1}:=fun h' o' h1 h2 h3=>CV (hQ h' o' h1 h2 h3 true);split
  ·refine CU ?_;rw[hashByValue_scannable 8 hsc];refine CV (tM (s:={s with toks:=s.toks+1}) gw ho hex hd ((hel.push hkey hsc).perm hperm) hp1 (by lia) (SetTable.fits_plain_off hfits) (hled.trans hl) rfl fin)
  ·rename_i npl;refine CU (CV ?_);exact tM (s:={s with toks:=s.toks+1}) gw ho hex hd ((hel.push hkey hsc).perm hperm) hp1 (by lia) hfits (hled.trans hl) (by cases hq:t1.plain with|false=>rfl|true=>exact absurd hq npl) fin
end
def dC (val:Nat->Str):Nat->List Str
 |0=>[]
 |i+1=>val i::dC val i
theorem iz(val:Nat->Str):∀i,(dC val i).length=i
 |0=>rfl
 |i+1=>by show(dC val i).length+1=_;rw[iz val i]
section
variable {prog:Program}{w:World}{A:Around}{R:Result->Shared->Prop}{I:Addr}{fp wr:List Addr}{G:Array GenState->Array GenState->Prop}{n:Nat}{P:Nat->Value->Prop}{St:Nat->Shared->Prop}{L:Bool}
theorem lM(W:WalksS prog w A.in1 I fp wr G n P St)(S:Addr)(hSf:S∉fp)(val:Nat->Str)(hval:∀i v,P i v->∃t,v=.str (val i) t)(hb:n+1<scanBound):∀(k i:Nat)(s:Shared)(o:Obj),n-i=k->i<=n->St i s->s.heap.get? S=some o->FR prog w L o (dC val i) ->
  (∀s' o',Moved (S::wr) G s s'->s'.heap.get? S=some o'->FR prog w L o' (dC val n)->R (.ok (.ret .none)) s')->codeAny (model prog w) A (.builtin "set.update.loop" ⟨[.ref S,.ref I],[]⟩) R s:=by
 have hSw:S∉wr:=fun h=>hSf (W.sub _ h);have hsub:∀b∈wr,b∈S::wr:=fun b hb=>Af _ hb;intro k;induction k with
 |zero=>
  intro i s o hk hi hst ho hS hR;have hin:i=n:=by lia
  subst hin;refine codeAny_builtin PyProof.Rows.F.entry_set_update_loop ?_;rw[Around.under_plainId PyProof.Rows.F.plain_set_update_loop _];show wpAny _ A.in1 (pyNext (.ref I) >>= _) _ _ s;refine CU (W.done s _ _ hst fun s' hm=>?_);show wpAny _ A.in1 (ret Value.none) _ _ s';exact CV (hR s' o (hm.mono hsub) (hm.heap S _ hSw ho) hS)
 |succ k ih=>
  intro i s o hk hi hst ho hS hR;have hlt:i<n:=by lia
  refine codeAny_builtin PyProof.Rows.F.entry_set_update_loop ?_;rw[Around.under_plainId PyProof.Rows.F.plain_set_update_loop _];show wpAny _ A.in1 (pyNext (.ref I) >>= _) _ _ s;refine CU (W.item i s _ _ hlt hst fun v s' hP hst' hm=>?_);obtain⟨t,rfl⟩:=hval i v hP;have ho':=hm.heap S _ hSw ho;show wpAny _ A.in1 (PySem.holding [Value.str (val i) t] (setAdd S (.str (val i) t)) >>= _) _ _ s';have hd:=Ft (dC val i);rw[iz] at hd;refine CU (Dg (rV ho' hS (by lia) fun h' o2 hsb ho2 hS2 c=>?_));refine CV ⟨plainId_quiet PyProof.Rows.F.plain_set_update_loop _,ih (i+1) _ o2 (by lia) hlt (W.frame _ s' _ _ hst' (AH _) fun b hb o e=>?_) ho2 hS2 fun s'' o3 hm'' ho3 hS3=>?_⟩
  ·rw[hsb.2 b (fun h:b=S=>hSf (by rw[<- h];exact hb))];exact e
  ·refine hR s'' o3 (Moved.trans W.gtrans ((hm.mono hsub).then_heap (AH _) fun b o hb e=>?_) hm'') ho3 hS3;rw[hsb.2 b (fun h:b=S=>hb (by rw[h];exact zX))];exact e
end
section
variable {prog:Program}{w:World}{A:Around}{E:Value->Shared->Prop}{s:Shared}
theorem oH(a:Value){Q₁:Value->Shared->Prop}(h:Q₁ (.ref s.heap.objs.size) {s with heap:=s.heap.push {cls:=.type "set",dict:=none,data:=.set #[] 0 (.fresh 0 0 (eU w))}}):codeAny (model prog w) A (.call (.builtin "set.__new__") ⟨[.type "set",a],[]⟩) (wants Q₁ E) s:=by
 refine codeAny_of_tree ?_;show wpAny _ A.in1 (do checkBuiltinCall "set.__new__" ⟨[.type "set",a],[]⟩;again (.builtin "set.__new__" ⟨[.type "set",a],[]⟩)) _ _ s;refine CU (wpAny_of_eq (PySem.F.newCall_set_1 a) (CV ⟨plainId_quiet PySem.F.plain_set_new _,codeAny_builtin PySem.F.entry_set_new ?_⟩));rw[Around.under_plainId PySem.F.plain_set_new _];unfold Builtin.«set.__new__» Builtin.Frozenset.newClass;have hsub:=sub_set_self;obtain⟨hp,g,d,tk,os⟩:=s;dsimp only;wp_walk;refine wpAny_askSetting (CV ?_);dsimp only;simp only[newObj];exact CU (wpAny_alloc (CV (CV h)))
end
theorem strAt:∀{vs:List Value}{zs:List Str},StrsAre vs zs->∀(i:Nat)(v:Value),vs[i]?=some v->∃t,v=.str (zs.getD i "") t
 |_,_,.nil,i,v,h=>by simp at h
 |_,_,.cons z t r,0,v,h=>by simp at h;exact⟨t,by rw[<- h];rfl⟩
 |_,_,.cons z t r,i+1,v,h=>by
  rw[List.getElem?_cons_succ] at h;obtain⟨t',e⟩:=strAt r i v h;exact⟨t',by rw[e];rfl⟩
theorem iK{f g:Nat->Str}:∀i,(∀j,j<i->f j=g j)->dC f i=dC g i
 |0,_=>rfl
 |i+1,h=>by show f i::dC f i=g i::dC g i;rw[h i (AI i),iK i fun j hj=>h j (AW hj)]
theorem nS(zs:List Str)(x:Str):dC (fun i=>(zs++[x]).getD i "") zs.length=dC (fun i=>zs.getD i "") zs.length:=iK _ fun j hj=>by
 show(zs++[x]).getD j ""=zs.getD j "";rw[Am,Am,BE hj]
theorem mV(zs:List Str):dC (fun i=>zs.getD i "") zs.length=zs.reverse:=by
 suffices h:∀rs:List Str,dC (fun i=>rs.reverse.getD i "") rs.reverse.length=rs by
  have:=h zs.reverse
  rwa [List.reverse_reverse] at this
 intro rs;induction rs with
 |nil=>rfl
 |cons x r ih=>
  have e:(x::r).reverse.length=r.reverse.length+1:=by simp
  rw[e,List.reverse_cons];show(r.reverse++[x]).getD r.reverse.length ""::dC _ _=_;rw[nS,ih]
  congr 1
  rw[Am,Bh (zU _)];simp
section
variable {prog:Program}{w:World}{A:Around}{E:Value->Shared->Prop}{s:Shared}
theorem lP{l:Addr}{items:Array Value}{zs:List Str}{Q:Value->Shared->Prop}(hh:A.handled=none)(hl:s.heap.IsList l items)(hi:StrsAre items.toList zs)(hb:items.size+1<scanBound)
  (h:∀(h':Heap)(tk:Nat) o,h'.get? s.heap.objs.size=some o->FR prog w (eU w) o zs.reverse->(∀b u,s.heap.get? b=some u->h'.get? b=some u)->Q (.ref s.heap.objs.size) {s with heap:=h',toks:=tk}):wpAny (model prog w) A (call (.type "set") [.ref l]) Q E s:=by
 have ez:items.size=zs.length:=by rw[<- AD];exact hi.length
 generalize eb:({cls:=.type "set",dict:=none,data:=.set #[] 0 (.fresh 0 0 (eU w))}:Obj)=o0;have hs0:FR prog w (eU w) o0 []:=by rw[<- eb];exact FR.fresh _ _ _
 have hc0:o0.cls=.type "set":=by rw[<- eb]
 have hf0:o0.isFreed=false:=by rw[<- eb];rfl
 obtain⟨c,tl,hmro⟩:=PySem.F.called_set.mro;have hmade:=PySem.F.called_set.made;have hsub:=PySem.F.called_set.sub;refine wpAny_call (codeAny_of_tree ?_);show wpAny _ _ (callAny (.type "set") _) _ _ _;refine CV ⟨Code.quiet_builtin _ (by decide +kernel),codeAny_builtin PySem.F.entry_type_call ?_⟩;rw[Around.under_plain (weight_type_call_type "set" [.ref l] []) rfl];have h1:=PySem.F.called_set.notType;have h2:=PySem.F.called_set.canCreate;have hct:=PySem.F.typeCall_set_1 (.ref l)
 repeat' (first|assumption|wp_step)
 refine codeAny_mono (oH (.ref l) (E:=E) (Q₁:=fun obj s₁=>obj=.ref s.heap.objs.size/\s₁={s with heap:=s.heap.push o0}) (by rw[eb];exact⟨rfl,rfl⟩)) fun r s₁ hr=>?_;cases r with
 |error e=>exact hr
 |ok fl=>
  cases fl with
  |ret obj=>
   obtain⟨rfl,rfl⟩:=hr;have hS:(s.heap.push o0).get? s.heap.objs.size=some o0:=Dy _ hf0;have hT:Shared.TypeIs {s with heap:=s.heap.push o0} (.ref s.heap.objs.size) "set":=⟨_,hS,hc0⟩
   have hli:=PySem.F.called_set.init.lookup;have hbi:=PySem.F.called_set.init.bind (.ref s.heap.objs.size)
   repeat' (first|assumption|wp_step)
   refine codeAny_mono (codeAny_call_builtin (R:=wants (fun r s₂=>r=.none/\∃h' tk o,s₂={s with heap:=h',toks:=tk}/\h'.get? s.heap.objs.size=some o/\FR prog w (eU w) o zs.reverse/\(∀b u,s.heap.get? b=some u->h'.get? b=some u)) E) PySem.F.called_set.init.plain PySem.F.entry_set_init (check_set_init_1 hT ?_)) fun r₂ s₂ hr₂=>?_
   ·obtain⟨ol,hol,hcl,nl,hdl⟩:=hl;obtain⟨ocls,odict,odata,oslots⟩:=ol;simp only at hcl hdl;subst hcl;subst hdl;have hol':(s.heap.push o0).get? l=some {cls:=.type "list",dict:=odict,data:=.seq items nl,slots:=oslots}:=Dx _ hol;have hsls:=PySem.F.sub_list_set;have hslf:=PySem.F.sub_list_frozenset;have hne:(Value.type "list" == Value.type "dict")=false:=by decide
    have hl1:(s.heap.push o0).IsList l items:=⟨_,hol',rfl,nl,rfl⟩
    subst eb;unfold Builtin.«set.__init__» noKeywords Builtin.Frozenset.updateFrom;generalize hPI:pyIter=PI
    wp_walk
    subst hPI;refine wpAny_pyIter_list hl1 ?_;refine CU (wpAny_runValue ?_);have hlS:l<s.heap.objs.size:=Di hol;have hh3:A.in1.in1.in1.handled=none:=by simp[hh]
    have hneI:l≠(s.heap.push {cls:=.type "set",dict:=none,data:=.set #[] 0 (.fresh 0 0 (eU w))}).objs.size:=by rw[DG];exact Aa (AW hlS)
    have hSf:s.heap.objs.size∉[(s.heap.push {cls:=.type "set",dict:=none,data:=.set #[] 0 (.fresh 0 0 (eU w))}).objs.size,l]:=by
     rw[DG];intro z;rcases Ad.mp z with z|z
     ·exact absurd z (Aa (AI _))
     ·exact absurd (zY.mp z) (BC hlS)
    refine lM ((Walks.list hh3 _ l hneI items).toS) s.heap.objs.size hSf (fun i=>zs.getD i "") (fun i v hv=>strAt hi i v (by rw[AO];exact hv)) hb (items.size-0) 0 _ _ (by lia) (Ag _) ⟨⟨_,Dy _ rfl,rfl,rfl⟩,(hl1.push _)⟩ (Dx _ hS) hs0 fun s' o' hm hg hS'=>?_;obtain⟨h',g',d',tk',os'⟩:=s';have eg:g'=s.gens:=hm.gens;have ed:d'=s.drawn:=hm.drawn;have eo:os'=s.os:=hm.os;subst eg;subst ed;subst eo;rw[ez,mV] at hS';show wpAny _ _ _ _ _ _;refine CV ?_;show wpAny _ _ (ret Value.none) _ _ _;refine CV ⟨rfl,h',tk',o',rfl,hg,hS',fun b u e=>?_⟩;have hb0:=Di e;refine hm.heap b u (fun z=>?_) (Dx _ (Dx _ e));rcases Ad.mp z with z|z
    ·exact absurd z (Aa hb0)
    ·rw[zY.mp z,DG] at hb0;exact absurd (Bu (AI _) hb0) (AC _)
   ·cases r₂ with
    |error e=>exact hr₂
    |ok fl₂=>
     cases fl₂ with
     |ret r=>
      obtain⟨rfl,h',tk,o,rfl,hg,hS',hk'⟩:=hr₂
      repeat' (first|assumption|wp_step)
      exact h _ _ _ hg hS' hk'
     |_=>exact hr₂.elim
  |_=>exact hr.elim
end
theorem IU:bootBuiltins "set"=some (.type "set"):=by decide +kernel
section
variable {X:Cx}{p pos:Pos}{e:Expr}{te:TE}
def tG (K:W.Frag)(te:TE):Hj:=fun σ H Q=>te σ H fun v H1=>∃l,∃zs:List Str,v=.ref l/\SqL K H1 l (zs.map V.str)/\zs.length<4000/\Q zs.reverse H1
theorem rJ(hc:X.A.handled=none)(he:PE X e te)(hg:Gl X "set")(hm:X.mg "set"=none)(hs:starEach [e] X.env=(false,eval e X.env)::starEach [] X.env:=by rfl):uk X (.Call (.Name "set" p) [e] [] pos) (tG X.K te):=by
 intro pins s σ H Q I h;refine wpAny_Call_Name_kw (dv I hg hm IU ?_ (by decide) (by decide));refine PyProof.Rows.callWith_type1 ?_ hs rfl;rw[hs];refine Calls.spliced_cons (thn (he pins s σ H _ I h) fun v s1 z=>Calls.spliced_nil ?_);obtain⟨y,H1,I1,r,l,zs,rfl,hq,hz,q⟩:=z;cases r;obtain⟨its,rv,pl,_⟩:=I1.list hq;have hl:=rv.length;rw[zV] at hl;refine lP hc pl.isList (zs:=zs) (by simpa using strsOf rv) (by rw[Aj];unfold scanBound;lia) fun h' tk o hg' hS hk=>?_;refine⟨_,o,zs.reverse,H1,rfl,I1.kept hk,hg',hS,?_,q⟩;refine Bi (Ft _) ?_;rw[List.length_reverse];unfold scanBound;lia
end
end L2
namespace SH
open PySem PySem.Spec PyProof.Rows SeqAt
section
variable {prog:Program}{w:World}{A:Around}{E:Value->Shared->Prop}{s:Shared}
theorem Gb{L:Nat}(hL:1<=L){l:Addr}{vs:List Value}{Q:Value->Shared->Prop}(hl:s.heap.IsList l vs.toArray)(hv:∀v∈vs,∃ns,TupAt s.heap v ns/\ns.length=L)(h64:vs.length<64)
  (h:∀out:List Value,out.Perm vs->out.Pairwise (fun x y=>∀a b,TupAt s.heap x a->TupAt s.heap y b->¬b<a)->Q (.ref (s.heap.objs.size+1)) {s with heap:=sortedAll s.heap vs out.toArray}):wpAny (model prog w) A (call (.builtin "sorted") [.ref l]) Q E s:=by
 have hz:vs.length<=sizeLine:=by rw[sizeLine_eq];lia
 refine Calls.call_function_entry kind_sorted plain_sorted entry_sorted (args_sorted1 _) ?_;unfold Builtin.«sorted»;refine CU (m:=checkCount "sorted" 1 1 _) (CV (CU (collect_list hl (CU (wpAny_newList ?_ (by show vs.toArray.size<=sizeLine;rw[Aj];exact hz))) (by first|(show vs.toArray.size<=sizeLine;rw[Aj];exact hz)|skip))));have hsz:((s.heap.push (seqObj "list" #[] 0)).update s.heap.objs.size (Obj.mapSeq (·++vs.toArray))).objs.size=s.heap.objs.size+1:=by rw[Heap.size_update,size_push']
 have old:∀b o,s.heap.get? b=some o->(((s.heap.push (seqObj "list" #[] 0)).update s.heap.objs.size (Obj.mapSeq (·++vs.toArray))).push (seqObj "list" vs.toArray 0)).get? b=some o:=fun b o hb=>by
  have hlt:=Di hb;rw[Heap.get?_push_ne _ _ _ (by rw[hsz];exact Aa (AW hlt)),Heap.get?_update_ne _ _ _ _ (Aa hlt),Heap.get?_push_ne _ _ _ (Aa hlt)];exact hb
 have up:∀v ns,TupAt s.heap v ns->TupAt (((s.heap.push (seqObj "list" #[] 0)).update s.heap.objs.size (Obj.mapSeq (·++vs.toArray))).push (seqObj "list" vs.toArray 0)) v ns:=fun v ns hq80=>by obtain⟨t,o,us,e,h1,h2,h3⟩:=hq80;exact⟨t,o,us,e,h1,old t o h2,h3⟩
 have hoL:(((s.heap.push (seqObj "list" #[] 0)).update s.heap.objs.size (Obj.mapSeq (·++vs.toArray))).push (seqObj "list" vs.toArray 0)).get? (s.heap.objs.size+1)=some (seqObj "list" vs.toArray 0):=by rw[<- hsz];exact Dy _ rfl
 show wpAny _ _ _ _ _ {s with heap:=((s.heap.push (seqObj "list" #[] 0)).update s.heap.objs.size (Obj.mapSeq (·++vs.toArray))).push (seqObj "list" vs.toArray 0)};rw[hsz];refine CU (Dg (DE slot_list_sort ⟨_,hoL,rfl⟩ entry_list_sort (gj hL hoL (fun v hm=>(hv v hm).elim fun ns z=>⟨ns,up v ns z.1,z.2⟩) h64 fun xs a1 a2=>⟨_,rfl,?_⟩) (args_list_sort _)));have same:∀p∈xs.toList,p.1=p.2:=fun p hp=>by
  have hm:=(BI.mp a1).mem_iff.mp hp;rw[pairsOf_toList] at hm;exact(mem_zip_self hm).1
 have e2:(pairsOf vs).toList.map (·.2)=vs:=by rw[pairsOf_toList,List.map_snd_zip (zU _)]
 have p1:(xs.toList.map (·.2)).Perm vs:=by
  have:=(BI.mp a1).map (·.2);rw[e2] at this;exact this
 have p2:(xs.toList.map (·.2)).Pairwise (fun x y=>∀a b,TupAt s.heap x a->TupAt s.heap y b->¬b<a):=by
  refine CQ.mpr fun i j hi hj hij a b x y=>?_;rw[zV] at hi hj;rw[List.getElem_map] at x y;rw[<- same _ (Ay hi)] at x;rw[<- same _ (Ay hj)] at y;exact a2 i j _ _ (AS hij) (by rw[<- AO];exact Ac hi) (by rw[<- AO];exact Ac hj) a b (up _ _ x) (up _ _ y)
 have:=h (xs.toList.map (·.2)) p1 p2;refine CV ⟨_,rfl,?_⟩;rw[show(xs.toList.map (·.2)).toArray=xs.map (·.2) by rw[<- Array.toList_map,Cy]] at this;exact this
end
end SH
namespace L2
open PySem PySem.Spec PyProof.Rows
section
variable {X:Cx}
def uL (L:Nat)(K:W.Frag):List V->Hp->VK->Prop:=fun xs H Q=>∃p,∃ks:List Addr,xs=[.ref p]/\SqL K H p (ks.map V.ref)/\ks.length<64/\(∀k∈ks,∃ns:List Int,SqT K H k (ns.map V.int)/\ns.length=L)/\∀l,∀ks':List Addr,ks'.Perm ks->ks'.Pairwise (fun a b=>∀ns ms:List Int,SqT K H a (ns.map V.int)->SqT K H b (ms.map V.int)->¬ms<ns)->H l=none->Q (.ref l) (upd H l (.lst (ks'.map V.ref)))
theorem mR{ks:List Addr}{out:List Value}(p:out.Perm (ks.map Value.ref)):∃ks':List Addr,ks'.Perm ks/\out=ks'.map Value.ref:=by
 have hf:∀v∈out,Value.ref (match v with|.ref a=>a|_=>0)=v:=fun v hv=>by
  obtain⟨a,_,rfl⟩:=Ae.mp (p.mem_iff.mp hv);rfl
 refine⟨out.map fun v=>match v with|.ref a=>a|_=>0,?_,?_⟩
 ·have:=p.map fun v=>match v with|.ref a=>a|_=>0;rw[AJ] at this;rw[show((fun v:Value=>match v with|.ref a=>a|_=>0) ∘ Value.ref)=id from rfl,BX] at this;exact this
 ·rw[AJ]
  conv=>lhs;rw[<- BX out]
  exact BG fun v hv=>(hf v hv).symm
theorem EN:∀(ks:List Addr),Vals (ks.map V.ref) (ks.map Value.ref)
 |[]=>.nil
 |_::ks=>.cons rfl (EN ks)
theorem fQ{L:Nat}(hL:1<=L):cg X (.builtin "sorted") (uL L X.K):=by
 intro pins s σ H xs us Q I r h;obtain⟨p,ks,rfl,hq,h64,hk,q⟩:=h;obtain⟨u,rfl,rx⟩:=dF r;cases rx;obtain⟨its,rv,pl,hz⟩:=I.list hq;have ei:its=ks.map Value.ref:=cQ id rv;subst ei;have tp:∀k ns,SqT X.K H k (List.map V.int ns)->SH.TupAt s.heap (.ref k) ns:=fun k ns z=>by
  obtain⟨ts,rt,⟨o,ho,hc,n,hd⟩,_⟩:=I.tuple z;exact⟨k,o,ts,n,rfl,ho,hc,hd,eD rt⟩
 refine SH.Gb hL pl.isList (fun v hm=>?_) (by rw[zV];exact h64) fun out a1 a2=>?_
 ·obtain⟨k,hk',rfl⟩:=Ae.mp hm;obtain⟨ns,z1,z2⟩:=hk k hk';exact⟨ns,tp k ns z1,z2⟩
 obtain⟨ks',b1,rfl⟩:=mR a1;obtain⟨e,he⟩:=sortedAll_at s.heap (ks.map Value.ref) (ks'.map Value.ref).toArray;refine⟨.ref (s.heap.objs.size+1),_,I.laid (t':=s.toks) (o:=.lst (ks'.map V.ref)) (fun _ _=>sortedAll_old) (AH _) ?_,rfl,q _ ks' b1 ?_ (I.hok.fresh (AH _))⟩
 ·refine⟨?_,ks'.map Value.ref,e,EN ks',he⟩;rw[zV,b1.length_eq,sizeLine_eq];lia
 ·rw[BK] at a2;exact a2.imp fun {a b} z ns ms x y=>z ns ms (tp a ns x) (tp b ms y)
end
end L2
namespace KM
def tup (k:Nat):Nat->List (List Nat)
 |0=>[[]]
 |n+1=>(List.range k).flatMap fun i=>(tup k n).map (i::·)
def bj (ws:List (List Nat))(t:List Nat):List Nat:=(t.map fun i=>ws.getD i []).flatten
theorem aH(ws:List (List Nat))(i:Nat)(t:List Nat):bj ws (i::t)=ws.getD i []++bj ws t:=rfl
def S (L:Nat)(ws:List (List Nat)):Nat:=((List.range ws.length).map fun i=>2^(L-(ws.getD i []).length)).sum
def UD (ws:List (List Nat)):Prop:=∀s t:List Nat,(∀i∈s,i<ws.length)->(∀i∈t,i<ws.length)->bj ws s=bj ws t->s=t
structure FO(ws:List (List Nat))(Q:List Nat->Prop):Prop where
 first:∀i j x,i<ws.length->j<ws.length->i≠j->ws.getD i []=ws.getD j []++x->Q x
 within:∀n x y,n<ws.length->Q x->x=ws.getD n []++y->Q y
 beyond:∀n x y,n<ws.length->Q x->ws.getD n []=x++y->Q y
 none:¬Q []
theorem Fo:∀{a b c d:List Nat},a++b=c++d->(∃x,a=c++x/\x++b=d)\/(∃x,c=a++x/\b=x++d)
 |a,b,[],d,h=>.inl ⟨a,rfl,h⟩
 |[],b,e::c,d,h=>.inr ⟨e::c,rfl,h⟩
 |f::a,b,e::c,d,h=>by
  injection h with h1 h2;subst h1;rcases Fo h2 with ⟨x,h3,h4⟩|⟨x,h3,h4⟩
  ·exact .inl ⟨x,by rw[h3];rfl,h4⟩
  ·exact .inr ⟨x,by rw[h3];rfl,h4⟩
theorem qC{ws:List (List Nat)}{Q:List Nat->Prop}(C:FO ws Q):∀(k:Nat)(s t:List Nat)(x:List Nat),s.length+t.length<=k->(∀i∈s,i<ws.length)->(∀i∈t,i<ws.length)->Q x->x++bj ws s≠bj ws t:=by
 intro k;induction k with
 |zero=>
  intro s t x hk _ _ hx h;have hs:s=[]:=AR.mp (by lia);have ht:t=[]:=AR.mp (by lia);subst hs ht;have:x=[]:=by simpa [bj] using h
  subst this;exact C.none hx
 |succ k ih=>
  intro s t x hk hs ht hx h;cases t with
  |nil=>
   have:x=[]:=by
    have h':x++bj ws s=[]:=h;exact(BL.mp h').1
   subst this;exact C.none hx
  |cons n t=>
   have hn:=ht n zX;have ht':∀i∈t,i<ws.length:=fun i hi=>ht i (Af _ hi);rw[aH] at h;rw[AE] at hk;rcases Fo h with ⟨y,h1,h2⟩|⟨y,h1,h2⟩
   ·exact ih s t y (by lia) hs ht' (C.within n x y hn hx h1) h2
   ·exact ih t s y (by lia) ht' hs (C.beyond n x y hn hx h1) h2.symm
theorem FO.ud{ws:List (List Nat)}{Q:List Nat->Prop}(C:FO ws Q)(hne:∀i,i<ws.length->ws.getD i []≠[]):UD ws:=by
 intro s;induction s with
 |nil=>
  intro t _ ht h;cases t with
  |nil=>rfl
  |cons j t=>
   rw[aH] at h;exact absurd (BL.mp h.symm).1 (hne j (ht j zX))
 |cons i s ih=>
  intro t hs ht h;have hi:=hs i zX;have hs':∀i∈s,i<ws.length:=fun i hi=>hs i (Af _ hi);cases t with
  |nil=>
   rw[aH] at h;exact absurd (BL.mp h).1 (hne i hi)
  |cons j t=>
   have hj:=ht j zX;have ht':∀i∈t,i<ws.length:=fun i hi=>ht i (Af _ hi);rw[aH,aH] at h;by_cases e:i=j
   ·subst e;rw[ih t hs' ht' (Bk h)]
   ·exfalso;rcases Fo h with ⟨y,h1,h2⟩|⟨y,h1,h2⟩
    ·exact qC C _ s t y (zU _) hs' ht' (C.first i j y hi hj e h1) h2
    ·exact qC C _ t s y (zU _) ht' hs' (C.first j i y hj hi (Dw e) h1) h2.symm
abbrev Fd:=Nat×List Nat×List Nat
structure Trk(ws:List (List Nat))(x:List Nat)(f:Fd):Prop where
 a:∀i∈f.2.1,i<ws.length
 b:∀i∈f.2.2,i<ws.length
 ne:∃i j s t,f.2.1=i::s/\f.2.2=j::t/\i≠j
 eq:bj ws f.2.1=bj ws f.2.2++x
 len:f.1=(bj ws f.2.1).length
def Sfx (ws:List (List Nat))(x:List Nat):Prop:=∃w∈ws,∃z,w=z++x
abbrev Ent:=List (List Nat×Fd)
def hZ (E:Ent)(x:List Nat):Option Fd:=(E.find? fun e=>decide (e.1=x)).map (·.2)
def jW (E:Ent)(x:List Nat)(f:Fd):Ent:=if (E.any fun e=>decide (e.1=x))=true then E.map (fun e=>if e.1=x then (e.1,f) else e) else E++[(x,f)]
def eR (E:Ent)(x:List Nat):Ent:=E.filter fun e=>decide (e.1≠x)
def bB (dn:List (List Nat))(E:Ent)(s:List Nat×Fd):Ent:=if s.1∈dn then E else match hZ E s.1 with
 |none=>jW E s.1 s.2
 |some f=>if s.2.1<f.1 then jW E s.1 s.2 else E
theorem ki{E:Ent}{x:List Nat}{f:Fd}(h:hZ E x=some f):(x,f)∈E:=by
 unfold hZ at h;obtain⟨e,h1,h2⟩:=Be.mp h;have h3:=List.find?_some h1;have h4:e.1=x:=Dh h3;have h5:=List.mem_of_find?_eq_some h1;have:e=(x,f):=Prod.ext h4 h2;rw[<- this];exact h5
theorem iX{E:Ent}{x:List Nat}(h:hZ E x=none):∀e∈E,e.1≠x:=by
 unfold hZ at h;have h1:=Option.map_eq_none_iff.mp h;intro e he z;have:=List.find?_eq_none.mp h1 e he;exact this (Dd z)
theorem gB{E:Ent}(nd:(E.map (·.1)).Nodup){x:List Nat}{f:Fd}(h:(x,f)∈E):hZ E x=some f:=by
 cases e:hZ E x with
 |none=>exact absurd rfl (iX e _ h)
 |some g=>
  have h2:=ki e
  congr 1
  induction E with
  |nil=>cases h
  |cons p r ih=>
   rw[Av,Bo] at nd;rcases Ad.mp h with h|h<;>rcases Ad.mp h2 with h3|h3
   ·rw[<- h] at h3;exact(Prod.mk.inj h3).2
   ·exact absurd (Ae.mpr ⟨_,h3,by rw[<- h]⟩) nd.1
   ·exact absurd (Ae.mpr ⟨_,h,by rw[<- h3]⟩) nd.1
   ·refine ih nd.2 h ?_ h3;unfold hZ at e ⊢;rw[Ba] at e;split at e
    ·rename_i c;have c':p.1=x:=Dh c;exact absurd (Ae.mpr ⟨_,h,by rw[c']⟩) nd.1
    ·exact e
theorem fk{E:Ent}{x:List Nat}{f:Fd}{e:List Nat×Fd}(h:e∈jW E x f):e=(x,f)\/(e∈E/\e.1≠x):=by
 unfold jW at h;split at h
 ·obtain⟨d,hd,rfl⟩:=Ae.mp h;by_cases c:d.1=x
  ·rw[Dc c,c];exact .inl rfl
  ·rw[CZ c];exact .inr ⟨hd,c⟩
 ·rename_i c;rcases zZ.mp h with h|h
  ·refine .inr ⟨h,fun z=>c ?_⟩;rw[BY];exact⟨e,h,Dd z⟩
  ·exact .inl (zY.mp h)
theorem kc{E:Ent}{x:List Nat}{f:Fd}:(x,f)∈jW E x f:=by
 unfold jW;split
 ·rename_i c;obtain⟨e,he,hx⟩:=BY.mp c;have hx':e.1=x:=Dh hx;exact Ae.mpr ⟨e,he,by rw[Dc hx',hx']⟩
 ·exact Ab _ (zY.mpr rfl)
theorem pA{E:Ent}{x:List Nat}{f:Fd}{e:List Nat×Fd}(h:e∈E)(n:e.1≠x):e∈jW E x f:=by
 unfold jW;split
 ·exact Ae.mpr ⟨e,h,by rw[CZ n]⟩
 ·exact Aw _ h
theorem rD{E:Ent}{x:List Nat}{f:Fd}(nd:(E.map (·.1)).Nodup):((jW E x f).map (·.1)).Nodup:=by
 unfold jW;split
 ·have:(E.map fun e=>if e.1=x then (e.1,f) else e).map (·.1)=E.map (·.1):=by
   rw[AJ];refine BG fun e _=>?_;show(if e.1=x then (e.1,f) else e).1=e.1;split<;>rfl
  rw[this];exact nd
 ·rename_i c;rw[An,BZ];refine⟨nd,by simp,fun a ha b hb z=>?_⟩;obtain⟨e,he,rfl⟩:=Ae.mp ha;have hb':b=x:=by simpa using hb
  exact c (BY.mpr ⟨e,he,Dd (z.trans hb')⟩)
theorem Ew{E:Ent}{x:List Nat}{e:List Nat×Fd}:e∈eR E x↔e∈E/\e.1≠x:=by
 unfold eR;rw[AK];refine⟨fun hq81=>?_,fun⟨a,b⟩=>⟨a,Dd b⟩⟩;obtain⟨a,b⟩:=hq81;exact⟨a,Dh b⟩
theorem oG{E:Ent}{x:List Nat}(nd:(E.map (·.1)).Nodup):((eR E x).map (·.1)).Nodup:=nd.sublist (List.filter_sublist.map _)
def Has (dn:List (List Nat×Nat))(E:Ent)(y:List Nat)(m:Nat):Prop:=(∃p∈dn,p.1=y/\p.2<=m)\/∃e∈E,e.1=y/\e.2.1<=m
structure Wt(ws:List (List Nat))(dn:List (List Nat×Nat))(E:Ent):Prop where
 trk:∀e∈E,Trk ws e.1 e.2/\Sfx ws e.1
 ndE:(E.map (·.1)).Nodup
 dis:∀e∈E,∀p∈dn,e.1≠p.1
 low:∀p∈dn,∀e∈E,p.2<=e.2.1
theorem bT(dn:List (List Nat))(E:Ent)(s:List Nat×Fd):(s.1∈dn/\bB dn E s=E)\/(s.1∉dn/\(∃f,hZ E s.1=some f/\f.1<=s.2.1)/\bB dn E s=E)\/(s.1∉dn/\(∀f,hZ E s.1=some f->s.2.1<f.1)/\bB dn E s=jW E s.1 s.2):=by
 unfold bB;by_cases h:s.1∈dn
 ·rw[Dc h];exact .inl ⟨h,rfl⟩
 ·rw[CZ h];cases e:hZ E s.1 with
  |none=>exact .inr (.inr ⟨h,(fun f z=>(by cases z)),rfl⟩)
  |some f=>
   by_cases c:s.2.1<f.1
   ·simp only[Dc c];exact .inr (.inr ⟨h,(fun g z=>(by cases z;exact c)),trivial⟩)
   ·simp only[CZ c];exact .inr (.inl ⟨h,⟨f,rfl,by lia⟩,trivial⟩)
theorem Wt.keep{ws:List (List Nat)}{dn:List (List Nat×Nat)}{E:Ent}{s:List Nat×Fd}(h:Wt ws dn E)(ht:Trk ws s.1 s.2)(hs:Sfx ws s.1)(hl:∀p∈dn,p.2<=s.2.1):Wt ws dn (bB (dn.map (·.1)) E s):=by
 rcases bT (dn.map (·.1)) E s with ⟨_,e⟩|⟨_,_,e⟩|⟨n,_,e⟩
 ·rw[e];exact h
 ·rw[e];exact h
 ·rw[e];refine⟨fun e he=>?_,rD h.ndE,fun e he p hp=>?_,fun p hp e he=>?_⟩
  ·rcases fk he with rfl|⟨he,_⟩
   ·exact⟨ht,hs⟩
   ·exact h.trk e he
  ·rcases fk he with rfl|⟨he,_⟩
   ·exact fun z=>n (Ae.mpr ⟨p,hp,z.symm⟩)
   ·exact h.dis e he p hp
  ·rcases fk he with rfl|⟨he,_⟩
   ·exact hl p hp
   ·exact h.low p hp e he
theorem mG{dn:List (List Nat×Nat)}{E:Ent}{s:List Nat×Fd}{y:List Nat}{m:Nat}(nd:(E.map (·.1)).Nodup)(h:Has dn E y m):Has dn (bB (dn.map (·.1)) E s) y m:=by
 rcases bT (dn.map (·.1)) E s with ⟨_,e⟩|⟨_,_,e⟩|⟨n,lt,e⟩
 ·rw[e];exact h
 ·rw[e];exact h
 ·rw[e];rcases h with h|⟨d,hd,rfl,hm⟩
  ·exact .inl h
  ·by_cases c:d.1=s.1
   ·refine .inr ⟨(s.1,s.2),kc,c.symm,?_⟩;have:=lt d.2 (gB nd (by rw[<- c];exact hd));show s.2.1<=m;lia
   ·exact .inr ⟨d,pA hd c,rfl,hm⟩
theorem kX{dn:List (List Nat×Nat)}{E:Ent}{s:List Nat×Fd}(hl:∀p∈dn,p.2<=s.2.1):Has dn (bB (dn.map (·.1)) E s) s.1 s.2.1:=by
 rcases bT (dn.map (·.1)) E s with ⟨h,e⟩|⟨_,⟨f,hf,le⟩,e⟩|⟨n,lt,e⟩
 ·rw[e];obtain⟨p,hp,z⟩:=Ae.mp h;exact .inl ⟨p,hp,z,hl p hp⟩
 ·rw[e];exact .inr ⟨_,ki hf,rfl,le⟩
 ·rw[e];exact .inr ⟨_,kc,rfl,zU _⟩
theorem jq{ws:List (List Nat)}{dn:List (List Nat×Nat)}:∀(ss:List (List Nat×Fd)){E:Ent},Wt ws dn E->(∀s∈ss,Trk ws s.1 s.2/\Sfx ws s.1/\∀p∈dn,p.2<=s.2.1) ->
  Wt ws dn (ss.foldl (bB (dn.map (·.1))) E)/\(∀y m,Has dn E y m->Has dn (ss.foldl (bB (dn.map (·.1))) E) y m)/\∀s∈ss,Has dn (ss.foldl (bB (dn.map (·.1))) E) s.1 s.2.1
 |[],E,h,_=>⟨h,fun _ _ z=>z,fun s hs=>absurd hs (by simp)⟩
 |s::r,E,h,hs=>by
  obtain⟨h1,h2,h3⟩:=hs s zX;obtain⟨g1,g2,g3⟩:=jq r (h.keep h1 h2 h3) fun t ht=>hs t (Af _ ht);rw[Bv];refine⟨g1,fun y m z=>g2 y m (mG h.ndE z),fun t ht=>?_⟩;rcases Ad.mp ht with rfl|ht
  ·exact g2 _ _ (kX h3)
  ·exact g3 t ht
structure Dij(ws:List (List Nat))(dn:List (List Nat×Nat))(E:Ent):Prop where
 wt:Wt ws dn E
 ndD:(dn.map (·.1)).Nodup
 nil:∀p∈dn,p.1≠[]/\Sfx ws p.1
 first:∀i j x,i<ws.length->j<ws.length->i≠j->ws.getD i []=ws.getD j []++x->Has dn E x (ws.getD i []).length
 within:∀p∈dn,∀k y,k<ws.length->p.1=ws.getD k []++y->Has dn E y p.2
 beyond:∀p∈dn,∀k y,k<ws.length->ws.getD k []=p.1++y->Has dn E y (p.2+y.length)
theorem Dij.start{ws:List (List Nat)}{ss:List (List Nat×Fd)}(h1:∀s∈ss,Trk ws s.1 s.2/\Sfx ws s.1)
  (h2:∀i j x,i<ws.length->j<ws.length->i≠j->ws.getD i []=ws.getD j []++x->∃s∈ss,s.1=x/\s.2.1=(ws.getD i []).length):Dij ws [] (ss.foldl (bB []) []):=by
 obtain⟨g1,g2,g3⟩:=jq (ws:=ws) (dn:=[]) ss (E:=[]) ⟨fun e h=>absurd h (by simp),by simp,fun e h=>absurd h (by simp),fun p h=>absurd h (by simp)⟩ fun s hs=>⟨(h1 s hs).1,(h1 s hs).2,fun p h=>absurd h (by simp)⟩
 refine⟨g1,by simp,fun p h=>absurd h (by simp),fun i j x hi hj n e=>?_,fun p h=>absurd h (by simp),fun p h=>absurd h (by simp)⟩;obtain⟨s,hs,rfl,e2⟩:=h2 i j x hi hj n e;rw[<- e2];exact g3 s hs
theorem Dij.step{ws:List (List Nat)}{dn:List (List Nat×Nat)}{E:Ent}{x:List Nat}{f:Fd}{ss:List (List Nat×Fd)}(h:Dij ws dn E)(hx:(x,f)∈E)(hmin:∀e∈E,f.1<=e.2.1)(hne:x≠[])
  (h1:∀s∈ss,Trk ws s.1 s.2/\Sfx ws s.1/\f.1<=s.2.1)(h2:∀k y,k<ws.length->x=ws.getD k []++y->∃s∈ss,s.1=y/\s.2.1=f.1)(h3:∀k y,k<ws.length->ws.getD k []=x++y->∃s∈ss,s.1=y/\s.2.1=f.1+y.length) :
  Dij ws (dn++[(x,f.1)]) (ss.foldl (bB ((dn.map (·.1))++[x])) (eR E x)):=by
 have em:(dn++[(x,f.1)]).map (·.1)=dn.map (·.1)++[x]:=by rw[An];rfl
 have lo:∀p∈dn++[(x,f.1)],p.2<=f.1:=fun p hp=>by
  rcases zZ.mp hp with hp|hp
  ·exact h.wt.low p hp _ hx
  ·rw[zY.mp hp];exact zU _
 have w0:Wt ws (dn++[(x,f.1)]) (eR E x):=by
  refine⟨fun e he=>h.wt.trk e (Ew.mp he).1,oG h.wt.ndE,fun e he p hp=>?_,fun p hp e he=>?_⟩
  ·obtain⟨he,hn⟩:=Ew.mp he;rcases zZ.mp hp with hp|hp
   ·exact h.wt.dis e he p hp
   ·rw[zY.mp hp];exact hn
  ·exact Ak (lo p hp) (hmin e (Ew.mp he).1)
 obtain⟨g1,g2,g3⟩:=jq ss w0 fun s hs=>⟨(h1 s hs).1,(h1 s hs).2.1,fun p hp=>Ak (lo p hp) (h1 s hs).2.2⟩
 rw[em] at g1 g2 g3;have up:∀y m,Has dn E y m->Has (dn++[(x,f.1)]) (ss.foldl (bB ((dn.map (·.1))++[x])) (eR E x)) y m:=fun y m z=>by
  refine g2 y m ?_;rcases z with ⟨p,hp,z⟩|⟨e,he,rfl,hm⟩
  ·exact .inl ⟨p,Aw _ hp,z⟩
  ·by_cases c:e.1=x
   ·refine .inl ⟨(x,f.1),Ab _ (zY.mpr rfl),c.symm,?_⟩;have:=hmin e he;show f.1<=m;lia
   ·exact .inr ⟨e,Ew.mpr ⟨he,c⟩,rfl,hm⟩
 refine⟨g1,?_,fun p hp=>?_,fun i j y hi hj n e=>up _ _ (h.first i j y hi hj n e),fun p hp k y hk e=>?_,fun p hp k y hk e=>?_⟩
 ·rw[em,BZ];refine⟨h.ndD,by simp,fun a ha b hb z=>?_⟩;obtain⟨p,hp,rfl⟩:=Ae.mp ha;have hb':b=x:=by simpa using hb
  exact h.wt.dis _ hx p hp (z.trans hb').symm
 ·rcases zZ.mp hp with hp|hp
  ·exact h.nil p hp
  ·rw[zY.mp hp];exact⟨hne,(h.wt.trk _ hx).2⟩
 ·rcases zZ.mp hp with hp|hp
  ·exact up _ _ (h.within p hp k y hk e)
  ·rw[zY.mp hp] at e ⊢;obtain⟨s,hs,rfl,e2⟩:=h2 k y hk e;have:=g3 s hs;rw[e2] at this;exact this
 ·rcases zZ.mp hp with hp|hp
  ·exact up _ _ (h.beyond p hp k y hk e)
  ·rw[zY.mp hp] at e ⊢;obtain⟨s,hs,rfl,e2⟩:=h3 k y hk e;have:=g3 s hs;rw[e2] at this;exact this
theorem Dij.closed{ws:List (List Nat)}{dn:List (List Nat×Nat)}(h:Dij ws dn []):FO ws fun x=>∃p∈dn,p.1=x:=by
 have has:∀{y m},Has dn [] y m->∃p∈dn,p.1=y:=fun z=>by
  rcases z with ⟨p,hp,e,_⟩|⟨e,he,_⟩
  ·exact⟨p,hp,e⟩
  ·cases he
 refine⟨fun i j x hi hj n e=>has (h.first i j x hi hj n e),fun n x y hn ⟨p,hp,e1⟩ e2=>has (h.within p hp n y hn (by rw[e1];exact e2)),fun n x y hn ⟨p,hp,e1⟩ e2=>has (h.beyond p hp n y hn (by rw[e1];exact e2)),fun hq83=>by obtain⟨p,hp,e⟩:=hq83;exact(h.nil p hp).1 e⟩
theorem sub_len{α:Type} [DecidableEq α]:∀(U:List α){l:List α},l.Nodup->(∀x∈l,x∈U)->l.length<=U.length
 |[],l,_,h=>by
  cases l with
  |nil=>exact zU _
  |cons a r=>exact absurd (h a zX) (by simp)
 |u::U,l,nd,h=>by
  have h1:=sub_len U (l:=l.erase u) (nd.erase u) fun x hx=>by
   have hm:=List.mem_of_mem_erase hx;rcases Ad.mp (h x hm) with e|e
   ·exact absurd (by rw[e] at hx;exact hx) (List.Nodup.not_mem_erase nd)
   ·exact e
  have h2:l.length<=(l.erase u).length+1:=by
   rw[List.length_erase];split<;>lia
  rw[AE];lia
def ends:List Nat->List (List Nat)
 |[]=>[[]]
 |c::r=>(c::r)::ends r
theorem eX:∀w,(ends w).length=w.length+1
 |[]=>rfl
 |c::r=>by rw[ends,AE,eX r,AE]
theorem Gm:∀(z:List Nat){w x:List Nat},w=z++x->x∈ends w
 |[],w,x,e=>by
  rw[e];show x∈ends x;cases x<;>simp[ends]
 |c::z,w,x,e=>by
  subst e;exact Af _ (Gm z rfl)
theorem EE:∀{ws:List (List Nat)}{k:Nat},(∀w∈ws,w.length<=k)->(ws.flatMap ends).length<=ws.length*(k+1)
 |[],_,_=>Ag _
 |w::r,k,h=>by
  have h1:=EE (ws:=r) (k:=k) fun v hv=>h v (Af _ hv);have h2:=h w zX;rw[List.flatMap_cons,zW,eX,AE,Nat.add_mul];lia
theorem md{ws l:List (List Nat)}(h8:ws.length<=8)(h40:∀w∈ws,w.length<=40)(nd:l.Nodup)(h:∀x∈l,Sfx ws x):l.length<=328:=by
 have h1:=sub_len (ws.flatMap ends) nd fun x hx=>by
  obtain⟨w,hw,z,e⟩:=h x hx;exact Ca.mpr ⟨w,hw,Gm z e⟩
 have h2:=EE h40;have:ws.length*41<=8*41:=Nat.mul_le_mul_right _ h8;lia
def Tb (ks:List (List Nat))(r o p:List Nat):Prop:=∃i j s t z,i<ks.length/\j<ks.length/\(∀k∈s,k<ks.length)/\(∀k∈t,k<ks.length)/\ks.getD i []=o/\ks.getD j []=p/\o=p++z/\z≠[]/\(bj ks (i::s)=bj ks (j::t)++r\/bj ks (j::t)=bj ks (i::s)++r)
theorem gJ(ks:List (List Nat))(i:Nat)(s:List Nat)(k:Nat):bj ks (i::(s++[k]))=bj ks (i::s)++ks.getD k []:=by
 unfold bj;rw[<- List.cons_append,An,Cb];simp
theorem Tb.first{ks:List (List Nat)}{i j:Nat}{z:List Nat}(hi:i<ks.length)(hj:j<ks.length)(e:ks.getD i []=ks.getD j []++z)(z1:z≠[]):Tb ks z (ks.getD i []) (ks.getD j []):=by
 refine⟨i,j,[],[],z,hi,hj,fun k h=>absurd h (by simp),fun k h=>absurd h (by simp),rfl,rfl,e,z1,.inl ?_⟩;have f:∀k,bj ks [k]=ks.getD k []:=fun k=>by unfold bj;simp
 rw[f,f];exact e
theorem ff{n k:Nat}{s:List Nat}(hs:∀j∈s,j<n)(hk:k<n):∀j∈s++[k],j<n:=fun j hj=>(zZ.mp hj).elim (hs j) fun h=>by rw[zY.mp h];exact hk
theorem Tb.next{ks:List (List Nat)}{r o p r':List Nat}(h:Tb ks r o p){k:Nat}(hk:k<ks.length)(e:r=ks.getD k []++r'\/ks.getD k []=r++r'):Tb ks r' o p:=by
 obtain⟨i,j,s,t,z,hi,hj,hs,ht,eo,ep,ez,z1,h⟩:=h;rcases e with e|e<;>rcases h with h|h
 ·exact⟨i,j,s,t++[k],z,hi,hj,hs,ff ht hk,eo,ep,ez,z1,.inl (by rw[gJ,AF,<- e];exact h)⟩
 ·exact⟨i,j,s++[k],t,z,hi,hj,ff hs hk,ht,eo,ep,ez,z1,.inr (by rw[gJ,AF,<- e];exact h)⟩
 ·exact⟨i,j,s,t++[k],z,hi,hj,hs,ff ht hk,eo,ep,ez,z1,.inr (by rw[gJ,h,e,AF])⟩
 ·exact⟨i,j,s++[k],t,z,hi,hj,ff hs hk,ht,eo,ep,ez,z1,.inl (by rw[gJ,h,e,AF])⟩
theorem Tb.JQ{ks:List (List Nat)}{o p:List Nat}(h:Tb ks [] o p):∃i j s t z,i<ks.length/\j<ks.length/\(∀k∈s,k<ks.length)/\(∀k∈t,k<ks.length)/\ks.getD i []=o/\ks.getD j []=p/\o=p++z/\z≠[]/\bj ks (j::t)=bj ks (i::s):=by
 obtain⟨i,j,s,t,z,hi,hj,hs,ht,eo,ep,ez,z1,h⟩:=h;refine⟨i,j,s,t,z,hi,hj,hs,ht,eo,ep,ez,z1,?_⟩;rcases h with h|h
 ·rw[AA] at h;exact h.symm
 ·rw[AA] at h;exact h
theorem Tb.sfx{ks:List (List Nat)}{r o p:List Nat}(S:Sfx ks r){k:Nat}(hk:k<ks.length){r':List Nat}(e:r=ks.getD k []++r'\/ks.getD k []=r++r'):Sfx ks r':=by
 rcases e with e|e
 ·obtain⟨w,hw,z,ew⟩:=S;exact⟨w,hw,z++ks.getD k [],by rw[ew,e,AF]⟩
 ·refine⟨ks.getD k [],?_,r,e⟩;rw[Am,Ac hk];exact Ay hk
abbrev T3:=List Nat×List Nat×List Nat
structure Tr(ks:List (List Nat))(x:T3):Prop where
 tb:Tb ks x.1 x.2.1 x.2.2
 sf:Sfx ks x.1
 o:x.2.1∈ks
 p:x.2.2∈ks
def Nx1 (ks:List (List Nat))(x z:List Nat):Prop:=∃k,k<ks.length/\(x=ks.getD k []++z\/ks.getD k []=x++z)
theorem Tr.next{ks:List (List Nat)}{x:T3}(h:Tr ks x){z:List Nat}(n:Nx1 ks x.1 z):Tr ks (z,x.2.1,x.2.2):=by
 obtain⟨k,hk,e⟩:=n;exact⟨h.tb.next hk e,Tb.sfx (o:=x.2.1) (p:=x.2.2) h.sf hk e,h.o,h.p⟩
structure Wk(ks:List (List Nat))(sn wt:List T3):Prop where
 tr:∀x∈wt,Tr ks x
 ok:∀x∈sn,Tr ks x/\x.1≠[]
 nd:sn.Nodup
 first:∀i j x,i<ks.length->j<ks.length->i≠j->ks.getD i []=ks.getD j []++x->∃o p,(x,o,p)∈sn\/(x,o,p)∈wt
 next:∀x∈sn,∀z,Nx1 ks x.1 z->(z,x.2.1,x.2.2)∈sn\/(z,x.2.1,x.2.2)∈wt
theorem Wk.drop{ks:List (List Nat)}{sn wt:List T3}{x:T3}(h:Wk ks sn (x::wt))(hx:x∈sn):Wk ks sn wt:=by
 have g:∀y,y∈sn\/y∈x::wt->y∈sn\/y∈wt:=fun y z=>z.elim .inl fun z=>(Ad.mp z).elim (fun e=>.inl (e▸hx)) .inr;exact⟨fun y hy=>h.tr y (Af _ hy),h.ok,h.nd,fun i j y hi hj ne e=>(h.first i j y hi hj ne e).elim fun o z=>z.elim fun p z=>⟨o,p,g _ z⟩,fun y hy z n=>g _ (h.next y hy z n)⟩
theorem Wk.more{ks:List (List Nat)}{sn wt nw:List T3}{x:T3}(h:Wk ks sn (x::wt))(hx:x∉sn)(x1:x.1≠[])(hn:∀y,y∈nw↔∃z,Nx1 ks x.1 z/\y=(z,x.2.1,x.2.2)):Wk ks (sn++[x]) (wt++nw):=by
 have tx:=h.tr x zX;have g:∀y,y∈sn\/y∈x::wt->y∈sn++[x]\/y∈wt++nw:=fun y z=>z.elim (fun z=>.inl (Aw _ z)) fun z=>(Ad.mp z).elim (fun e=>.inl (Ab _ (zY.mpr e))) fun z=>.inr (Aw _ z);refine⟨fun y hy=>?_,fun y hy=>?_,?_,fun i j y hi hj ne e=>(h.first i j y hi hj ne e).elim fun o z=>z.elim fun p z=>⟨o,p,g _ z⟩,fun y hy z n=>?_⟩
 ·rcases zZ.mp hy with m|m
  ·exact h.tr y (Af _ m)
  ·obtain⟨z,n,rfl⟩:=(hn y).mp m;exact tx.next n
 ·rcases zZ.mp hy with m|m
  ·exact h.ok y m
  ·rw[zY.mp m];exact⟨tx,x1⟩
 ·refine BZ.mpr ⟨h.nd,by simp,fun a ha b hb e=>?_⟩;rw[zY.mp hb] at e;exact hx (e▸ha)
 ·rcases zZ.mp hy with m|m
  ·exact g _ (h.next y m z n)
  ·rw[zY.mp m] at n ⊢;exact .inr (Ab _ ((hn _).mpr ⟨z,n,rfl⟩))
theorem Wk.closed{ks:List (List Nat)}{sn:List T3}(h:Wk ks sn []):FO ks fun x=>∃y∈sn,y.1=x:=by
 have g:∀{y:T3},y∈sn\/y∈([]:List T3)->y∈sn:=fun z=>z.elim id fun z=>absurd z (by simp);refine⟨fun i j x hi hj ne e=>?_,fun n x y hn ⟨q,hq,e1⟩ e=>?_,fun n x y hn ⟨q,hq,e1⟩ e=>?_,fun hq84=>by obtain⟨q,hq,e⟩:=hq84;exact(h.ok q hq).2 e⟩
 ·obtain⟨o,p,z⟩:=h.first i j x hi hj ne e;exact⟨_,g z,rfl⟩
 ·exact⟨_,g (h.next q hq y ⟨n,hn,.inl (by rw[e1];exact e)⟩),rfl⟩
 ·exact⟨_,g (h.next q hq y ⟨n,hn,.inr (by rw[e1];exact e)⟩),rfl⟩
def tls:List Nat->List (List Nat)
 |[]=>[[]]
 |a::r=>(a::r)::tls r
theorem GK:∀{z x:List Nat},x∈tls (z++x)
 |[],[]=>zX
 |[],_::_=>zX
 |a::z,x=>Af _ GK
theorem He:∀x:List Nat,(tls x).length=x.length+1
 |[]=>rfl
 |_::r=>by rw[tls,AE,He r,AE]
theorem fh{α β:Type}(f:α->List β)(M:Nat):∀l:List α,(∀a∈l,(f a).length<=M)->(l.flatMap f).length<=l.length*M
 |[],_=>by simp
 |a::l,h=>by
  rw[List.flatMap_cons,zW,AE,Nat.succ_mul];have:=h a zX;have:=fh f M l fun b hb=>h b (Af _ hb);lia
theorem Wk.few{ks:List (List Nat)}{sn wt:List T3}(h:Wk ks sn wt)(n8:ks.length<=8)(l40:∀w∈ks,w.length<=40):sn.length<=20992:=by
 have h1:=sub_len ((ks.flatMap tls).flatMap fun r=>ks.flatMap fun o=>ks.map fun p=>(r,o,p)) h.nd fun x hx=>by
  obtain⟨⟨_,⟨w,hw,z,ew⟩,ho,hp⟩,_⟩:=h.ok x hx;refine Ca.mpr ⟨x.1,Ca.mpr ⟨w,hw,by rw[ew];exact GK⟩,Ca.mpr ⟨x.2.1,ho,Ae.mpr ⟨x.2.2,hp,rfl⟩⟩⟩
 have h2:=fh tls 41 ks fun w hw=>by rw[He];have:=l40 w hw;lia
 have h3:=fh (fun r:List Nat=>ks.flatMap fun o=>ks.map fun p=>((r,o,p):T3)) 64 (ks.flatMap tls) fun r _=>by
  have:=fh (fun o=>ks.map fun p=>((r,o,p):T3)) 8 ks fun o _=>by rw[zV];exact n8
  lia
 lia
end KM
namespace L2
open PySem PySem.Spec PyProof.Rows
theorem Io:bootBuiltins "int"=some (.type "int"):=by decide +kernel
theorem ID:bootBuiltins "bool"=some (.type "bool"):=by decide +kernel
theorem Gp:bootBuiltins "tuple"=some (.type "tuple"):=by decide +kernel
theorem Ex:bootBuiltins "list"=some (.type "list"):=by decide +kernel
theorem Jy:bootBuiltins "str"=some (.type "str"):=by decide +kernel
theorem Ir:bootBuiltins "len"=some (.builtin "len"):=by decide +kernel
theorem DY:bootBuiltins "isinstance"=some (.builtin "isinstance"):=by decide +kernel
theorem Iq:bootBuiltins "all"=some (.builtin "all"):=by decide +kernel
theorem JG:bootBuiltins "max"=some (.builtin "max"):=by decide +kernel
theorem FN:bootBuiltins "min"=some (.builtin "min"):=by decide +kernel
theorem ak{X:Cx}{scope:Scope}{ts cap:List Str}{js:List Nat}(h1:scope.kind=.function)(h2:(scope.names.all fun y=>y.2 != .cell)=true)(h3:(scope.names.all fun y=>y.2 != .local||scope.names.lookup y.1==some .local)=true)
  (h4:(scope.names.all fun y=>y.2 != .free||X.env.kindOf y.1==some .cell||X.env.kindOf y.1==some .free)=true)(h5:cap.map some=js.map fun j=>X.N[j]?)(h6:(cap.all fun y=>scope.names.lookup y==some .free)=true)(h7:(ts++cap).Nodup):aU X scope ts cap js where
 kind:=h1
 one:=fun y hy e=>by have:=AZ.mp h2 y hy;rw[e] at this;cases this
 names:=fun y hy e=>by
  have:=AZ.mp h3 y hy;rw[e] at this;simpa using this
 free:=fun y hy e=>by
  have:=AZ.mp h4 y hy;rw[e] at this;simpa using this
 IE:=h5
 JV:=fun _ _ z=>by cases z
 JK:=fun y hy=>by
  have:=AZ.mp h6 y hy;simpa using this
 nd:=h7
theorem bp{env:Env}{c j pos}{es:List Expr}:starEach (.Constant c j pos::es) env=(false,eval (.Constant c j pos) env)::starEach es env:=rfl
theorem ax{env:Env}{x pos}{es:List Expr}:starEach (.Name x pos::es) env=(false,eval (.Name x pos) env)::starEach es env:=rfl
theorem eW{env:Env}{a b c pos}{es:List Expr}:starEach (.Call a b c pos::es) env=(false,eval (.Call a b c pos) env)::starEach es env:=rfl
def strOf:Expr->Option Str
 |.Constant (.str x) _ _=>some x
 |_=>none
structure DD where
 f:Addr
 fd:FuncData
structure Def(K:W.Frag)(mg:Str->Option Value)(x:Str)(st:Stmt)(ps:List Str)(d:DD):Prop where
 fn:Fun K x x st d.f d.fd
 m:mg x=some (.ref d.f)
 b:Binds K d.fd ps []
def hid (p:Addr)(H:Hp):Hp:=fun b=>if b=p then none else H b
theorem fZ{p b:Addr}{H:Hp}(h:b≠p):hid p H b=H b:=CZ h
theorem aZ(p:Addr)(H:Hp):DN (hid p H) H:=fun b o e=>by
 unfold hid at e;split at e
 ·cases e
 ·exact e
theorem DN.hid{p:Addr}{H H':Hp}(e:DN H H'):DN (hid p H) (L2.hid p H'):=fun b o q=>by
 unfold L2.hid at q ⊢;split at q
 ·cases q
 ·rename_i h;rw[CZ h];exact e b o q
def DOk (a b c:Int):Prop:=1<=b/\b<=2147483648/\1000000000<=c/\c<=2147483647
def Ds (H:Hp)(p:Addr):Prop:=∃a b c,H p=some (.lst [.int a,.int b,.int c])/\DOk a b c
structure Dr(p:Addr)(H H':Hp):Prop where
 same:DN (hid p H) (hid p H')
 ds:Ds H' p
theorem Dr.refl{p:Addr}{H:Hp}(h:Ds H p):Dr p H H:=⟨DN.refl _,h⟩
theorem Dr.trans{p:Addr}{H H1 H2:Hp}(a:Dr p H H1)(b:Dr p H1 H2):Dr p H H2:=⟨a.same.trans b.same,b.ds⟩
theorem Ds.same{p:Addr}{H H':Hp}(h:Ds H p)(e:DN H H'):Ds H' p:=by
 obtain⟨a,b,c,q,r⟩:=h;exact⟨a,b,c,e _ _ q,r⟩
theorem Dr.of_same{p:Addr}{H H':Hp}(h:Ds H p)(e:DN H H'):Dr p H H':=⟨e.hid,h.same e⟩
theorem Dr.Iw{p:Addr}{H:Hp}{a b c:Int}(h:DOk a b c):Dr p H (upd H p (.lst [.int a,.int b,.int c])):=
 ⟨fun q o e=>by
  unfold hid at e ⊢;split at e
  ·cases e
  ·rename_i n;rw[CZ n,ar n];exact e,a,b,c,ae,h⟩
theorem Ds.ne{p q:Addr}{H:Hp}(h:Ds H p)(n:H q=none):p≠q:=by
 obtain⟨a,b,c,e,_⟩:=h;exact az e n
theorem Dr.new{p q:Addr}{H:Hp}(h:Ds H p)(n:H q=none)(o:HO):Dr p H (upd H q o):=Dr.of_same h (af n o)
theorem cN{p q:Addr}{H:Hp}(h:Ds H p)(n:H q=none)(o:HO):hid p (upd H q o) q=some o:=by
 rw[fZ (Dw (h.ne n)),ae]
structure Tb where
 a:Int
 b:Int
 c:Int
 d:Int
def Tb.vs(t:Tb):List V:=[.int t.a,.int t.b,.int t.c,.int t.d]
def Tb.mul(s t:Tb):Tb:=⟨s.a*t.a+s.b*t.c,s.a*t.b+s.b*t.d,s.c*t.a+s.d*t.c,s.c*t.b+s.d*t.d⟩
def Tb.one:Tb:=⟨1,0,0,1⟩
def Tb.worth(t:Tb):Int:=t.a*t.d-t.b*t.c
def Tb.dat(t:Tb):PyData:=.tuple [.int t.a,.int t.b,.int t.c,.int t.d]
def T4 (K:W.Frag)(H:Hp)(v:V)(t:Tb):Prop:=∃a,v=.ref a/\SqT K H a t.vs
def T4o (H:Hp)(v:V)(t:Tb):Prop:=∃a,v=.ref a/\H a=some (.tup t.vs)
theorem T4o.t4{K:W.Frag}{H:Hp}{v:V}{t:Tb}(h:T4o H v t):T4 K H v t:=by
 obtain⟨a,rfl,e⟩:=h;exact⟨a,rfl,SqT.of e⟩
theorem T4o.mono{H H':Hp}{v:V}{t:Tb}(h:T4o H v t)(e:DN H H'):T4o H' v t:=by
 obtain⟨a,rfl,q⟩:=h;exact⟨a,rfl,e _ _ q⟩
theorem T4.mono{K:W.Frag}{H H':Hp}{v:V}{t:Tb}(h:T4 K H v t)(e:DN H H'):T4 K H' v t:=by
 obtain⟨a,rfl,q⟩:=h;exact⟨a,rfl,e.Kf q⟩
theorem T4.dat{K:W.Frag}{H:Hp}{v:V}{t:Tb}(h:T4 K H v t):EH K H v t.dat:=by
 obtain⟨a,rfl,q⟩:=h;exact .tup q (.cons (.int _) (.cons (.int _) (.cons (.int _) (.cons (.int _) .nil))))
theorem Tb.lay(t:Tb):t.dat.canLay0=true:=rfl
theorem Tb.depth(t:Tb):t.dat.depth<=60:=by show 1<=60;decide
theorem Tb.eqv(t:Tb):PyData.eqv t.dat t.dat=true:=SeqAt.eqv_refl _ t.lay
def Lt2 (n:Nat)(x:Int):Prop:=x.natAbs<2^n
structure Bd(n:Nat)(t:Tb):Prop where
 a:Lt2 n t.a
 b:Lt2 n t.b
 c:Lt2 n t.c
 d:Lt2 n t.d
theorem Lt2.mono{n m:Nat}{x:Int}(h:Lt2 n x)(l:n<=m):Lt2 m x:=Ah h (Nat.pow_le_pow_right (by decide) l)
theorem Bd.mono{n m:Nat}{t:Tb}(h:Bd n t)(l:n<=m):Bd m t:=⟨h.a.mono l,h.b.mono l,h.c.mono l,h.d.mono l⟩
theorem Lt2.dot{n m:Nat}{a e b g:Int}(ha:Lt2 n a)(he:Lt2 m e)(hb:Lt2 n b)(hg:Lt2 m g):Lt2 (n+m+1) (a*e+b*g):=by
 unfold Lt2 at *;have h1:(a*e+b*g).natAbs<=(a*e).natAbs+(b*g).natAbs:=Int.natAbs_add_le _ _;rw[Int.natAbs_mul,Int.natAbs_mul] at h1;have h2:a.natAbs*e.natAbs<2^n*2^m:=Nat.mul_lt_mul'' ha he;have h3:b.natAbs*g.natAbs<2^n*2^m:=Nat.mul_lt_mul'' hb hg;rw[Nat.pow_succ,Nat.pow_add];lia
theorem Bd.mul{n m:Nat}{s t:Tb}(hs:Bd n s)(ht:Bd m t):Bd (n+m+1) (s.mul t):=
 ⟨hs.a.dot ht.a hs.b ht.c,hs.a.dot ht.b hs.b ht.d,hs.c.dot ht.a hs.d ht.c,hs.c.dot ht.b hs.d ht.d⟩
theorem Lt2.bits{n:Nat}{x:Int}(h:Lt2 n x):Builtin.Int.intBits x<=n:=by
 unfold Builtin.Int.intBits;unfold Lt2 at h;split
 ·exact Ag _
 ·rename_i z;have nz:x.natAbs≠0:=fun q=>z (by rw[Int.natAbs_eq_zero.mp q];rfl);exact(Nat.log2_lt nz).mpr h
theorem Lt2.big{n m:Nat}{x y:Int}(hx:Lt2 n x)(hy:Lt2 m y)(hn:n<=1048576)(hm:m<=1048576):vB x y:=⟨Ak hx.bits hn,Ak hy.bits hm⟩
def Fw:V->Bool
 |.int _=>true
 |_=>false
inductive Kn(H:Hp):V->Prop where
 |non:Kn H .non
 |bl (b:Bool):Kn H (.bl b)
 |int (i:Int):Kn H (.int i)
 |str (x:Str):Kn H (.str x)
 |lst {a:Addr}{xs:List V} (e:H a=some (.lst xs)):Kn H (.ref a)
 |tup {a:Addr}{xs:List V} (e:H a=some (.tup xs)):Kn H (.ref a)
inductive Th(H:Hp):V->Bool->Prop where
 |non:Th H .non false
 |bl (b:Bool):Th H (.bl b) false
 |int (i:Int):Th H (.int i) false
 |str (x:Str):Th H (.str x) false
 |lst {a:Addr}{xs:List V} (e:H a=some (.lst xs)):Th H (.ref a) false
 |tup {a:Addr}{xs:List V} (e:H a=some (.tup xs)) (k:∀x∈xs,Kn H x):Th H (.ref a) (xs.length==4&&xs.all Fw)
section
variable {K:PySem.W.Frag}{H:Hp}{v:V}
def Kz:V->Bool
 |.int _=>true
 |.bl _=>true
 |_=>false
def isB:V->Bool
 |.bl _=>true
 |_=>false
theorem Kn.as_int(h:Kn H v):∃t,FQ K H v t/\W.kitOne K t (.type "int")=some (Kz v):=by
 cases h with
 |non=>exact⟨_,.non,rfl⟩
 |bl b=>exact⟨_,.bl b,rfl⟩
 |int i=>exact⟨_,.int i,rfl⟩
 |str x=>exact⟨_,.str x,rfl⟩
 |lst e=>exact⟨_,.lst e,rfl⟩
 |tup e=>exact⟨_,.tup e,rfl⟩
theorem Kn.as_bool(h:Kn H v):∃t,FQ K H v t/\W.kitOne K t (.type "bool")=some (isB v):=by
 cases h with
 |non=>exact⟨_,.non,rfl⟩
 |bl b=>exact⟨_,.bl b,rfl⟩
 |int i=>exact⟨_,.int i,rfl⟩
 |str x=>exact⟨_,.str x,rfl⟩
 |lst e=>exact⟨_,.lst e,rfl⟩
 |tup e=>exact⟨_,.tup e,rfl⟩
end
def GO:Sp:=fun vs H Q _=>∃v,vs=[v]/\Kn H v/\Q (.bl (Fw v)) H
def FG:Sp:=fun vs H Q _=>∃v b,vs=[v]/\Th H v b/\∀H',DN H H'->Q (.bl b) H'
structure Hs(H:Hp)(L:List (Addr×HO))(H':Hp):Prop where
 all:DN H H'
 at':∀a o,(a,o)∈L->H' a=some o
 nd:(L.map (·.1)).Nodup
 fr:∀a o,(a,o)∈L->H a=none
theorem Hs.start(H:Hp):Hs H [] H:=⟨DN.refl H,fun _ _ h=>absurd h (by simp),by simp,fun _ _ h=>absurd h (by simp)⟩
theorem Hs.new{H H':Hp}{L:List (Addr×HO)}{a:Addr}(h:Hs H L H')(n:H' a=none)(o:HO):Hs H (L++[(a,o)]) (upd H' a o) where
 all:=h.all.trans (af n o)
 at':=fun b u hm=>by
  rcases zZ.mp hm with z|z
  ·exact af n o _ _ (h.at' b u z)
  ·have e:(b,u)=(a,o):=by simpa using z
   cases e;exact ae
 nd:=by
  rw[An,BZ];refine⟨h.nd,by simp,fun x hx y hy=>?_⟩;have ey:y=a:=by simpa using hy
  subst ey;obtain⟨⟨b,u⟩,hb,e⟩:=Ae.mp hx;cases e;exact az (h.at' b u hb) n
 fr:=fun b u hm=>by
  rcases zZ.mp hm with z|z
  ·exact h.fr b u z
  ·have e:(b,u)=(a,o):=by simpa using z
   cases e;exact h.all.free n
theorem Hs.get{H H':Hp}{L:List (Addr×HO)}{a:Addr}{o:HO}(h:Hs H L H')(i:Nat)(e:L[i]?=some (a,o):=by rfl):H' a=some o:=h.at' a o (Aq e)
theorem Hs.ne{H H':Hp}{L:List (Addr×HO)}{a b:Addr}{o u:HO}(h:Hs H L H')(i j:Nat)(ij:i≠j)(e:L[i]?=some (a,o):=by rfl)(f:L[j]?=some (b,u):=by rfl):a≠b:=fun z=>by
 have e1:(L.map (·.1))[i]?=some a:=by rw[Ao,e];rfl
 have f1:(L.map (·.1))[j]?=some b:=by rw[Ao,f];rfl
 rw[z] at e1;obtain⟨hi,e2⟩:=Ai.mp e1;obtain⟨hj,f2⟩:=Ai.mp f1;exact ij ((Bz h.nd).mp (e2.trans f2.symm))
theorem Hs.put{H H':Hp}{L:List (Addr×HO)}{a:Addr}{o:HO}(h:Hs H L H')(i:Nat)(o':HO)(e:L[i]?=some (a,o):=by rfl):Hs H (L.set i (a,o')) (upd H' a o') where
 all:=fun b u q=>by
  have ha:=h.fr a o (Aq e);rw[ar (az q ha)];exact h.all b u q
 at':=fun b u hm=>by
  obtain⟨j,ej⟩:=CD hm;by_cases hj:i=j
  ·subst hj;have hi:=(Ai.mp e).1;rw[BA hi] at ej;cases ej;exact ae
  ·rw[BB hj] at ej;rw[ar (Dw (h.ne i j hj e ej))];exact h.at' b u (Aq ej)
 nd:=by
  have:(L.set i (a,o')).map (·.1)=L.map (·.1):=by
   apply CA;intro j;rw[Ao,Ao];by_cases hj:i=j
   ·subst hj;have hi:=(Ai.mp e).1;rw[BA hi,e];rfl
   ·rw[BB hj]
  rw[this];exact h.nd
 fr:=fun b u hm=>by
  obtain⟨j,ej⟩:=CD hm;by_cases hj:i=j
  ·subst hj;have hi:=(Ai.mp e).1;rw[BA hi] at ej;cases ej;exact h.fr a o (Aq e)
  ·rw[BB hj] at ej;exact h.fr b u (Aq ej)
theorem Hs.mono{H H' H'':Hp}{L:List (Addr×HO)}(h:Hs H L H')(s:DN H' H''):Hs H L H'':=⟨h.all.trans s,fun a o m=>s _ _ (h.at' a o m),h.nd,h.fr⟩
theorem aG{X:Cx}{e:Expr}{te:TE}(h:PE X e te)(hs:starEach [e] X.env=(false,eval e X.env)::starEach [] X.env):PA X [e] (fF te Hz):=@DJ _ _ _ _ _ h (DT _) hs
theorem aM{X:Cx}{r:List V->Hp->VK->Prop}{e:Expr}{te:TE}{p pos:Pos}(hc:cg X (.builtin "len") r)(hg:Gl X "len")(hm:X.mg "len"=none)(h:PE X e te)(hs:starEach [e] X.env=(false,eval e X.env)::starEach [] X.env):PE X (.Call (.Name "len" p) [e] [] pos) (tCB r (fF te Hz)):=@aP _ _ _ _ _ _ _ _ _ hc hg hm Ir (aG h hs) (by decide) (by decide) hs rfl
theorem aY{X:Cx}{k k':Nat}{x:Str}{st:Stmt}{ps:List Str}{d:DD}{sp:Sp}{p pos:Pos}{e:Expr}{es:List Expr}{t:TA}(D:Def X.K X.mg x st ps d)(F:DQ X.prog X.w X.K X.mg X.base CX0 k d.f d.fd ps sp)(hk:k<=k')(hr:EG k' X.A)(hg:Gl X x)(ha:PA X (e::es) t)(hdb:(x==("__debug__":Str))=false)(he:starEach (e::es) X.env=(false,eval e X.env)::starEach es X.env)(hpl:(backTo pos (starEach es X.env)).any (·.1)=false):PE X (.Call (.Name x p) (e::es) [] pos) (nG sp [] E0 t):=@jJ _ _ _ _ _ _ _ _ _ _ _ _ _ _ _ _ (F.mono hk) hr hg D.m D.fn.kp D.b .nil qT ha hdb he hpl
theorem bb{X:Cx}{k k':Nat}{x:Str}{st:Stmt}{ps:List Str}{d:DD}{sp:Sp}{p pos:Pos}{e:Expr}{te:TE}(D:Def X.K X.mg x st ps d)(F:DQ X.prog X.w X.K X.mg X.base CX0 k d.f d.fd ps sp)(hk:k<=k')(hr:EG k' X.A)(hg:Gl X x)(h:PE X e te)(hs:starEach [e] X.env=(false,eval e X.env)::starEach [] X.env)(hdb:(x==("__debug__":Str))=false):PE X (.Call (.Name x p) [e] [] pos) (nG sp [] E0 (fF te Hz)):=@aY _ _ _ _ _ _ _ _ _ _ _ _ _ D F hk hr hg (aG h hs) hdb hs rfl
theorem jB{X:Cx}{c:Str}{j:Nat}{cp apos cpos:Pos}{e:Expr}{te:TE}(h:PE X e te)(hs:starEach [e] X.env=(false,eval e X.env)::starEach [] X.env)(hfew:((backTo cpos (starEach [e] X.env)).all (fun x=>!x.1)&&(backToKw cpos (keywordEach [] X.env)).all (fun x=>x.1.isSome)&&decide ([e].length+([]:List Keyword).length+(if ([]:List Keyword).isEmpty then 0 else 1)<30))=true)(hline:(apos.endLine==cpos.line)=true):PE X (.Call (.Attribute (.Constant (.str c) j cp) "join" apos) [e] [] cpos) (tBM X.K "str" (tD X.K) (tC (.str c)) (fF te Hz)):=@gu _ _ _ _ _ _ _ _ _ _ _ _ Dl PySem.F.slot_str_join PySem.F.type_str_join II (bQ _) (aG h hs) rfl hfew hline hs rfl
theorem cR{X:Cx}{apos cpos:Pos}{o e:Expr}{to te:TE}(ho:PE X o to)(h:PE X e te)(hs:starEach [e] X.env=(false,eval e X.env)::starEach [] X.env)(hbase:attributeBase o "append" X.env (eval o X.env)=eval o X.env)(hfew:((backTo cpos (starEach [e] X.env)).all (fun x=>!x.1)&&(backToKw cpos (keywordEach [] X.env)).all (fun x=>x.1.isSome)&&decide ([e].length+([]:List Keyword).length+(if ([]:List Keyword).isEmpty then 0 else 1)<30))=true)(hline:(apos.endLine==cpos.line)=true):PE X (.Call (.Attribute o "append" apos) [e] [] cpos) (tBM X.K "list" Hg to (fF te Hz)):=@gu _ _ _ _ _ _ _ _ _ _ _ _ Dk Do Dm FI ho (aG h hs) hbase hfew hline hs rfl
end L2
local macro_rules|`(tactic|walk_at "s")=>`(tactic|exact⟨rfl,rfl,rfl,by decide +kernel,rfl,by decide +kernel,by decide +kernel⟩)
set_option hygiene false in
local macro_rules|`((fk $k $d $p $s))=>`(DQ P w K mg base CX0 $k ($d).f ($d).fd $p $s)|`((dg $n $i $p $d $k $s))=>`(Def K mg $n (top $i) $p $d/\(fk $k $d $p $s))
set_option hygiene false in
local macro_rules|`(tactic|exists $s)=>`(tactic|(refine D.fn.ok (N:=$s) (by walk_at "s") (fun vs H Q E h=>?_) (fun cdv A outer s H vs Q E hr h=>?_);(focus(repeat obtain⟨_,h⟩:=h);subst_vars;rfl);have hc:=hr.calm;have nd:List.Nodup (α:=Str) $s :=by decide +kernel))
local macro_rules|`(tactic|walk_at "d")=>`(tactic|try dsimp only [bJ,Cx.nox,Cx.Ef])
set_option hygiene false in
local macro_rules|`(tactic|walk_at "u")=>`(tactic|exact fun _ _ _ _ _ _ us hl=>by first|(obtain ⟨_,rfl⟩ :=dM hl;rfl)|(obtain⟨_,_,rfl⟩:=jj hl;rfl)|(obtain⟨_,_,_,rfl⟩:=wg hl;rfl))
set_option hygiene false in
local macro_rules|`(($n:num))=>`(pv $n)|`((nd $s))=>`(show List.Nodup (α:=Str) $s by decide +kernel)
namespace K3
open PySem
def top (i:Nat):Stmt:=PySem.Challenge.pw_quadwords_k28_whole_hulls.main.body.getD i (.Pass ⟨0,0,0,0⟩)
end K3
namespace K3
open PySem PySem.Spec PyProof.Rows L2
abbrev Jv:Stmt:=top 51
def Gr:Sp:=fun vs H Q _=>∃(p:Addr)(m:Int),vs=[.ref p,.int m]/\Ds H p/\1<=m/\m<1000000000000000000000000000000000/\∀(r:Int)(H':Hp),0<=r->r<m->Dr p H H'->Q (.int r) H'
section
variable {P:Program}{w:World}{K:PySem.W.Frag}{mg:Str->Option Value}{base:Heap}
theorem HR:DK ["draws","many","found"] ["draws","many"] (aq Jv):=by walk_at "s"
theorem sy{d:DD}(D:Def K mg "_law_draw" Jv ["draws","many"] d):(fk 1 d ["draws","many"] Gr):=by
 refine D.fn.ok HR (fun vs H Q E h=>?_) (fun cdv A outer s H vs Q E hr h=>?_)
 ·obtain⟨p,m,rfl,_⟩:=h;rfl
 obtain⟨p,m,rfl,⟨a,b,c,hp,hb1,hb2,hc1,hc2⟩,hm1,hm2,q⟩:=h;have nd:=HR.nd;refine⟨_,(ag (br (aB IG (aK DO (0) ah (fun _ _=>rfl)) ah (aE _)) (ag (ay (i:=2) nd rfl (Or.inl rfl) (aA Eu (aK DO (0) ah (fun _ _=>rfl)) (1))) (ag (du (aA kq (aK DO (0) ah (fun _ _=>rfl)) (1)) (qp (0) ah set_list)) (ai (aC (2))))) DR) (ag (du (aA DV (aA Eu (aA Et (aK DO (0) ah (fun _ _=>rfl)) ah) (aK DO (0) ah (fun _ _=>rfl))) ah) (qp (0) ah set_list)) (ai (aC (aA Eu (aA GY (aA Eu (aA Et (aK DO (0) ah (fun _ _=>rfl)) (aA DV (aA GY (aK DO (0) ah (fun _ _=>rfl)) ah) ah)) ah) ah) (1)))))),?_⟩
 walk_at "d"
 have g0:SqL K H p [.int a,.int b,.int c]:=SqL.of hp;refine⟨_,rfl,p,_,0,_,rfl,rfl,g0,rfl,_,_,rfl,rfl,_,rfl,rO (fun h1=>?_) (fun h1=>?_)⟩
 ·refine⟨_,rfl,p,_,0,_,rfl,rfl,g0,rfl,_,rfl,_,_,rfl,rfl,by lia,?_⟩;refine⟨_,rfl,p,_,0,_,rfl,rfl,g0,rfl,_,rfl,_,_,rfl,rfl,⟨by lia,by lia⟩,?_⟩;refine⟨_,rfl,p,_,0,0,rfl,rfl,hp,rfl,?_⟩;refine⟨_,rfl,?_⟩;exact q _ _ (Bl _ (by lia)) (Bm _ (by lia)) (Dr.Iw ⟨hb1,hb2,hc1,hc2⟩)
 ·refine⟨_,rfl,p,_,1,_,rfl,rfl,g0,rfl,_,_,rfl,rfl,.inr ⟨by decide,by decide⟩,?_⟩;refine⟨_,rfl,p,_,2,_,rfl,rfl,g0,rfl,_,_,rfl,rfl,(show(0:Int)<c by lia),_,_,rfl,rfl,?_⟩;refine⟨_,rfl,p,_,1,1,rfl,rfl,hp,rfl,?_⟩;have e0:=Bl (b*69621) (show c≠0 by lia);have e1:=Bm (b*69621) (show(0:Int)<c by lia);have z1:1<=b*69621 % c+1:=by lia
  have z2:b*69621 % c+1<=2147483648:=by lia
  have g1:SqL K (upd H p (.lst [.int a,.int (b*69621 % c+1),.int c])) p [.int a,.int (b*69621 % c+1),.int c]:=SqL.of ae;have u0:0<=(b*69621 % c+1)/128:=Int.ediv_nonneg (by lia) (by decide);have u1:(b*69621 % c+1)/128<=16777216:=by lia
  refine⟨_,rfl,p,_,1,_,rfl,rfl,g1,rfl,_,rfl,p,_,1,_,rfl,rfl,g1,rfl,_,_,rfl,rfl,⟨by decide,by decide⟩,_,_,rfl,rfl,_,_,rfl,rfl,.inl ⟨?_,?_⟩,_,_,rfl,rfl,(show(0:Int)<2147483423 by decide),_,_,rfl,rfl,⟨by decide,by decide⟩,_,rfl,_,_,rfl,rfl,(show(0:Int)<m by lia),?_⟩
  ·lia
  ·lia
  exact q _ _ (Bl _ (by lia)) (Bm _ (by lia)) (Dr.Iw ⟨z1,z2,hc1,hc2⟩)
theorem HH:DK ["thing"] ["thing"] (aq (top 8)):=by walk_at "s"
theorem pI{d:DD}(D:Def K mg "is_whole" (top 8) ["thing"] d)(yh:mg "int"=none)(yA:mg "bool"=none)(xg:mg "isinstance"=none):(fk 1 d ["thing"] GO):=by
 refine D.fn.ok HH (fun vs H Q E h=>?_) (fun cdv A outer s H vs Q E hr h=>?_)
 ·obtain⟨v,rfl,_⟩:=h;rfl
 obtain⟨v,rfl,hk,q⟩:=h;refine⟨_,(ai (aC (fY (aP Ez rfl xg DY (DJ (0) (DJ (eG (v:=.ty "int") rfl yh Io rfl) DT))) (kC (uS (aP Ez rfl xg DY (DJ (0) (DJ (eG (v:=.ty "bool") rfl yA ID rfl) DT)))))))),?_⟩
 walk_at "d"
 obtain⟨t1,y1,e1⟩:=hk.as_int (K:=K);obtain⟨t2,y2,e2⟩:=hk.as_bool (K:=K);refine⟨v,rfl,v,.ty "int",t1,_,_,rfl,rfl,y1,e1,_,rfl,?_⟩;cases hb:Kz v with
 |true=>
  refine wU ⟨v,rfl,v,.ty "bool",t2,_,_,rfl,rfl,y2,e2,_,rfl,?_⟩;have z:(!isB v)=Fw v:=by cases v<;>first|rfl|(cases hb)
  rw[z];exact q
 |false=>
  refine wR ?_;have z:false=Fw v:=by cases v<;>first|rfl|(cases hb)
  rw[z];exact q
theorem Jr:DK ["thing"] ["thing"] (aq (top 9)):=by walk_at "s"
theorem Th.HC{H:Hp}{v:V}{b:Bool}(h:Th H v b):∃t,FQ K H v t/\((W.kitOne K t (.type "tuple")=some false/\b=false)\/(W.kitOne K t (.type "tuple")=some true/\∃a xs,v=.ref a/\H a=some (.tup xs)/\(∀x∈xs,Kn H x)/\b=(xs.length==4&&xs.all Fw))):=by
 cases h with
 |non=>exact⟨_,.non,.inl ⟨rfl,rfl⟩⟩
 |bl b=>exact⟨_,.bl b,.inl ⟨rfl,rfl⟩⟩
 |int i=>exact⟨_,.int i,.inl ⟨rfl,rfl⟩⟩
 |str x=>exact⟨_,.str x,.inl ⟨rfl,rfl⟩⟩
 |lst e=>exact⟨_,.lst e,.inl ⟨rfl,rfl⟩⟩
 |tup e k=>exact⟨_,.tup e,.inr ⟨rfl,_,_,rfl,e,k,rfl⟩⟩
theorem au{n:Nat}(h:n<=1000000):n<=sizeLine:=Ak h (by rw[sizeLine_eq];decide)
theorem uT{dw d:DD}(xA:(dg "is_whole" 8 ["thing"] dw 1 GO))(D:Def K mg "is_table" (top 9) ["thing"] d)(xC:mg "tuple"=none)(xf:mg "len"=none)(yg:mg "all"=none)(xg:mg "isinstance"=none):(fk 2 d ["thing"] FG):=by
 refine D.fn.ok Jr (fun vs H Q E h=>?_) (fun cdv A outer s H vs Q E hr h=>?_)
 ·obtain⟨v,b,rfl,_⟩:=h;rfl
 obtain⟨v,b,rfl,ht,q⟩:=h;have hc:=hr.calm;refine⟨_,(ai (aC (fY (aP Ez rfl xg DY (DJ (0) (DJ (eG (v:=.ty "tuple") rfl xC Gp rfl) DT))) (fY (cM Fb (aP DP rfl xf Ir (DJ (0) DT)) ah (aE _)) (kC (aP (kD hc) rfl yg Iq (DJ (aO hc (ak (ts:=["number"]) (cap:=[]) (js:=[]) rfl rfl rfl rfl rfl rfl (by decide +kernel)) (qv (0)) (fun _ _ _ _=>aj (i:=0) (nd ["number"]) rfl (Or.inl rfl) (.inr rfl)) (fun _ _ _ _=>aR) (fun _ _ _ _=>(jJ (xA.2.mono (by decide)) hr rfl xA.1.m xA.1.fn.kp xA.1.b .nil qT (DJ (0) DT)))) DT))))))),?_⟩
 walk_at "d"
 obtain⟨t1,y1,e1⟩:=Th.HC (K:=K) ht;rcases e1 with ⟨e1,eb⟩|⟨e1,a,xs,ev,ea,hk,eb⟩
 ·refine⟨v,rfl,v,.ty "tuple",t1,_,_,rfl,rfl,y1,e1,_,rfl,wR ?_⟩;rw[eb] at q;exact q H (DN.refl H)
 ·subst ev;refine⟨_,rfl,.ref a,.ty "tuple",t1,_,_,rfl,rfl,y1,e1,_,rfl,wU ?_⟩;refine⟨_,rfl,a,xs,rfl,.inr (SqT.of ea),rfl,_,rfl,rO (fun h1=>?_) (fun h1=>?_)⟩
  ·have l4:xs.length=4:=by
    have z:=Dh h1;injection z with z;lia
   refine⟨_,rfl,a,rfl,⟨xs,SqT.of ea⟩,?_⟩;refine wH (K:=K) (xs:=xs) (fun i ys H'=>H'=H/\ys=((xs.take i).map Fw).map V.bl) ⟨rfl,by simp⟩ (fun i ys H' hi z=>?_) (au (by lia)) (fun i ys H' hi z=>by rw[z.1];exact SqT.of ea) (fun i x ys H' hx z=>?_) (fun ys H' z p hp=>?_)
   ·rw[z.2];simp;lia
   ·obtain⟨rfl,rfl⟩:=z;have hi:i<xs.length:=(Ai.mp hx).1;refine⟨x,rfl,x,rfl,hk x (Aq hx),Nx.mk hi ⟨rfl,?_⟩⟩;rw[Au,hx,An,An];rfl
   ·obtain⟨rfl,rfl⟩:=z;refine⟨p,(xs.map Fw),rfl,?_,?_⟩
    ·rw[Bg];exact SqL.of ae
    ·have z:((xs.map Fw).all id)=b:=by
      rw[eb,l4];simp[List.all_map]
     rw[z];exact q _ (af hp _)
  ·have z:b=false:=by
    rw[eb];cases hb:(xs.length==4) with
    |false=>rfl
    |true=>exact absurd (Dd (congrArg (fun n:Nat=>V.int (n:Int)) (by simpa using hb))) h1
   rw[z] at q;exact q H (DN.refl H)
def iS (K:W.Frag):Sp:=fun vs H Q _=>∃u v s t n m,vs=[u,v]/\T4 K H u s/\T4 K H v t/\Bd n s/\Bd m t/\n<=1048576/\m<=1048576/\∀r H',DN H H'->T4o H' r (s.mul t)->Q r H'
def nI (K:W.Frag):Sp:=fun vs H Q _=>∃u t n,vs=[u]/\T4 K H u t/\Bd n t/\n<=1048576/\Q (.int t.worth) H
theorem pY{d:DD}(D:Def K mg "worth" (top 12) ["table"] d):(fk 1 d ["table"] (nI K)):=by
 exists["table","a","b","c","d"]
 obtain⟨u,t,n,rfl,⟨p,rfl,hp⟩,ht,hn,q⟩:=h;refine⟨_,(ag (du (0) (dq hc (av (aj (i:=1) nd rfl (Or.inl rfl)) (av (aj (i:=2) nd rfl (Or.inl rfl)) (av (aj (i:=3) nd rfl (Or.inl rfl)) (av (aj (i:=4) nd rfl (Or.inl rfl)) DW)))))) (ai (aC (aA ES (aA bD (1) (4)) (aA bD (2) (3)))))),?_⟩
 walk_at "d"
 refine⟨_,rfl,p,_,rfl,hp,rfl,_,_,rfl,_,_,rfl,_,_,rfl,_,_,rfl,rfl,?_⟩;refine⟨_,rfl,_,rfl,_,_,rfl,rfl,ht.a.big ht.d hn hn,_,rfl,_,rfl,_,_,rfl,rfl,ht.b.big ht.c hn hn,_,_,rfl,rfl,?_⟩;exact q
theorem pZ{d:DD}(D:Def K mg "_law_times" (top 54) ["one","other"] d)(xh:mg "range"=none)(xC:mg "tuple"=none):(fk 1 d ["one","other"] (iS K)):=by
 exists["one","other","found","row","column","top"]
 obtain⟨u,v,s,t,n,m,rfl,⟨p,rfl,hp⟩,⟨r,rfl,hr'⟩,hs,ht,hn,hm,q⟩:=h;refine⟨_,(ag (ay (i:=2) nd rfl (Or.inl rfl) (aS DT)) (ag (bV PassesOwn.never hc (qv (aN (DJ ah (DJ ah DT)))) (aj (i:=3) nd rfl (Or.inl rfl)) (ai (bV PassesOwn.never hc (bh rfl xh (DJ ah DT)) (aj (i:=4) nd rfl (Or.inl rfl)) (ag (ay (i:=5) nd rfl (Or.inl rfl) (aA bD (aK Ek (0) (3) (fun _ _=>rfl)) (aK Ek (1) (4) (fun _ _=>rfl)))) (ai (bu (gu Dk Do Dm FI (2) (DJ (aA DV (5) (aA bD (aK Ek (0) (aA DV (3) ah) (fun _ _=>rfl)) (aK Ek (1) (aA DV ah (4)) (fun _ _=>rfl)))) DT)))))))) (ai (aC (bI Fv rfl xC Gp (DJ (2) DT)))))),?_⟩
 walk_at "d"
 refine⟨au (by show 0<=1000000;decide),fun f hf=>?_⟩;refine⟨au (by show 2<=1000000;decide),fun w hw=>⟨w,rfl,⟨_,SqT.of ae⟩,?_⟩⟩;have S0:DN H (upd H f (.lst [])):=af hf _;have S1:DN H (upd (upd H f (.lst [])) w (.tup [.int 0,.int 2])):=S0.trans (af hw _);have nfw:f≠w:=az (H:=upd H f (.lst [])) ae hw;have keep:∀{H':Hp}(l:List V),DN H H'->H' w=some (.tup [.int 0,.int 2])->DN H (upd H' f (.lst l))/\upd H' f (.lst l) f=some (.lst l)/\upd H' f (.lst l) w=some (.tup [.int 0,.int 2]):=fun {H'} l e1 e2=>
  ⟨fun b o e=>by rw[ar (az e hf)];exact e1 b o e,ae,by rw[ar (Dw nfw)];exact e2⟩
 refine sG (K:=K) (xs:=[.int 0,.int 2]) (fun i σ H'=>∃o1 o2 o3,σ=[some (.ref p),some (.ref r),some (.ref f),o1,o2,o3]/\DN H H'/\H' f=some (.lst ((s.mul t).vs.take (2*i)))/\H' w=some (.tup [.int 0,.int 2]))
  ⟨none,none,none,rfl,S1,by rw[ar nfw];exact ae,ae⟩ (fun i σ H' hi z=>by obtain⟨_,_,_,_,_,_,e⟩:=z;exact SqT.of e) (fun i x σ H' hx z=>?_) (fun σ H' z=>?_)
 ·obtain⟨o1,o2,o3,rfl,e1,e2,e3⟩:=z;have hi:i<2:=(Ai.mp hx).1;refine⟨2,rfl,by decide,by decide,?_⟩;refine fD (lo:=0) (n:=2) (fun j σ H'=>∃o2 o3,σ=[some (.ref p),some (.ref r),some (.ref f),some x,o2,o3]/\DN H H'/\H' f=some (.lst ((s.mul t).vs.take (2*i+j)))/\H' w=some (.tup [.int 0,.int 2]))
   ⟨o2,o3,rfl,e1,e2,e3⟩ (fun j σ H' hj z=>?_) (fun σ H' z=>?_)
  ·obtain⟨o2,o3,rfl,e1,e2,e3⟩:=z;have hp':=e1.Kf hp;have hr'':=e1.Kf hr';have fct:∃(ri α β γ δ:Int),x=.int ri/\atI s.vs ri=some (.int α)/\atI s.vs (ri+1)=some (.int β)/\atI t.vs (0+(j:Int))=some (.int γ)/\atI t.vs (2+(0+(j:Int)))=some (.int δ)/\vB α γ/\vB β δ /\
     (s.mul t).vs.take (2*i+(j+1))=(s.mul t).vs.take (2*i+j)++[.int (α * γ+β * δ)]:=by
    have two:∀k:Nat,k<2->k=0\/k=1:=fun k hk=>by lia
    rcases two i hi with rfl|rfl<;>rcases two j hj with rfl|rfl<;>(cases hx)
    ·exact⟨0,s.a,s.b,t.a,t.c,rfl,rfl,rfl,rfl,rfl,hs.a.big ht.a hn hm,hs.b.big ht.c hn hm,rfl⟩
    ·exact⟨0,s.a,s.b,t.b,t.d,rfl,rfl,rfl,rfl,rfl,hs.a.big ht.b hn hm,hs.b.big ht.d hn hm,rfl⟩
    ·exact⟨2,s.c,s.d,t.a,t.c,rfl,rfl,rfl,rfl,rfl,hs.c.big ht.a hn hm,hs.d.big ht.c hn hm,rfl⟩
    ·exact⟨2,s.c,s.d,t.b,t.d,rfl,rfl,rfl,rfl,rfl,hs.c.big ht.b hn hm,hs.d.big ht.d hn hm,rfl⟩
   obtain⟨ri,α,β,γ,δ,rfl,A0,A1,B0,B1,c1,c2,tk⟩:=fct;refine⟨_,rfl,_,rfl,p,_,ri,_,rfl,rfl,hp',A0,_,rfl,_,rfl,r,_,_,_,rfl,rfl,hr'',B0,_,_,rfl,rfl,c1,?_⟩;refine⟨_,rfl,.inl ⟨rfl,_,SqL.of e2⟩,_,rfl,_,rfl,_,rfl,_,_,rfl,rfl,p,_,_,_,rfl,rfl,hp',A1,_,rfl,_,rfl,_,_,rfl,rfl,r,_,_,_,rfl,rfl,hr'',B1,_,_,rfl,rfl,c2,_,_,rfl,rfl,?_⟩;have ln:((s.mul t).vs.take (2*i+j)).length<=4:=by rw[Az];exact Nat.min_le_right _ _
   refine⟨f,_,_,rfl,rfl,e2,Bi ln (Ah (show 4<1000000 by decide) (au (zU _))),?_⟩;obtain⟨a1,a2,a3⟩:=keep ((s.mul t).vs.take (2*i+j)++[.int (α * γ+β * δ)]) e1 e3;exact⟨_,_,rfl,a1,by rw[tk];exact a2,a3⟩
  ·obtain⟨o2,o3,rfl,e1,e2,e3⟩:=z;exact⟨_,o2,o3,rfl,e1,e2,e3⟩
 ·obtain⟨o1,o2,o3,rfl,e1,e2,e3⟩:=z;refine⟨_,rfl,f,(s.mul t).vs,rfl,.inl ⟨SqL.of e2,fun l hl=>?_⟩⟩;exact q _ _ (e1.trans (af hl _)) ⟨l,rfl,ae⟩
def cK (ts:List Tb):Tb:=ts.foldl Tb.mul Tb.one
inductive TL(K:W.Frag)(H:Hp):List V->List Tb->Prop where
 |nil:TL K H [] []
 |cons {v:V}{t:Tb}{vs:List V}{ts:List Tb}:T4 K H v t->TL K H vs ts->TL K H (v::vs) (t::ts)
theorem TL.length{H:Hp}:∀{vs:List V}{ts:List Tb},TL K H vs ts->vs.length=ts.length
 |_,_,.nil=>rfl
 |_,_,.cons _ r=>by simp[TL.length r]
theorem TL.get{H:Hp}:∀{vs:List V}{ts:List Tb}{i:Nat}{v:V},TL K H vs ts->vs[i]?=some v->∃t,ts[i]?=some t/\T4 K H v t
 |_,_,_,_,.nil,e=>by simp at e
 |_,_,0,_,.cons h _,e=>by simp at e;subst e;exact⟨_,rfl,h⟩
 |_,_,i+1,v,.cons _ r,e=>by
  obtain⟨d,h1,h2⟩:=TL.get (i:=i) (v:=v) r (by simpa using e);exact⟨d,by simpa using h1,h2⟩
theorem eB(ts:List Tb)(t:Tb):cK (ts++[t])=(cK ts).mul t:=by unfold cK;rw[List.foldl_append];rfl
theorem gY{n:Nat}:∀{ts:List Tb},(∀t∈ts,Bd n t)->∀i,Bd ((n+1)*i+1) (cK (ts.take i)):=by
 intro ts h i;induction i with
 |zero=>exact(show Bd 1 Tb.one from⟨(by show(1:Int).natAbs<2^1;decide),(by show(0:Int).natAbs<2^1;decide),(by show(0:Int).natAbs<2^1;decide),(by show(1:Int).natAbs<2^1;decide)⟩)
 |succ i ih=>
  by_cases hi:i<ts.length
  ·rw[Au,Ac hi];show Bd _ (cK (ts.take i++[ts[i]]));rw[eB];have z:=ih.mul (h ts[i] (Ay hi));have e:(n+1)*(i+1)+1=(n+1)*i+1+n+1:=by rw[Nat.mul_add];lia
   rw[e];exact z
  ·have e:ts.take (i+1)=ts.take i:=by rw[Ap (by lia),Ap (by lia)]
   rw[e];exact ih.mono (by rw[Nat.mul_add];lia)
def qr (K:W.Frag):Sp:=fun vs H Q _=>∃l xs ts n,vs=[.ref l]/\SqL K H l xs/\TL K H xs ts/\(∀t∈ts,Bd n t)/\(n+1)*ts.length+1<=1048576/\n<=1048576/\∀r H',DN H H'->T4o H' r (cK ts)->Q r H'
theorem ot{dp d:DD}(xI:(dg "_law_times" 54 ["one","other"] dp 1 (iS K)))(D:Def K mg "_law_made" (top 55) ["tables"] d):(fk 2 d ["tables"] (qr K)):=by
 exists["tables","found","table"]
 obtain⟨l,xs,ts,n,rfl,hl,ht,hb,hz,hn,q⟩:=h;refine⟨_,(ag (ay 1 (Or.inl rfl) (aN (DJ (ah _) (DJ (ah _) (DJ (ah _) (aG (ah _) bp) bp) bp) bp))) (ag (bV (aJ (0)) (aj 2) (ai (ay 1 (Or.inl rfl) (aY xI.1 xI.2 (DJ (1) (aG (2) ax) ax))))) (ai (aC (1))))),?_⟩
 walk_at "d"
 refine⟨au (by show 4<=1000000;decide),fun f hf=>?_⟩;refine⟨_,rfl,l,rfl,⟨xs,(af hf _).seq hl⟩,?_⟩;refine cu (K:=K) (xs:=xs) (fun i σ H'=>∃v o,σ=[some (.ref l),some v,o]/\DN H H'/\T4o H' v (cK (ts.take i))) ⟨.ref f,none,rfl,af hf _,⟨f,rfl,ae⟩⟩ (fun i σ H' hi z=>by obtain⟨_,_,_,e,_⟩:=z;exact e.seq hl) (fun i x σ H' hx z=>?_) (fun σ H' z=>?_)
 ·obtain⟨v,o,rfl,e1,e2⟩:=z;obtain⟨t,et,h4⟩:=ht.get hx;have hi:i<ts.length:=(Ai.mp et).1;have bl:(n+1)*i+1<=1048576:=by
   have:(n+1)*i<=(n+1)*ts.length:=Nat.mul_le_mul_left _ (by lia);lia
  refine⟨_,rfl,_,rfl,v,x,cK (ts.take i),t,(n+1)*i+1,n,rfl,e2.t4,h4.mono e1,gY hb i,hb t (Aq et),bl,hn,fun r H2 S2 h2=>?_⟩;refine⟨r,_,rfl,e1.trans S2,?_⟩;rw[Au,et];show T4o H2 r (cK (ts.take i++[t]));rw[eB];exact h2
 ·obtain⟨v,o,rfl,e1,e2⟩:=z;refine⟨v,rfl,q v H' e1 ?_⟩;rw[ht.length,Bg] at e2;exact e2
def pE (c:Nat):Prop:=c=108\/c=114\/c=117\/c=118\/c=85\/c=86
def cG (c:Nat):Tb:=if c=108 then ⟨1,0,1,1⟩ else if c=114 then ⟨1,1,0,1⟩ else if c=117 then ⟨1,2,0,1⟩ else if c=118 then ⟨1,0,2,1⟩ else if c=85 then ⟨1,-2,0,1⟩ else ⟨1,0,-2,1⟩
theorem rB{c:Nat}(h:pE c):Bd 2 (cG c):=by
 rcases h with rfl|rfl|rfl|rfl|rfl|rfl<;>exact⟨by show _<4;decide,by show _<4;decide,by show _<4;decide,by show _<4;decide⟩
def se (K:W.Frag):Sp:=fun vs H Q _=>∃z:Str,vs=[.str z]/\z.cps.size<=1000/\(∀c∈z.cps.toList,pE c)/\∀r H',DN H H'->T4o H' r (cK (z.cps.toList.map cG))->Q r H'
theorem oA{z:Str}(h:∀c∈z.cps.toList,pE c):z.cps.all (·<128)=true:=by
 rw[<- CF,AZ];intro c hc;rcases h c hc with rfl|rfl|rfl|rfl|rfl|rfl<;>rfl
def adr (t1 t2 t3 t4 t5 t6:Addr)(c:Nat):Addr:=if c=108 then t1 else if c=114 then t2 else if c=117 then t3 else if c=118 then t4 else if c=85 then t5 else t6
def nM (t1 t2 t3 t4 t5 t6:Addr):List (Key×V):=cD (cD [] [(.inr "l",.ref t1),(.inr "r",.ref t2),(.inr "u",.ref t3),(.inr "v",.ref t4)]) (cD [] [(.inr "U",.ref t5),(.inr "V",.ref t6)])
theorem pQ(t1 t2 t3 t4 t5 t6:Addr)(c:Nat)(h:pE c):dZ (nM t1 t2 t3 t4 t5 t6) (.inr ⟨#[c]⟩)=some (.ref (adr t1 t2 t3 t4 t5 t6 c)):=by
 rcases h with rfl|rfl|rfl|rfl|rfl|rfl<;>kernel_rfl
theorem qt{H:Hp}{f:Nat->V}:∀{cs:List Nat},(∀c∈cs,pE c)->(∀c,pE c->T4o H (f c) (cG c))->TL K H (cs.map f) (cs.map cG)
 |[],_,_=>.nil
 |c::r,h,g=>.cons (g c (h c zX)).t4 (qt (fun c hc=>h c (Af _ hc)) g)
theorem tT{dm d:DD}(yb:(dg "_law_made" 55 ["tables"] dm 2 (qr K)))(D:Def K mg "_law_of_letters" (top 56) ["word"] d):(fk 3 d ["word"] (se K)):=by
 exists["word","letters"]
 obtain⟨z,rfl,hz,hl,q⟩:=h;refine⟨_,(ag (ay 1 (Or.inr rfl) (mh (cU (bQ _) (aN (DJ (ah _) (DJ (ah _) (DJ (ah _) (aG (ah _) bp) bp) bp) bp)) (cU (bQ _) (aN (DJ (ah _) (DJ (ah _) (DJ (ah _) (aG (ah _) bp) bp) bp) bp)) (cU (bQ _) (aN (DJ (ah _) (DJ (ah _) (DJ (ah _) (aG (ah _) bp) bp) bp) bp)) (cU (bQ _) (aN (DJ (ah _) (DJ (ah _) (DJ (ah _) (aG (ah _) bp) bp) bp) bp)) (@nH _ _))))) (by simp))) (ag (bu (gu PySem.F.plainAttrs_dict PySem.F.slot_dict_update PySem.F.type_dict_update Ho (1) (aG (mh (cU (bQ _) (aN (DJ (ah _) (DJ (sq Hb (ah _)) (DJ (ah _) (aG (ah _) bp) bp) (by rfl)) bp)) (cU (bQ _) (aN (DJ (ah _) (DJ (ah _) (DJ (sq Hb (ah _)) (aG (ah _) bp) (by rfl)) bp) bp)) (@nH _ _))) (by simp)) (by rfl)))) (ai (aC (bb yb.1 yb.2 (aO (ak (ts:=["letter"]) (cap:=["letters"]) (js:=[1]) rfl rfl rfl rfl rfl rfl (by decide +kernel)) (mH (0)) (ad 0 (nd ["letter","letters"])) (@aR _) (jK (ie hr) (1) (0))) (by rfl)))))),?_⟩
 walk_at "d"
 have l4:(4:Nat)<=sizeLine:=au (by decide);refine fun d hd=>?_;refine⟨l4,fun t1 h1=>⟨l4,fun t2 h2=>⟨l4,fun t3 h3=>⟨l4,fun t4 h4=>?_⟩⟩⟩⟩;have F4:=((((Hs.start H).new hd (.dK [])).new h1 (.tup (Tb.mk 1 0 1 1).vs)).new h2 (.tup (Tb.mk 1 1 0 1).vs)).new h3 (.tup (Tb.mk 1 2 0 1).vs) |>.new h4 (.tup (Tb.mk 1 0 2 1).vs);refine⟨F4.get 0,[(.inr "l",.ref t1),(.inr "r",.ref t2),(.inr "u",.ref t3),(.inr "v",.ref t4)],rfl,Nat.le_of_ble_eq_true rfl,?_⟩;have F5:=F4.put 0 (.dK (cD [] [(.inr "l",.ref t1),(.inr "r",.ref t2),(.inr "u",.ref t3),(.inr "v",.ref t4)]));refine⟨_,rfl,.inr (.inr (.inl ⟨rfl,.inl ⟨_,ae⟩⟩)),fun e he=>?_⟩;refine⟨_,rfl,l4,fun t5 h5=>⟨_,rfl,l4,fun t6 h6=>?_⟩⟩;have F8:=((F5.new he (.dK [])).new h5 (.tup (Tb.mk 1 (-2) 0 1).vs)).new h6 (.tup (Tb.mk 1 0 (-2) 1).vs);refine⟨F8.get 5,[(.inr "U",.ref t5),(.inr "V",.ref t6)],rfl,Nat.le_of_ble_eq_true rfl,?_⟩;have F9:=F8.put 5 (.dK (cD [] [(.inr "U",.ref t5),(.inr "V",.ref t6)]));refine⟨d,e,_,_,rfl,rfl,F9.ne 0 5 (by decide),F9.get 0,F9.get 5,au (by show 6<=1000000;decide),?_⟩;have FA:=F9.put 0 (.dK (nM t1 t2 t3 t4 t5 t6));refine⟨_,rfl,z,rfl,oA hl,?_⟩;have okc:∀c,pE c->dZ (nM t1 t2 t3 t4 t5 t6) (.inr ⟨#[c]⟩)=some (.ref (adr t1 t2 t3 t4 t5 t6 c)):=pQ t1 t2 t3 t4 t5 t6;have okt:∀c,pE c->T4o _ (.ref (adr t1 t2 t3 t4 t5 t6 c)) (cG c):=fun c h=>by
  rcases h with rfl|rfl|rfl|rfl|rfl|rfl
  ·exact⟨_,rfl,FA.get 1⟩
  ·exact⟨_,rfl,FA.get 2⟩
  ·exact⟨_,rfl,FA.get 3⟩
  ·exact⟨_,rfl,FA.get 4⟩
  ·exact⟨_,rfl,FA.get 6⟩
  ·exact⟨_,rfl,FA.get 7⟩
 have gd:=FA.get 0;have all:=FA.all;refine qJ (z:=z) (fun i ys H'=>H'=_/\ys=(z.cps.toList.take i).map fun c=>V.ref (adr t1 t2 t3 t4 t5 t6 c)) ⟨rfl,rfl⟩ (fun i ys H' hi y=>by rw[y.2,zV,Az];lia) (au (by lia)) (fun i c ys H' hc y=>?_) (fun ys H' y p hp=>?_)
 ·obtain⟨rfl,rfl⟩:=y;have hi:i<z.cps.size:=(By.mp hc).1;have hc':z.cps.toList[i]?=some c:=by rw[AO];exact hc
  have lc:=hl c (Aq hc');refine⟨_,rfl,_,rfl,d,.ref (adr t1 t2 t3 t4 t5 t6 c),rfl,?_,Nx.mk hi ⟨rfl,?_⟩⟩
  ·have:=FP.k (k:=Sum.inr ⟨#[c]⟩) gd;rw[okc c lc] at this;exact this
  ·rw[Au,hc',An];rfl
 ·obtain⟨rfl,rfl⟩:=y;have e1:z.cps.toList.take z.cps.size=z.cps.toList:=Ap (by rw[AD];exact zU _);rw[e1];refine⟨p,_,z.cps.toList.map cG,2,rfl,SqL.of ae,qt hl fun c hc=>(okt c hc).mono (af hp _),fun t ht=>?_,?_,by decide,fun r H' S h4=>q r H' (all.trans ((af hp _).trans S)) h4⟩
  ·obtain⟨c,hc,rfl⟩:=Ae.mp ht;exact rB (hl c hc)
  ·rw[zV,AD];lia
def mT (K:W.Frag):Sp:=fun vs H Q _=>∃(a:Addr)(ns:List Int)(k:Int),vs=[.ref a,.int k]/\SqL K H a (ns.map V.int)/\0<=k/\k<=100/\∀l H',DN H H'->H l=none->Ds H' l->Q (.ref l) H'
def FL:List Int:=[2147483647,2147483629,2147483587,2147483579,2147483563,2147483549,2147483543,2147483497]
def dH (c k:Int):Int:=(c % 2147483423+3*k+1)*(48271+2*k*k) % 2147483423
def pO (c k:Int):Int:=dH c k*dH c k*dH c k % 2147483399+k+1
theorem oZ{d:DD}(D:Def K mg "_law_draws" (top 50) ["script","k"] d)(xf:mg "len"=none)(yh:mg "int"=none):(fk 1 d ["script","k"] (mT K)):=by
 exists["script","k","primes","cell","seed"]
 obtain⟨a,ns,k,rfl,ha,k0,k1,q⟩:=h;obtain⟨tr,hR,qR⟩:∃t,PSs (bJ CX0 P w K mg base ["script","k","primes","cell","seed"] "_law_draws" (aq (top 50)) d.f cdv A outer s H E).nox ((bA (top 50)).drop 3) t /\
   ∀(c:Int)(p:Addr),H p=none->t {nx:=fun _ H'=>Q .non H',rt:=Q} [some (.ref a),some (.int k),some (.ref p),some (.int c),none] (upd H p (.tup (FL.map V.int))):=by
  refine⟨_,(ag (ay 4 (Or.inl rfl) (aA Eu (aA Et (aA DV (aA DV (aA Eu (3) (ah _)) (aA Et (ah _) (1))) (ah _)) (aA DV (ah _) (aA Et (aA Et (ah _) (1)) (1)))) (ah _))) (ag (ay 4 (Or.inl rfl) (aA DV (aA DV (aA Eu (aA Et (aA Et (4) (4)) (4)) (ah _)) (1)) (ah _))) (ai (aC (aS (DJ (aA Et (3) (bI GZ yh Io (aG (cM GI (3) (aA Gz (ah _) (ah _)) (aE _)) (by rfl)))) (DJ (4) (aG (aK Ek (2) (aA Eu (1) (ah _))) (by rfl)) ax) (by rfl))))))),fun c p hp=>?_⟩;have c0:=Bl c (show(2147483423:Int)≠0 by decide);have c1:=Bm c (show(0:Int)<2147483423 by decide);refine⟨_,rfl,_,_,rfl,rfl,(show(0:Int)<2147483423 by decide),_,rfl,_,_,rfl,rfl,.inl ⟨by decide,by decide⟩,_,_,rfl,rfl,_,_,rfl,rfl,_,rfl,_,_,rfl,rfl,.inl ⟨by decide,by decide⟩,_,rfl,_,_,rfl,rfl,.inl ⟨by lia,by lia⟩,_,_,rfl,rfl,_,_,rfl,rfl,.inl ⟨by lia,by lia⟩,_,_,rfl,rfl,(show(0:Int)<2147483423 by decide),?_⟩;have z0:0<=dH c k:=Bl _ (by decide);have z1:dH c k<2147483423:=Bm _ (by decide);have zz0:0<=dH c k*dH c k:=Int.mul_nonneg z0 z0;have zz1:dH c k*dH c k<2^64:=Int.lt_of_le_of_lt (Int.mul_le_mul (Int.le_of_lt z1) (Int.le_of_lt z1) z0 (by decide)) (by decide);refine⟨_,rfl,_,rfl,_,_,rfl,rfl,.inl ⟨?_,?_⟩,_,rfl,_,_,rfl,rfl,.inl ⟨?_,?_⟩,_,_,rfl,rfl,(show(0:Int)<2147483399 by decide),_,rfl,_,_,rfl,rfl,_,_,rfl,rfl,?_⟩
  ·exact Int.lt_of_lt_of_le (by decide) z0
  ·exact Int.lt_trans z1 (by decide)
  ·exact Int.lt_of_lt_of_le (by decide) zz0
  ·exact zz1
  have y0:1<=pO c k/\pO c k<=2147483648:=by
   have:=Bl (dH c k*dH c k*dH c k) (show(2147483399:Int)≠0 by decide);have:=Bm (dH c k*dH c k*dH c k) (show(0:Int)<2147483399 by decide);unfold pO;lia
  have g8:0<=k % 8/\k % 8<8:=⟨Bl _ (by decide),Bm _ (by decide)⟩
  have pr:∃r:Int,atI (FL.map V.int) (k % 8)=some (.int r)/\1000000000<=r/\r<=2147483647:=by
   generalize k % 8=j at g8;have:j=0\/j=1\/j=2\/j=3\/j=4\/j=5\/j=6\/j=7:=by lia
   rcases this with rfl|rfl|rfl|rfl|rfl|rfl|rfl|rfl<;>exact⟨_,rfl,by decide,by decide⟩
  obtain⟨r,er,r0,r1⟩:=pr;refine⟨_,rfl,_,rfl,_,_,rfl,rfl,⟨by decide,by decide,by decide⟩,_,_,rfl,rfl,.inr ⟨_,rfl,_,_,rfl,rfl,.inr ⟨?_,?_⟩,_,rfl,_,rfl,_,rfl,_,_,rfl,rfl,(show(0:Int)<8 by decide),p,_,_,_,rfl,rfl,SqT.of ae,er,au (by show 3<=1000000;decide),fun l hl=>?_⟩⟩
  ·split<;>decide
  ·split<;>decide
  have S1:=af hp (.tup (FL.map V.int));exact q l _ (S1.trans (af hl _)) (S1.free hl) ⟨_,pO c k,r,ae,y0.1,y0.2,r0,r1⟩
 refine⟨_,(ag (ay 2 (Or.inl rfl) (aN (DJ (ah _) (DJ (ah _) (DJ (ah _) (DJ (ah _) (DJ (ah _) (DJ (ah _) (DJ (ah _) (aG (ah _) bp) bp) bp) bp) bp) bp) bp) bp))) (ag (ay 3 (Or.inl rfl) (aA DV (aA Et (ah _) (1)) (ah _))) (ag (br (aB HB (1) (aM DP xf (0) ax) (aE _)) (ai (ay 3 (Or.inl rfl) (aA Eu (aK DO (0) (1)) (aA bD (aA Gz (ah _) (ah _)) (aA Gz (ah _) (ah _)))))) (ai (br (aB IG (aM DP xf (0) ax) (ah _) (aE _)) (ai (ay 3 (Or.inl rfl) (aA DV (aA Eu (aK DO (0) (aA Eu (1) (aM DP xf (0) ax))) (aA Gz (ah _) (ah _))) (aA Et (ah _) (1))))) (DR _)))) hR))),?_⟩
 walk_at "d"
 refine⟨au (by show 8<=1000000;decide),fun p hp=>?_⟩;have S1:=af hp (.tup (FL.map V.int));have ha1:SqL K (upd H p (.tup (FL.map V.int))) a (ns.map V.int):=S1.seq ha;have hl:(ns.map V.int).length=ns.length:=zV _;refine⟨_,rfl,_,_,rfl,rfl,.inl ⟨by decide,by decide⟩,_,_,rfl,rfl,?_⟩;refine⟨_,rfl,_,rfl,a,_,rfl,.inl ha1,_,_,rfl,rfl,_,rfl,rO (fun h1=>?_) (fun h1=>?_)⟩
 ·have h1':k<(((ns.map V.int).length:Nat):Int):=Dh h1;rw[hl] at h1';obtain⟨v,ev⟩:∃v:Int,atI (ns.map V.int) k=some (.int v):=by
   have hk:k.toNat<ns.length:=by lia
   have ek:k=((k.toNat:Nat):Int):=by lia
   have e:=aW (xs:=ns.map V.int) (j:=k.toNat) (v:=.int ns[k.toNat]) (by rw[Ao,Ac hk];rfl);rw[<- ek] at e;exact⟨ns[k.toNat],e⟩
  refine⟨_,rfl,_,rfl,a,_,_,_,rfl,rfl,ha1,ev,_,_,rfl,rfl,⟨by decide,by decide,by decide⟩,_,_,rfl,rfl,⟨by decide,by decide,by decide⟩,_,_,rfl,rfl,Lt2.big (n:=200) (m:=200) (by show(10^60:Int).natAbs<2^200;decide) (by show(10^60:Int).natAbs<2^200;decide) (by decide) (by decide),_,_,rfl,rfl,(show(0:Int)<10^60*10^60 by decide),?_⟩;exact qR _ p hp
 ·refine⟨_,rfl,a,_,rfl,.inl ha1,_,_,rfl,rfl,_,rfl,rO (fun h2=>?_) (fun h2=>?_)⟩
  ·have h2':(0:Int)<(((ns.map V.int).length:Nat):Int):=Dh h2;rw[hl] at h2';have m0:=Bl k (show(ns.length:Int)≠0 by lia);have m1:=Bm k h2';obtain⟨v,ev⟩:∃v:Int,atI (ns.map V.int) (k % (((ns.map V.int).length:Nat):Int))=some (.int v):=by
    rw[hl];generalize k % (ns.length:Int)=j at m0 m1;have hk:j.toNat<ns.length:=by lia
    have ek:j=((j.toNat:Nat):Int):=by lia
    have e:=aW (xs:=ns.map V.int) (j:=j.toNat) (v:=.int ns[j.toNat]) (by rw[Ao,Ac hk];rfl);rw[<- ek] at e;exact⟨ns[j.toNat],e⟩
   refine⟨_,rfl,_,rfl,_,rfl,a,_,rfl,.inl ha1,_,_,rfl,rfl,(show(0:Int)<(((ns.map V.int).length:Nat):Int) by rw[hl];exact h2'),a,_,_,_,rfl,rfl,ha1,ev,_,_,rfl,rfl,⟨by decide,by decide,by decide⟩,_,_,rfl,rfl,(show(0:Int)<10^15 by decide),_,rfl,_,_,rfl,rfl,.inl ⟨by decide,by decide⟩,_,_,rfl,rfl,?_⟩;exact qR _ p hp
  ·exact qR _ p hp
end
theorem Tb.ext'{s t:Tb}(h1:s.a=t.a)(h2:s.b=t.b)(h3:s.c=t.c)(h4:s.d=t.d):s=t:=by
 cases s;cases t;simp only at h1 h2 h3 h4;subst h1 h2 h3 h4;rfl
theorem kZ(s t u:Tb):(s.mul t).mul u=s.mul (t.mul u):=by
 apply Tb.ext'<;>simp only[Tb.mul]<;>grind
theorem pX(t:Tb):Tb.one.mul t=t:=by
 apply Tb.ext'<;>simp only[Tb.mul,Tb.one]<;>grind
theorem pW(t:Tb):t.mul Tb.one=t:=by
 apply Tb.ext'<;>simp only[Tb.mul,Tb.one]<;>grind
def wt:List Nat->Tb
 |[]=>Tb.one
 |c::r=>(cG c).mul (wt r)
theorem qK(ts:List Tb):∀s:Tb,ts.foldl Tb.mul s=s.mul (ts.foldr Tb.mul Tb.one):=by
 induction ts with
 |nil=>intro s;exact(pW s).symm
 |cons t r ih=>intro s;rw[Bv,ih,List.foldr_cons,kZ]
theorem gc(cs:List Nat):cK (cs.map cG)=wt cs:=by
 unfold cK;rw[qK,pX];induction cs with
 |nil=>rfl
 |cons c r ih=>rw[Av,List.foldr_cons,ih];rfl
def El (c:Nat):Prop:=c=108\/c=114
theorem El.lt{c:Nat}(h:El c):pE c:=by
 rcases h with rfl|rfl
 ·exact .inl rfl
 ·exact .inr (.inl rfl)
structure Plain(t:Tb):Prop where
 a:0<=t.a
 b:0<=t.b
 c:0<=t.c
 d:0<=t.d
 w:t.a*t.d-t.b*t.c=1
theorem oS(t:Tb):(cG 108).mul t=⟨t.a,t.b,t.a+t.c,t.b+t.d⟩:=by
 apply Tb.ext'<;>simp only[Tb.mul,cG,Dc]<;>grind
theorem oU(t:Tb):(cG 114).mul t=⟨t.a+t.c,t.b+t.d,t.c,t.d⟩:=by
 apply Tb.ext'<;>simp[Tb.mul,cG]<;>grind
theorem Plain.l{t:Tb}(h:Plain t):Plain ((cG 108).mul t):=by
 rw[oS];exact⟨h.a,h.b,by have:=h.a;have:=h.c;show 0<=t.a+t.c;lia,by have:=h.b;have:=h.d;show 0<=t.b+t.d;lia,by have:=h.w;show t.a*(t.b+t.d)-t.b*(t.a+t.c)=1;grind⟩
theorem Plain.r{t:Tb}(h:Plain t):Plain ((cG 114).mul t):=by
 rw[oU];exact⟨by have:=h.a;have:=h.c;show 0<=t.a+t.c;lia,by have:=h.b;have:=h.d;show 0<=t.b+t.d;lia,h.c,h.d,by have:=h.w;show(t.a+t.c)*t.d-(t.b+t.d)*t.c=1;grind⟩
theorem GS:Plain Tb.one:=⟨by decide,by decide,by decide,by decide,by decide⟩
theorem EC:∀{cs:List Nat},(∀c∈cs,El c)->Plain (wt cs)
 |[],_=>GS
 |c::r,h=>by
  have ih:=EC (cs:=r) fun c hc=>h c (Af _ hc);rcases h c zX with rfl|rfl
  ·exact ih.l
  ·exact ih.r
theorem Plain.top{t:Tb}(h:Plain t):1<=t.a+t.b:=by
 have:=h.a;have:=h.b;by_cases z:t.a=0/\t.b=0
 ·have:=h.w;rw[z.1,z.2] at this;lia
 ·lia
theorem Plain.low{t:Tb}(h:Plain t):1<=t.c+t.d:=by
 have:=h.c;have:=h.d;by_cases z:t.c=0/\t.d=0
 ·have:=h.w;rw[z.1,z.2] at this;lia
 ·lia
def Tb.sum(t:Tb):Int:=t.a+t.b+t.c+t.d
theorem HX:∀{cs:List Nat},(∀c∈cs,El c)->(cs.length:Int)+2<=Tb.sum (wt cs)
 |[],_=>by show((0:Nat):Int)+2<=2;decide
 |c::r,h=>by
  have h':=fun c hc=>h c (Af _ hc);have ih:=HX (cs:=r) h';have p:=EC (cs:=r) h';have e1:=p.top;have e2:=p.low;unfold Tb.sum at ih ⊢;rw[AE];show((r.length+1:Nat):Int)+2<=((cG c).mul (wt r)).a+((cG c).mul (wt r)).b+((cG c).mul (wt r)).c+((cG c).mul (wt r)).d;rcases h c zX with rfl|rfl
  ·rw[oS];show((r.length+1:Nat):Int)+2<=(wt r).a+(wt r).b+((wt r).a+(wt r).c)+((wt r).b+(wt r).d);lia
  ·rw[oU];show((r.length+1:Nat):Int)+2<=((wt r).a+(wt r).c)+((wt r).b+(wt r).d)+(wt r).c+(wt r).d;lia
theorem uw{cs:List Nat}(h:∀c∈cs,El c)(e:wt cs=Tb.one):cs=[]:=by
 have:=HX h;rw[e] at this;have z:Tb.sum Tb.one=2:=rfl;rw[z] at this;exact AR.mp (by lia)
theorem rK{t:Tb}(h:Plain t):((cG 108).mul t).c≥((cG 108).mul t).a/\((cG 108).mul t).d≥((cG 108).mul t).b:=by
 rw[oS];have:=h.c;have:=h.d;show t.a+t.c≥t.a/\t.b+t.d≥t.b;lia
theorem qL{t:Tb}(h:Plain t):¬(((cG 114).mul t).c≥((cG 114).mul t).a/\((cG 114).mul t).d≥((cG 114).mul t).b):=by
 rw[oU];have:=h.a;have:=h.b;have:=h.top;show ¬(t.c≥t.a+t.c/\t.d≥t.b+t.d);lia
theorem tH{c:Nat}(h:El c):Bd 1 (cG c):=by
 rcases h with rfl|rfl<;>exact⟨by show _<2;decide,by show _<2;decide,by show _<2;decide,by show _<2;decide⟩
section
variable {P:Program}{w:World}{K:PySem.W.Frag}{mg:Str->Option Value}{base:Heap}
def dS (t:Tb):Bool:=decide (0<=t.a/\0<=t.b/\0<=t.c/\0<=t.d)&&decide (t.worth=1)
theorem Fe{t:Tb}:dS t=true↔Plain t:=by
 unfold dS;rw[AG,decide_eq_true_iff,decide_eq_true_iff];refine⟨fun hq85=>?_,fun h=>⟨⟨h.a,h.b,h.c,h.d⟩,h.w⟩⟩;obtain⟨⟨h1,h2,h3,h4⟩,h5⟩:=hq85;exact⟨h1,h2,h3,h4,h5⟩
theorem wG{H:Hp}{a:Addr}{t:Tb}(e:H a=some (.tup t.vs)):Th H (.ref a) true:=
 (Th.tup e fun x hx=>by
  unfold Tb.vs at hx;simp only[Ad,AN,or_false] at hx
  rcases hx with rfl | rfl | rfl | rfl <;> exact .int _:Th H (.ref a) (t.vs.length == 4 && t.vs.all Fw))
def FV:Sp:=fun vs H Q _=>∃v t n,vs=[v]/\T4o H v t/\Bd n t/\n<=1048576/\∀H',DN H H'->Q (.bl (dS t)) H'
theorem HI:DK ["table"] ["table"] (aq (top 16)):=by walk_at "s"
theorem oK{di dw d:DD}(yE:(dg "is_table" 9 ["thing"] di 2 FG))(xJ:(dg "worth" 12 ["table"] dw 1 (nI K)))(D:Def K mg "is_plain" (top 16) ["table"] d)(xu:mg "min"=none):(fk 3 d ["table"] FV):=by
 refine D.fn.ok HI (fun vs H Q E h=>?_) (fun cdv A outer s H vs Q E hr h=>?_)
 ·obtain⟨v,t,n,rfl,_⟩:=h;rfl
 obtain⟨v,t,n,rfl,⟨a,rfl,ha⟩,hb,hn,q⟩:=h;have hc:=hr.calm;refine⟨_,(ai (aC (fY (bb yE.1 yE.2 (0) ax) (fY (cM GI (aP (lX hc) xu FN (aG (0) ax)) (ah _) (aE _)) (kC (cM Fb (bb xJ.1 xJ.2 (0) ax) (ah _) (aE _))))))),?_⟩
 walk_at "d"
 refine⟨_,rfl,.ref a,true,rfl,wG ha,fun H1 S1=>⟨true,rfl,?_⟩⟩;refine⟨_,rfl,a,[t.a,t.b,t.c,t.d],rfl,SqT.of (S1 _ _ ha),(fun z=>by cases z),fun m hm hmin=>?_⟩;have ha':=hmin t.a (by simp);have hb':=hmin t.b (by simp);have hc':=hmin t.c (by simp);have hd':=hmin t.d (by simp);refine⟨_,_,rfl,rfl,decide (m≥0),rfl,rO (fun h1=>?_) (fun h1=>?_)⟩
 ·have h1':m≥0:=Dh h1;refine⟨_,rfl,.ref a,t,n,rfl,⟨a,rfl,SqT.of (S1 _ _ ha)⟩,hb,hn,rfl,?_⟩;have e:decide (V.int t.worth=V.int 1)=dS t:=by
   unfold dS;rw[Dd (show 0<=t.a/\0<=t.b/\0<=t.c/\0<=t.d by lia),Bool.true_and];exact decide_eq_decide.mpr ⟨fun h=>by injection h,fun h=>by rw[h]⟩
  have z:=q H1 S1;rw[<- e] at z;exact z
 ·have h1':¬m≥0:=of_decide_eq_false (Bs.mpr h1);have e:false=dS t:=by
   have:¬(0<=t.a/\0<=t.b/\0<=t.c/\0<=t.d):=fun hq86=>by
    obtain⟨a1,a2,a3,a4⟩:=hq86;simp only[Ad,AN,or_false] at hm;rcases hm with rfl|rfl|rfl|rfl<;>lia
   unfold dS;rw[De this];rfl
  have z:=q H1 S1;rw[<- e] at z;exact z
def lrB (c:Nat):Bool:=c==108||c==114
theorem GW{c:Nat}:lrB c=true↔El c:=by unfold lrB El;simp
def gg (z:Str):Bool:=decide (z.length<=400)&&z.cps.toList.all lrB
theorem Hl{z:Str}:gg z=true↔z.length<=400/\∀c∈z.cps.toList,El c:=by
 unfold gg;rw[AG,decide_eq_true_iff,AZ];refine⟨fun hq87=>?_,fun⟨h1,h2⟩=>⟨h1,fun c hc=>GW.mpr (h2 c hc)⟩⟩;obtain⟨h1,h2⟩:=hq87;exact⟨h1,fun c hc=>GW.mp (h2 c hc)⟩
abbrev lkv(l1 l2:Addr):List (Key×V):=[(.inr "l",.ref l1),(.inr "r",.ref l2)]
theorem dz{c:Nat}{x:Str}{n:Nat}(hx:x=⟨#[n]⟩):((.inr x:Key)=.inr ⟨#[c]⟩)↔n=c:=by
 subst hx;constructor
 ·intro h;injection h with h;injection h with h;injection h with h;injection h
 ·intro h;rw[h]
theorem el:("l":Str)=⟨#[108]⟩:=by decide +kernel
theorem er:("r":Str)=⟨#[114]⟩:=by decide +kernel
theorem tS(l1 l2:Addr)(c:Nat):(dZ (lkv l1 l2) (.inr ⟨#[c]⟩)).isSome=lrB c:=by
 unfold lkv lrB;by_cases h1:108=c
 ·rw[bF (e:=(dz el).mpr h1)];subst h1;rfl
 ·rw[bE (e:=fun z=>h1 ((dz el).mp z))];by_cases h2:114=c
  ·rw[bF (e:=(dz er).mpr h2)];subst h2;rfl
  ·rw[bE (e:=fun z=>h2 ((dz er).mp z)),oO];have:(c==108)=false:=beq_eq_false_iff_ne.mpr (Dw h1);have e2:(c==114)=false:=beq_eq_false_iff_ne.mpr (Dw h2);rw[this,e2];rfl
theorem uR(l1 l2:Addr)(c:Nat)(h:El c):dZ (lkv l1 l2) (.inr ⟨#[c]⟩)=some (.ref (if c=108 then l1 else l2)):=by
 unfold lkv;rcases h with rfl|rfl
 ·rw[bF (e:=(dz el).mpr rfl)];rfl
 ·rw[bE (e:=fun z=>absurd ((dz el).mp z) (by decide)),bF (e:=(dz er).mpr rfl)];rfl
def asc (z:Str):Prop:=z.cps.all (·<128)=true/\z.length<=100000
def Gf:Sp:=fun vs H Q _=>∃z,vs=[.str z]/\asc z/\∀H',DN H H'->Q (.bl (gg z)) H'
theorem vv{H:Hp}{f:Nat->V}:∀{cs:List Nat},(∀c∈cs,El c)->(∀c,El c->T4 K H (f c) (cG c))->TL K H (cs.map f) (cs.map cG)
 |[],_,_=>.nil
 |c::r,h,g=>.cons (g c (h c zX)) (vv (fun c hc=>h c (Af _ hc)) g)
def txt (cs:List Nat):Str:=⟨cs.toArray⟩
abbrev fg(cs:List Nat):List Str:=cs.map fun c=>⟨#[c]⟩
theorem Gu:∀(r:List Str)(a:Array Nat),(r.foldl (fun acc p=>acc++("":Str).cps++p.cps) a).toList=a.toList++(r.map (·.cps.toList)).flatten
 |[],a=>by simp
 |x::r,a=>by
  have z:("":Str).cps=#[]:=rfl;rw[Bv,Gu r,z];simp
theorem kh(zs:List Str):(Txt.join "" zs).cps.toList=(zs.map (·.cps.toList)).flatten:=by
 cases zs with
 |nil=>rfl
 |cons x r=>exact Gu r x.cps
theorem gQ{x y:Str}(h:x.cps.toList=y.cps.toList):x=y:=by
 obtain⟨⟨x⟩⟩:=x;obtain⟨⟨y⟩⟩:=y;simp only at h;subst h;rfl
theorem ic(cs:List Nat):Txt.join "" (fg cs)=txt cs:=by
 apply gQ;rw[kh,AJ];show _=cs;induction cs with
 |nil=>rfl
 |cons c r ih=>rw[Av,Bw,ih];rfl
theorem Fl:∀(cs:List Nat),((fg cs).map (·.length)).sum=cs.length
 |[]=>rfl
 |c::r=>by
  show 1+((fg r).map (·.length)).sum=r.length+1;rw[Fl r];lia
def JX:Sp:=fun vs H Q _=>∃v cs m,vs=[v,.int ((m:Nat):Int)]/\m<=10000/\(∀c∈cs,El c)/\T4o H v (wt cs)/\(cs.length<=m->∀H',DN H H'->Q (.str (txt cs)) H')/\(m<cs.length->∀H',DN H H'->Q .non H')
theorem rf(t u:Tb)(h:t≠u):PyData.eqv t.dat u.dat=false:=by
 obtain⟨a,b,c,d⟩:=t;obtain⟨e,f,g,i⟩:=u;show(a==e&&(b==f&&(c==g&&(d==i&&true))))=false;rw[Bs];intro z;simp only[AG,DI,Bool.and_true] at z;obtain⟨rfl,rfl,rfl,rfl⟩:=z;exact h rfl
theorem wu{d:DD}{one:Addr}(zJ:mg "ONE"=some (.ref one))(k_one:∀H,SqT K H one Tb.one.vs)(D:Def K mg "word_within" (top 19) ["table","most"] d)(xf:mg "len"=none):(fk 1 d ["table","most"] JX):=by
 exists["table","most","a","b","c","d","letters"]
 obtain⟨v,cs,m,rfl,hm,hlr,⟨a,rfl,ha⟩,q1,q2⟩:=h;refine⟨_,(ag (du (0) (dq (av (aj 2) (av (aj 3) (av (aj 4) (av (aj 5) (DW _))))))) (ag (ay 6 (Or.inl rfl) (aS (DT _))) (ag (dP (aB (cF hr.units) (aN (DJ (2) (DJ (3) (DJ (4) (aG (5) ax) ax) ax) ax)) (cy (.ref one) zJ rfl) (aE _)) (ag (br (aB Fb (aM DP xf (6) ax) (1) (aE _)) (ai (aC (bU _))) (DR _)) (ai (br (@PW.pt _ _ _ (kB (aB GI (4) (2) (aE _)) (gm (aB GI (5) (3) (aE _))))) (ag (bu (cR (6) (bQ _) bp)) (ai (qz 4 5 (DJ (aA ES (4) (2)) (aG (aA ES (5) (3)) (by rfl)) (by rfl))))) (ag (bu (cR (6) (bQ _) bp)) (ai (qz 2 3 (DJ (aA ES (2) (4)) (aG (aA ES (3) (5)) (by rfl)) (by rfl))))))))) (ai (aC (jB (6) ax)))))),?_⟩
 walk_at "d"
 refine⟨_,rfl,a,_,rfl,SqT.of ha,rfl,_,_,rfl,_,_,rfl,_,_,rfl,_,_,rfl,rfl,?_⟩;refine⟨au (by show 0<=1000000;decide),fun L nL=>?_⟩;have F0:=(Hs.start H).new nL (.lst []);refine⟨fun k σ H'=>∃i,k=cs.length-i/\i<=cs.length/\i<=m/\σ=[some (.ref a),some (.int m),some (.int (wt (cs.drop i)).a),some (.int (wt (cs.drop i)).b),some (.int (wt (cs.drop i)).c),some (.int (wt (cs.drop i)).d),some (.ref L)]/\Hs H [(L,.lst ((fg (cs.take i)).map V.str))] H',⟨_,0,rfl,Ag _,Ag _,rfl,F0⟩,fun k σ H' z=>?_⟩;obtain⟨i,rfl,hi,him,rfl,F⟩:=z;refine⟨_,rfl,_,rfl,_,rfl,_,rfl,au (by show 4<=1000000;decide),fun p np=>?_⟩;have F1:=F.mono (af np (.tup (wt (cs.drop i)).vs));have dt:EH K (upd H' p (.tup (wt (cs.drop i)).vs)) (.ref p) (wt (cs.drop i)).dat:=T4.dat ⟨p,rfl,SqT.of ae⟩;have d1:∀H,EH K H (.ref one) Tb.one.dat:=fun H=>T4.dat ⟨one,rfl,k_one H⟩;have lt':∀c∈cs.drop i,El c:=fun c hc=>hlr c (CG hc);by_cases hend:i=cs.length
 ·
  have e0:cs.drop i=[]:=BS (by lia);rw[e0] at dt F1 ⊢;refine⟨Tb.one.dat,Tb.one.dat,dt,d1 _,Tb.lay _,Tb.lay _,Tb.depth _,false,(by rw[Tb.eqv];rfl),?_⟩;have e1:cs.take i=cs:=Ap (by lia);rw[e1] at F1;refine⟨rfl,_,rfl,"",L,fg cs,rfl,rfl,SqL.of (F1.get 0),?_,?_⟩
  ·rw[Fl];have:("":Str).length=0:=rfl;rw[this];lia
  ·rw[ic];exact q1 (by lia) _ F1.all
 ·have hlt:i<cs.length:=by lia
  have ed:cs.drop i=cs[i]::cs.drop (i+1):=BU hlt;have hne:wt (cs.drop i)≠Tb.one:=fun z=>by
   have:=uw lt' z;rw[ed] at this;cases this
  refine⟨_,Tb.one.dat,dt,d1 _,Tb.lay _,Tb.lay _,Tb.depth _,true,(by rw[rf _ _ hne];rfl),?_⟩;refine⟨fun σ' H''=>∃j,j=i+1/\j<=m/\σ'=[some (.ref a),some (.int m),some (.int (wt (cs.drop j)).a),some (.int (wt (cs.drop j)).b),some (.int (wt (cs.drop j)).c),some (.int (wt (cs.drop j)).d),some (.ref L)]/\Hs H [(L,.lst ((fg (cs.take j)).map V.str))] H'',fun σ' H'' z=>?_,?_⟩
  ·obtain⟨j,rfl,h1,rfl,F2⟩:=z;exact⟨cs.length-(i+1),by lia,i+1,rfl,hlt,h1,rfl,F2⟩
  have ll:((fg (cs.take i)).map V.str).length=i:=by
   rw[zV,zV,Az];lia
  refine⟨_,rfl,L,_,rfl,.inl (SqL.of (F1.get 0)),_,rfl,rfl,_,rfl,rO (fun h1=>?_) (fun h1=>?_)⟩
  ·have h1':i=m:=by
    have:=Dh h1;injection this with this;rw[ll] at this;lia
   exact q2 (by lia) _ F1.all
  ·have h1':i<m:=by
    have:i≠m:=fun z=>h1 (Dd (by rw[ll,z]));lia
   have et:cs.take (i+1)=cs.take i++[cs[i]]:=by rw[Au,Ac hlt];rfl
   have ep:Plain (wt (cs.drop (i+1))):=EC fun c hc=>hlr c (CG hc);have ew:wt (cs.drop i)=(cG cs[i]).mul (wt (cs.drop (i+1))):=by rw[ed];rfl
   have lc:El cs[i]:=hlr _ (Ay hlt);have lsz:((fg (cs.take i)).map V.str).length<sizeLine:=Ah (show _<1000000 by rw[ll];lia) (au (zU _));generalize hT:wt (cs.drop (i+1))=T at ep ew;generalize hc0:cs[i]=c0 at lc ew et;rw[ew] at dt;rcases lc with rfl|rfl
   ·have f1:=rK ep;rw[oS] at ew f1;rw[ew] at F1 ⊢;simp only at f1;refine⟨_,rfl,_,rfl,_,_,rfl,rfl,true,(by show V.bl (decide (T.a<=T.a+T.c))=_;rw[Dd f1.1]),_,rfl,_,rfl,_,_,rfl,rfl,true,(by show V.bl (decide (T.b<=T.b+T.d))=_;rw[Dd f1.2]),?_⟩;refine⟨_,rfl,.inl ⟨rfl,_,SqL.of (F1.get 0)⟩,L,_,_,rfl,rfl,F1.get 0,lsz,?_⟩;refine⟨_,rfl,_,rfl,_,_,rfl,rfl,_,rfl,_,rfl,_,_,rfl,rfl,_,_,rfl,?_⟩;refine⟨_,rfl,h1',?_,?_⟩
    ·rw[hT];show[some (V.ref a),some (V.int ↑m),some (V.int T.a),some (V.int T.b),some (V.int (T.a+T.c-T.a)),some (V.int (T.b+T.d-T.b)),some (V.ref L)]=_;rw[show T.a+T.c-T.a=T.c by lia,show T.b+T.d-T.b=T.d by lia]
    ·have F2:=F1.put 0 (.lst ((fg (cs.take (i+1))).map V.str));rw[et] at F2 ⊢;have e3:(fg (cs.take i++[108])).map V.str=(fg (cs.take i)).map V.str++[.str "l"]:=by
      rw[el];simp[fg]
     rw[e3] at F2 ⊢;exact F2
   ·have f1:=qL ep;rw[oU] at ew f1;rw[ew] at F1 ⊢;simp only at f1;by_cases g1:T.a+T.c<=T.c
    ·have g2:¬T.b+T.d<=T.d:=fun z=>f1 ⟨g1,z⟩;refine⟨_,rfl,_,rfl,_,_,rfl,rfl,true,(by show V.bl (decide (T.a+T.c<=T.c))=_;rw[Dd g1]),_,rfl,_,rfl,_,_,rfl,rfl,false,(by show V.bl (decide (T.b+T.d<=T.d))=_;rw[De g2]),?_⟩;refine⟨_,rfl,.inl ⟨rfl,_,SqL.of (F1.get 0)⟩,L,_,_,rfl,rfl,F1.get 0,lsz,?_⟩;refine⟨_,rfl,_,rfl,_,_,rfl,rfl,_,rfl,_,rfl,_,_,rfl,rfl,_,_,rfl,?_⟩;refine⟨_,rfl,h1',?_,?_⟩
     ·rw[hT];show[some (V.ref a),some (V.int ↑m),some (V.int (T.a+T.c-T.c)),some (V.int (T.b+T.d-T.d)),some (V.int T.c),some (V.int T.d),some (V.ref L)]=_;rw[show T.a+T.c-T.c=T.a by lia,show T.b+T.d-T.d=T.b by lia]
     ·have F2:=F1.put 0 (.lst ((fg (cs.take (i+1))).map V.str));rw[et] at F2 ⊢;have e3:(fg (cs.take i++[114])).map V.str=(fg (cs.take i)).map V.str++[.str "r"]:=by
       rw[er];simp[fg]
      rw[e3] at F2 ⊢;exact F2
    ·refine⟨_,rfl,_,rfl,_,_,rfl,rfl,false,(by show V.bl (decide (T.a+T.c<=T.c))=_;rw[De g1]),?_⟩;refine⟨_,rfl,.inl ⟨rfl,_,SqL.of (F1.get 0)⟩,L,_,_,rfl,rfl,F1.get 0,lsz,?_⟩;refine⟨_,rfl,_,rfl,_,_,rfl,rfl,_,rfl,_,rfl,_,_,rfl,rfl,_,_,rfl,?_⟩;refine⟨_,rfl,h1',?_,?_⟩
     ·rw[hT];show[some (V.ref a),some (V.int ↑m),some (V.int (T.a+T.c-T.c)),some (V.int (T.b+T.d-T.d)),some (V.int T.c),some (V.int T.d),some (V.ref L)]=_;rw[show T.a+T.c-T.c=T.a by lia,show T.b+T.d-T.d=T.b by lia]
     ·have F2:=F1.put 0 (.lst ((fg (cs.take (i+1))).map V.str));rw[et] at F2 ⊢;have e3:(fg (cs.take i++[114])).map V.str=(fg (cs.take i)).map V.str++[.str "r"]:=by
       rw[er];simp[fg]
      rw[e3] at F2 ⊢;exact F2
def LRs (z:Str):Prop:=∀c∈z.cps.toList,El c
def As (z:Str):Prop:=∀c∈z.cps.toList,c<128
theorem LRs.as{z:Str}(h:LRs z):As z:=fun c hc=>by rcases h c hc with rfl|rfl<;>decide
theorem cn(z:Str):z.length=z.cps.toList.length:=rfl
theorem gE{z:Str}{n:Int}{c:Nat}(h:c∈(Txt.mul z n).cps.toList):c∈z.cps.toList:=by
 rw[L2.mul_list] at h;obtain⟨l,hl,hc⟩:=List.mem_flatten.mp h;rw[List.eq_of_mem_replicate hl] at hc;exact hc
theorem rn{α:Type}{l:List α}{lo hi:Option Int}{c:α}(h:c∈qj l lo hi):c∈l:=CG (List.mem_of_mem_take h)
theorem dY{z:Str}{lo hi:Option Int}{c:Nat}(h:c∈(Txt.slice z lo hi).cps.toList):c∈z.cps.toList:=by
 rw[cY] at h;exact rn h
theorem jV(x y:Str):(x++y).cps.toList=x.cps.toList++y.cps.toList:=by
 show(x.cps++y.cps).toList=_;rw[Array.toList_append]
theorem eM(x y:Str):(x++y).length=x.length+y.length:=by rw[cn,jV,zW];rfl
theorem eQ(z:Str)(n:Int):(Txt.mul z n).length=n.toNat*z.length:=by
 rw[cn,L2.mul_list,List.length_flatten];simp[cn]
theorem jT{α:Type}(l:List α)(k:Nat):qj l none (some (k:Int))=l.take k:=by
 unfold qj;rw[HT.Gd,HT.Fu,BQ,Nat.sub_zero];rcases Nat.le_total k l.length with h|h
 ·rw[BM h]
 ·rw[CH h,Ap (zU _),Ap h]
theorem fb(z:Str)(k:Nat):(Txt.slice z none (some (k:Int))).length=min k z.length:=by
 rw[cn,cY,jT,Az];rfl
def Ga:Sp:=fun vs H Q _=>∃p m,vs=[.ref p,.int m]/\1<=m/\m<=1000/\Ds H p/\∀z H',Dr p H H'->LRs z->1<=z.length->(z.length:Int)<=m->Q (.str z) H'
theorem wO{r:Int}(h0:0<=r)(h1:r<2):∃c,("lr":Str).cps[r.toNat]?=some c/\El c:=by
 have:r=0\/r=1:=by lia
 rcases this with rfl|rfl
 ·exact⟨108,by decide +kernel,.inl rfl⟩
 ·exact⟨114,by decide +kernel,.inr rfl⟩
theorem JY:LRs "lr":=by
 have e:("lr":Str).cps.toList=[108,114]:=by decide +kernel
 intro c hc;rw[e] at hc;simp only[Ad,AN,or_false] at hc;exact hc
theorem Gs:("lr":Str).length=2:=by decide +kernel
theorem oF{dd d:DD}(xj:(dg "_law_draw" 51 ["draws","many"] dd 1 Gr))(D:Def K mg "_law_piece" (top 52) ["draws","most"] d)(xh:mg "range"=none):(fk 2 d ["draws","most"] Ga):=by
 exists["draws","most","way","many","text","some"]
 obtain⟨p,m,rfl,m0,m1,hp,q⟩:=h;refine⟨_,(ag (ay 2 (Or.inl rfl) (aY xj.1 xj.2 (DJ (0) (aG (ah _) bp) ax))) (ag (ay 3 (Or.inl rfl) (aA DV (ah _) (aY xj.1 xj.2 (DJ (0) (aG (1) ax) ax)))) (ag (ay 4 (Or.inl rfl) (jB (aO (ak (ts:=["k"]) (cap:=["draws"]) (js:=[0]) rfl rfl rfl rfl rfl rfl (by decide +kernel)) (bh xh (aG (3) ax)) (ad 0 (nd ["k","draws"])) (@aR _) (jz (bQ _) (aY xj.1 xj.2 (DJ (1) (aG (ah _) bp) ax)))) (by rfl))) (ag (ay 5 (Or.inl rfl) (aS (DJ (4) (DJ (aA Fq (aK IY (4) (ah _)) (3)) (DJ (aV Ei (aA Fq (bQ _) (3)) (Ea _) (bo (3))) (aG (aV Ei (aA Fq (aV Ei (4) (Ea _) (bo (ah _))) (3)) (Ea _) (bo (3))) (by rfl)) (by rfl)) (by rfl)) ax))) (ai (aC (aK DO (5) (2)))))))),?_⟩
 walk_at "d"
 refine⟨_,rfl,p,4,rfl,hp,by decide,by decide,fun way H0 w0 w1 dr0=>?_⟩;refine⟨_,rfl,_,rfl,p,m,rfl,dr0.ds,m0,by lia,fun r1 H1 a0 a1 dr1=>?_⟩;refine⟨_,_,rfl,rfl,?_⟩;obtain⟨n,en⟩:∃n:Nat,1+r1=((n:Nat):Int):=⟨(1+r1).toNat,by lia⟩
 show kE 3 (V.int (1+r1)) _ _ _;rw[en];have n1:1<=n:=by lia
 have nm:(n:Int)<=m:=by lia
 refine⟨rfl,_,rfl,_,rfl,by lia,by lia,?_⟩;have D1:=dr0.trans dr1;refine lW (lo:=0) (n:=(n:Int).toNat) (fun i ys H'=>Dr p H H'/\∃cs:List Nat,ys=(fg cs).map V.str/\cs.length=i/\∀c∈cs,El c) ⟨D1,[],rfl,rfl,fun n hn=>absurd hn (by simp)⟩ (fun i ys H' hi z=>by obtain⟨_,ns,rfl,e,_⟩:=z;rw[zV,zV,e];exact zU _) (au (by lia)) (fun i ys H' hi z=>?_) (fun ys H' z l hl=>?_)
 ·obtain⟨z1,cs,rfl,z2,z3⟩:=z;refine⟨_,rfl,p,2,rfl,z1.ds,by decide,by decide,fun r H2 c0 c1 dr2=>?_⟩;obtain⟨c,ec,lc⟩:=wO c0 c1;refine⟨_,r,c,rfl,rfl,c0,by lia,by rw[Gs];lia,ec,Nx.mk hi ⟨z1.trans dr2,cs++[c],?_,by rw[zW,z2];rfl,fun x hx=>?_⟩⟩
  ·simp[fg]
  ·rcases zZ.mp hx with y|y
   ·exact z3 x y
   ·have e:x=c:=by simpa using y
    subst e;exact lc
 obtain⟨z1,cs,rfl,z2,z3⟩:=z;have DL:=Dr.new z1.ds hl (.lst ((fg cs).map V.str));refine⟨"",l,fg cs,rfl,rfl,SqL.of ae,?_,?_⟩
 ·rw[Fl];have:("":Str).length=0:=rfl;rw[this];lia
 rw[ic];have z2':cs.length=n:=by rw[z2,AM]
 have tl:(txt cs).length=n:=z2';have tlr:LRs (txt cs):=z3;have big:n<=1000:=by lia
 generalize txt cs=text at tl tlr;obtain⟨c0,ec0⟩:∃c,atI text.cps.toList 0=some c:=by
  have h0:0<text.cps.toList.length:=by rw[<- cn,tl];lia
  exact⟨text.cps.toList[0],aW (j:=0) (Ac h0)⟩
 have lc0:El c0:=tlr c0 (by
  have h0:0<text.cps.toList.length:=by rw[<- cn,tl];lia
  have:=aW (j:=0) (Ac h0);rw[show((0:Nat):Int)=0 from rfl] at this;rw[ec0] at this;injection this with this
  rw[this]; exact Ay h0)
 have l1000:∀k:Nat,k<=1000000->k<=sizeLine:=fun k hk=>au hk;have t2:(Txt.slice text none (some 2)).length=min 2 n:=by rw[show(2:Int)=((2:Nat):Int) from rfl,fb,tl]
 have nt:((n:Int)).toNat=n:=AM n;refine⟨_,rfl,_,rfl,text,0,c0,rfl,rfl,l1000 _ (by lia),ec0,_,rfl,_,_,rfl,rfl,by lia,by lia,(by show 1*(n:Int).toNat<=16777216;lia),?_⟩;refine⟨_,rfl,_,_,rfl,rfl,by lia,by lia,(by rw[Gs];lia),_,rfl,_,rfl,_,rfl,(l1000 _ (by rw[eQ,Gs];lia)),?_⟩;refine⟨_,rfl,_,rfl,_,rfl,l1000 _ (by lia),_,rfl,_,_,rfl,rfl,by lia,by lia,(by rw[t2];have:min 2 n<=2:=Ct _ _;have:=CI this (zU (n:Int).toNat);lia),_,rfl,_,rfl,_,rfl,(l1000 _ (by rw[eQ,t2];have:min 2 n<=2:=Ct _ _;have:=CI (zU (n:Int).toNat) this;lia)),?_⟩;refine⟨au (by show 4<=1000000;decide),fun L nL=>?_⟩;have DF:=z1.trans (DL.trans (Dr.new DL.ds nL (.lst [.str text,.str (Txt.mul ⟨#[c0]⟩ n),.str (Txt.slice (Txt.mul "lr" n) none (some n)),.str (Txt.slice (Txt.mul (Txt.slice text none (some 2)) n) none (some n))])));have cx:∃z,atI [V.str text,.str (Txt.mul ⟨#[c0]⟩ n),.str (Txt.slice (Txt.mul "lr" n) none (some n)),.str (Txt.slice (Txt.mul (Txt.slice text none (some 2)) n) none (some n))] way=some (.str z)/\LRs z/\z.length=n:=by
  have:way=0\/way=1\/way=2\/way=3:=by lia
  rcases this with rfl|rfl|rfl|rfl
  ·exact⟨_,rfl,tlr,tl⟩
  ·refine⟨_,rfl,fun c hc=>?_,?_⟩
   ·have:=gE hc;have e:c=c0:=by simpa using this
    rw[e];exact lc0
   ·rw[eQ,nt];show n*1=n;lia
  ·refine⟨_,rfl,fun c hc=>JY c (gE (dY hc)),?_⟩;rw[fb,eQ,nt,Gs];lia
  ·refine⟨_,rfl,fun c hc=>tlr c (dY (gE (dY hc))),?_⟩;rw[fb,eQ,nt,t2];have:1<=min 2 n:=by lia
   have:=CI (zU n) this;lia
 obtain⟨z,ez,lz,nz⟩:=cx;refine⟨_,rfl,_,rfl,L,_,_,_,rfl,rfl,SqL.of ae,ez,?_⟩;exact q z _ DF lz (by lia) (by lia)
theorem sX{cs:List Nat}(h:∀c∈cs,El c):Bd (2*cs.length+1) (wt cs):=by
 have:=gY (n:=1) (ts:=cs.map cG) (fun t ht=>by
  obtain⟨c,hc,rfl⟩:=Ae.mp ht
  exact tH (h c hc)) cs.length
 rw[Ap (by rw[zV];exact zU _),gc] at this;exact this
def Js:Sp:=fun vs H Q _=>∃v cs,vs=[v]/\(∀c∈cs,El c)/\cs.length<=400/\T4o H v (wt cs)/\∀H',DN H H'->Q (.str (txt cs)) H'
theorem um{dp dw d:DD}{lt:Tok}(m_lw:mg "LONGEST_WORD"=some (.int 400 lt))(xq:(dg "is_plain" 16 ["table"] dp 3 FV))(D_ww:(dg "word_within" 19 ["table","most"] dw 1 JX))(D:Def K mg "word_of" (top 20) ["table"] d):(fk 4 d ["table"] Js):=by
 exists["table","word"]
 obtain⟨v,cs,rfl,hlr,hl,h4,q⟩:=h;refine⟨_,(ag (br (dQ (bH (bb xq.1 xq.2 (0) ax))) (ai (Ey _)) (DR _)) (ag (ay 1 (Or.inl rfl) (aY D_ww.1 D_ww.2 (DJ (0) (aG (cy (.int 400) m_lw ⟨_,rfl⟩) ax) ax))) (ag (br (aB GA (1) (bU _) (aE _)) (ai (Ey _)) (DR _)) (ai (aC (1)))))),?_⟩
 walk_at "d"
 refine⟨_,rfl,v,_,_,rfl,h4,sX hlr,(by lia),fun H1 S1=>⟨dS (wt cs),rfl,?_⟩⟩;rw[Fe.mpr (EC hlr)];refine⟨_,rfl,v,cs,400,rfl,by decide,hlr,h4.mono S1,fun hl H2 S2=>?_,fun hl' H2 S2=>absurd hl' (by lia)⟩;refine⟨_,rfl,rfl,false,rfl,?_⟩;exact⟨_,rfl,q H2 (S1.trans S2)⟩
def Jx:Sp:=fun vs H Q _=>∃v cs,vs=[v]/\(∀c∈cs,El c)/\1<=cs.length/\cs.length<=40/\T4o H v (wt cs)/\∀H',DN H H'->Q (.str (txt cs)) H'
theorem uA{cs:List Nat}(h:1<=cs.length):txt cs≠"":=fun z=>by
 have:(txt cs).cps.toList=("":Str).cps.toList:=by rw[z]
 have e:cs=[]:=this;rw[e] at h;exact absurd h (by decide)
theorem uz{dp dw d:DD}{lt:Tok}(m_lm:mg "LONGEST_MAKER"=some (.int 40 lt))(xq:(dg "is_plain" 16 ["table"] dp 3 FV))(D_ww:(dg "word_within" 19 ["table","most"] dw 1 JX))(D:Def K mg "maker_word" (top 24) ["maker"] d):(fk 4 d ["maker"] Jx):=by
 exists["maker","word"]
 obtain⟨v,cs,rfl,hlr,h1,hl,h4,q⟩:=h;refine⟨_,(ag (br (dQ (bH (bb xq.1 xq.2 (0) ax))) (ai (Ey _)) (DR _)) (ag (ay 1 (Or.inl rfl) (aY D_ww.1 D_ww.2 (DJ (0) (aG (cy (.int 40) m_lm ⟨_,rfl⟩) ax) ax))) (ag (br (@PW.pt _ _ _ (jc (aB GA (1) (bU _) (aE _)) (fU (aB Fb (1) (bQ _) (aE _))))) (ai (Ey _)) (DR _)) (ai (aC (1)))))),?_⟩
 walk_at "d"
 refine⟨_,rfl,v,_,_,rfl,h4,sX hlr,(by lia),fun H1 S1=>⟨dS (wt cs),rfl,?_⟩⟩;rw[Fe.mpr (EC hlr)];refine⟨_,rfl,v,cs,40,rfl,by decide,hlr,h4.mono S1,fun hl H2 S2=>?_,fun hl' H2 S2=>absurd hl' (by lia)⟩;refine⟨_,rfl,rfl,false,rfl,?_⟩;refine⟨_,rfl,rfl,false,?_,?_⟩
 ·show V.bl (decide (V.str (txt cs)=V.str ""))=_;rw[De (fun z=>uA h1 (by injection z))]
 exact⟨_,rfl,q H2 (S1.trans S2)⟩
abbrev Mks(H:Hp)(vs:List V)(ws:List (List Nat)):Prop:=Paired (fun v cs=>T4o H v (wt cs)) vs ws
structure Wds(ws:List (List Nat)):Prop where
 n1:1<=ws.length
 n8:ws.length<=8
 lr:∀cs∈ws,∀c∈cs,El c
 l1:∀cs∈ws,1<=cs.length
 l40:∀cs∈ws,cs.length<=40
abbrev ao(ws:List (List Nat)):List V:=ws.map fun cs=>.str (txt cs)
theorem Mks.at{H:Hp}:∀{vs:List V}{ws:List (List Nat)}{i:Nat}{v:V},Mks H vs ws->vs[i]?=some v->∃cs,ws[i]?=some cs/\T4o H v (wt cs)
 |_,_,_,_,.nil,e=>by simp at e
 |_,_,0,_,.cons h _,e=>by simp at e;subst e;exact⟨_,rfl,h⟩
 |_,_,i+1,v,.cons _ r,e=>by
  obtain⟨cs,h1,h2⟩:=Mks.at (i:=i) (v:=v) r (by simpa using e);exact⟨cs,by simpa using h1,h2⟩
def Hh:Sp:=fun vs H Q _=>∃l us ws,vs=[.ref l]/\H l=some (.lst us)/\Mks H us ws/\Wds ws/\∀p H',DN H H'->H' p=some (.lst (ao ws))->Q (.ref p) H'
theorem uy{dm d:DD}{lt:Tok}(m_mm:mg "MOST_MAKERS"=some (.int 8 lt))(yK:(dg "maker_word" 24 ["maker"] dm 4 Jx))(D:Def K mg "maker_words" (top 25) ["makers"] d)(xg:mg "isinstance"=none)(xn:mg "list"=none)(xf:mg "len"=none):(fk 5 d ["makers"] Hh):=by
 exists["makers"]
 obtain⟨l,us,ws,rfl,hl,hm,hw,q⟩:=h;have el:us.length=ws.length:=hm.length;have h1:=hw.n1;have h8:=hw.n8;refine⟨_,(ag (br (@PW.pt _ _ _ (jc (dQ (bH (aP Ez xg DY (DJ (0) (aG (eG (.ty "list") xn Ex) ax) ax)))) (fU (dQ (@ph _ _ _ _ _ _ _ _ _ _ _ _ JJ JJ (ah _) (aM DP xf (0) ax) (cy (.int 8) m_mm ⟨_,rfl⟩) (by with_unfolding_all rfl)))))) (ai (Ey _)) (DR _)) (ai (aC (aO (ak (ts:=["maker"]) (cap:=[]) (js:=[]) rfl rfl rfl rfl rfl rfl (by decide +kernel)) (aJ (0)) (ad 0 (nd ["maker"])) (@aR _) (bb yK.1 yK.2 (0) ax))))),?_⟩
 walk_at "d"
 refine⟨_,rfl,.ref l,.ty "list",.type "list",.type "list",true,rfl,rfl,.lst hl,rfl,true,rfl,?_⟩;refine⟨_,rfl,l,us,rfl,.inl (SqL.of hl),_,_,rfl,rfl,true,?_,?_⟩
 ·show V.bl (decide ((1:Int)<=(us.length:Int)))=_;rw[Dd (by lia)]
 refine⟨_,_,rfl,rfl,true,?_,?_⟩
 ·show V.bl (decide ((us.length:Int)<=8))=_;rw[Dd (by lia)]
 refine⟨_,rfl,l,rfl,⟨_,SqL.of hl⟩,?_⟩;refine bZ (K:=K) (a:=l) (xs:=us) (fun i ys H'=>DN H H'/\ys=ao (ws.take i)) ⟨DN.refl H,rfl⟩ (fun i ys H' hi z=>by rw[z.2,zV,Az];lia) (au (by lia)) (fun i ys H' hi z=>SqL.of (z.1 _ _ hl)) (fun i x ys H' hx z=>?_) (fun ys H' z p hp=>?_)
 ·obtain⟨z1,rfl⟩:=z;have hi:i<us.length:=(Ai.mp hx).1;obtain⟨cs,ec,h4⟩:=hm.at hx;have mc:=Aq ec;refine⟨_,rfl,x,cs,rfl,hw.lr cs mc,hw.l1 cs mc,hw.l40 cs mc,h4.mono z1,fun H2 S2=>Nx.mk hi ⟨z1.trans S2,?_⟩⟩;rw[Au,ec];simp[ao]
 ·obtain⟨z1,rfl⟩:=z;have e:ws.take us.length=ws:=Ap (by lia);rw[e];exact q p _ (z1.trans (af hp _)) ae
def dI (x w:List Nat):Bool:=Txt.endswith (txt x) (txt w)
def aD (ws:List (List Nat))(x:List Nat)(e:Nat):List (Nat×Nat):=(ws.zipIdx.filter fun p=>dI (x.take e) p.1).map fun p=>(p.2,e-p.1.length)
theorem eT(ws:List (List Nat))(w x:List Nat)(e:Nat):aD (ws++[w]) x e=aD ws x e++(if dI (x.take e) w=true then [(ws.length,e-w.length)] else []):=by
 unfold aD;rw[List.zipIdx_append,Bc,An]
 congr 1
 show((List.filter _ [(w,0+ws.length)]).map _)=_;rw[BW,AQ];split<;>rfl
theorem eJ(x:List Nat)(e:Nat):Txt.slice (txt x) none (some (e:Int))=txt (x.take e):=by
 apply gQ;rw[cY,jT];rfl
abbrev Stp(H:Hp)(vs:List V)(ss:List (Nat×Nat)):Prop:=Paired (fun v s=>∃a,v=.ref a/\H a=some (.tup [.int ((s:Nat×Nat).1:Int),.int (s.2:Int)])) vs ss
theorem Stp.mono{H H':Hp}(S:DN H H'){vs:List V}{ss:List (Nat×Nat)}(h:Stp H vs ss):Stp H' vs ss:=Paired.EF h fun v s hq88=>by obtain⟨a,e,g⟩:=hq88;exact⟨a,e,S _ _ g⟩
def GU:Sp:=fun vs H Q _=>∃l ws x e,vs=[.ref l,.str (txt x),.int ((e:Nat):Int)]/\H l=some (.lst (ao ws))/\ws.length<=9/\(∀cs∈ws,cs.length<=40)/\x.length<=400/\(∀cs∈ws,dI (x.take e) cs=true->cs.length<=e) /\
 ∀p us H',DN H H'->H' p=some (.lst us)->Stp H' us (aD ws x e)->Q (.ref p) H'
theorem sh{d:DD}(D:Def K mg "last_steps" (top 26) ["words","text","end"] d)(xi:mg "enumerate"=none)(xf:mg "len"=none):(fk 1 d ["words","text","end"] GU):=by
 exists["words","text","end","ahead"]
 obtain⟨l,ws,x,e,rfl,hl,h8,h40,h400,hle,q⟩:=h;refine⟨_,(ag (ay 3 (Or.inr rfl) (aV Ei (1) (Ea _) (bo (2)))) (ai (aC (aO (ak (ts:=["number","word"]) (cap:=["end","ahead"]) (js:=[2,3]) rfl rfl rfl rfl rfl rfl (by decide +kernel)) (jm xi (aG (0) ax)) (@ck _ _ _ _ _ 2 K rfl hc (av (ad 0 (nd ["number","word","end","ahead"])) (av (ad 1 (nd ["number","word","end","ahead"])) (DW _))) (by rfl) (by rfl)) (@bz _ _ _ (bH (iO Dl PySem.F.slot_str_endswith PySem.F.type_str_endswith Hq (3) (aG (1) ax)))) (aN (DJ (0) (aG (aA ES (2) (aM DM xf (1) ax)) (by rfl)) ax)))))),?_⟩
 walk_at "d"
 refine⟨_,rfl,_,rfl,_,rfl,txt x,rfl,au (by show x.length<=1000000;lia),?_⟩;rw[eJ];refine⟨_,rfl,l,rfl,⟨_,SqL.of hl⟩,?_⟩;have el:(ao ws).length=ws.length:=zV ..;refine rG (K:=K) (a:=l) (xs:=ao ws) (fun i ys H'=>DN H H'/\ys.length<=i/\Stp H' ys (aD (ws.take i) x e)) ⟨DN.refl H,zU _,.nil⟩ (fun i ys H' hi z=>z.2.1) (au (by lia)) (fun i ys H' hi z=>SqL.of (z.1 _ _ hl)) (fun i v ys H' p hx z hp=>?_) (fun ys H' z p hp=>?_)
 ·obtain⟨z1,z2,z3⟩:=z;have hi:i<(ao ws).length:=(Ai.mp hx).1;have hi':i<ws.length:=by lia
  have ev:v=.str (txt ws[i]):=by
   rw[Ao,Ac hi'] at hx;exact(Dj hx).symm
  subst ev;have S1:=af hp (.tup [.int (i:Int),.str (txt ws[i])]);refine⟨p,_,rfl,SqT.of ae,rfl,_,_,rfl,_,_,rfl,rfl,?_⟩;have hm:ws[i]∈ws:=Ay hi';have et:ws.take (i+1)=ws.take i++[ws[i]]:=by rw[Au,Ac hi'];rfl
  have elt:(ws.take i).length=i:=by rw[Az];lia
  refine⟨_,rfl,rfl,_,rfl,txt (x.take e),txt ws[i],rfl,rfl,dI (x.take e) ws[i],rfl,?_⟩;have st:=eT (ws.take i) ws[i] x e;rw[<- et,elt] at st;cases hB:dI (x.take e) ws[i] with
  |false=>
   rw[hB] at st;show Nx (ao ws).length i (fun i ys H'=>DN H H'/\ys.length<=i/\Stp H' ys (aD (List.take i ws) x e)) ys _;refine Nx.mk hi ⟨z1.trans S1,by lia,?_⟩;rw[st];simpa using z3.mono S1
  |true=>
   rw[hB] at st;have h2:=hle _ hm hB;have h4:=h40 _ hm;refine⟨_,rfl,_,rfl,_,rfl,txt ws[i],rfl,au (by show ws[i].length<=1000000;lia),_,_,rfl,rfl,au (by show 2<=1000000;decide),fun a na=>?_⟩;have S2:=af na (.tup [.int (i:Int),.int ((e:Int)-((txt ws[i]).length:Nat))]);refine Nx.mk hi ⟨z1.trans (S1.trans S2),by rw[zW];exact DA z2,?_⟩;rw[st];refine Paired.snoc ((z3.mono S1).mono S2) ⟨a,rfl,?_⟩;have e1:((e:Int)-((txt ws[i]).length:Nat))=((e-ws[i].length:Nat):Int):=by
    show(e:Int)-(ws[i].length:Nat)=_;lia
   show upd _ a (.tup [.int (i:Int),.int ((e:Int)-((txt ws[i]).length:Nat))]) a=some (.tup [.int (i:Int),.int ((e-ws[i].length:Nat):Int)]);rw[e1];exact ae
 ·obtain⟨z1,z2,z3⟩:=z;rw[el,Ap (zU _)] at z3;exact q p _ _ (z1.trans (af hp _)) ae (z3.mono (af hp _))
theorem Ib:bootBuiltins "sum"=some (.builtin "sum"):=by decide +kernel
structure Wok(ws:List (List Nat)):Prop where
 n8:ws.length<=9
 l1:∀cs∈ws,1<=cs.length
 l40:∀cs∈ws,cs.length<=40
theorem Wds.ok{ws:List (List Nat)}(h:Wds ws):Wok ws:=⟨Ak h.n8 (by decide),h.l1,h.l40⟩
theorem eX{x w:List Nat}(h:dI x w=true):w.length<=x.length:=by
 unfold dI Txt.endswith at h;have:=Dh (AG _ _▸h).1;have e1:(txt w).length=w.length:=rfl;have e2:(txt x).length=x.length:=rfl;lia
theorem fK{x w:List Nat}{e:Nat}(h:dI (x.take e) w=true):w.length<=e:=by
 have:=eX h;rw[Az] at this;lia
theorem fz{ws:List (List Nat)}{x:List Nat}{e:Nat}{s:Nat×Nat}(h:s∈aD ws x e):∃w,ws[s.1]?=some w/\dI (x.take e) w=true/\s.2=e-w.length:=by
 unfold aD at h;obtain⟨p,hp,rfl⟩:=Ae.mp h;obtain⟨hp,hb⟩:=AK.mp hp;exact⟨p.1,CT.mp hp,hb,rfl⟩
theorem bf{ws:List (List Nat)}(W:Wok ws){x:List Nat}{e:Nat}{s:Nat×Nat}(h:s∈aD ws x (e+1)):s.2<=e:=by
 obtain⟨w,hw,_,e2⟩:=fz h;have:=W.l1 w (Aq hw);lia
def de (ws:List (List Nat))(x:List Nat):Nat->List Int
 |0=>[1]
 |n+1=>de ws x n++[((aD ws x (n+1)).map fun s=>(de ws x n).getD s.2 0).sum]
theorem fE(ws:List (List Nat))(x:List Nat):∀n,(de ws x n).length=n+1
 |0=>rfl
 |n+1=>by rw[de,zW,fE ws x n];rfl
abbrev ivs(ns:List Int):List V:=ns.map V.int
theorem Stp.at{H:Hp}:∀{vs:List V}{ss:List (Nat×Nat)}{i:Nat}{v:V},Stp H vs ss->vs[i]?=some v->∃s a,ss[i]?=some s/\v=.ref a/\H a=some (.tup [.int (s.1:Int),.int (s.2:Int)])
 |_,_,_,_,.nil,e=>by simp at e
 |_,_,0,_,.cons ⟨a,h1,h2⟩ _,e=>by simp at e;subst e;exact⟨_,a,rfl,h1,h2⟩
 |_,_,i+1,v,.cons _ r,e=>by
  obtain⟨s,a,h1,h2⟩:=Stp.at (i:=i) (v:=v) r (by simpa using e);exact⟨s,a,by simpa using h1,h2⟩
theorem kj{ns:List Int}{j:Nat}(h:j<ns.length):atI (ivs ns) ((j:Nat):Int)=some (.int (ns.getD j 0)):=by
 apply aW;rw[Ao,Ac h,Am,Ac h];rfl
def HV:Sp:=fun vs H Q _=>∃l ws x,vs=[.ref l,.str (txt x)]/\H l=some (.lst (ao ws))/\Wok ws/\x.length<=400/\∀p H',DN H H'->H p=none->H' p=some (.lst (ivs (de ws x x.length)))->Q (.ref p) H'
theorem qF{dl d:DD}(xE:(dg "last_steps" 26 ["words","text","end"] dl 1 GU))(D:Def K mg "ways_to_places" (top 27) ["words","text"] d)(xh:mg "range"=none)(xf:mg "len"=none)(yi:mg "sum"=none):(fk 2 d ["words","text"] HV):=by
 exists["words","text","ways","end"]
 obtain⟨l,ws,x,rfl,hl,W,h400,q⟩:=h;refine⟨_,(ag (ay 2 (Or.inr rfl) (aS (aG (ah _) bp))) (ag (bV (fu xh (DJ (ah _) (aG (aA DV (aM DM xf (1) ax) (ah _)) (by rfl)) bp)) (aj 3) (ai (bu (cR (2) (aP (il hc) yi Ib (aG (aO (ak (ts:=["number","start"]) (cap:=["ways"]) (js:=[2]) rfl rfl rfl rfl rfl rfl (by decide +kernel)) (aJ (aY xE.1 xE.2 (DJ (0) (DJ (1) (aG (3) ax) ax) ax))) (@ck _ _ _ _ _ 2 K rfl hc (av (ad 0 (nd ["number","start","ways"])) (av (ad 1 (nd ["number","start","ways"])) (DW _))) (by rfl) (by rfl)) (@aR _) (aK (show IxR _ (iQ K) from DO) (2) (1))) (by rfl))) eW)))) (ai (aC (2))))),?_⟩
 walk_at "d"
 refine⟨au (by show 1<=1000000;decide),fun L nL=>?_⟩;have F0:=(Hs.start H).new nL (.lst [.int 1]);refine⟨_,rfl,txt x,rfl,au (by show x.length<=1000000;lia),_,_,rfl,rfl,?_⟩;have big:x.length<2^62:=by lia
 refine⟨1,((txt x).length:Nat)+1,rfl,⟨by decide,by decide,by show -(2^62)<=((x.length:Nat):Int)+1;lia,by show((x.length:Nat):Int)+1<2^62;lia⟩,?_⟩;have en:((((txt x).length:Nat):Int)+1-1).toNat=x.length:=by show(((x.length:Nat):Int)+1-1).toNat=_;lia
 rw[en];refine⟨fun i m σ H'=>m=x.length-i/\i<=x.length/\(∃e',σ=[some (.ref l),some (.str (txt x)),some (.ref L),e'])/\Hs H [(L,.lst (ivs (de ws x i)))] H',⟨_,rfl,Ag _,⟨_,rfl⟩,F0⟩,fun i m σ H' z=>?_⟩;obtain⟨rfl,hi,⟨e',rfl⟩,F⟩:=z;have hlL:l≠L:=az hl nL;by_cases hend:i=x.length
 ·subst hend;exact .inl ⟨zU _,_,rfl,q L H' F.all nL (F.get 0)⟩
 have hlt:i<x.length:=by lia
 refine .inr ⟨hlt,fun σ' H''=>(∃e',σ'=[some (.ref l),some (.str (txt x)),some (.ref L),e'])/\Hs H [(L,.lst (ivs (de ws x (i+1))))] H'',fun σ' H'' z=>⟨x.length-(i+1),by lia,rfl,hlt,z.1,z.2⟩,fun v H'' z=>?_⟩;obtain⟨rfl,ev⟩:=z;obtain rfl:v=.int ((i+1:Nat):Int):=by rw[ev];congr 1;lia
 have wl:=fE ws x i;refine⟨_,rfl,.inl ⟨rfl,_,SqL.of (F.get 0)⟩,_,rfl,_,rfl,_,rfl,l,ws,x,i+1,rfl,F.all _ _ hl,W.n8,W.l40,h400,fun cs _ h=>fK h,fun p us H1 S1 hp hs=>⟨p,rfl,⟨_,SqL.of hp⟩,?_⟩⟩;have sl:(aD ws x (i+1)).length<=9:=by
  unfold aD;rw[zV];refine Ak (AX _ _) ?_;rw[Cc];exact W.n8
 have eu:=Paired.length hs;refine bZ (K:=K) (a:=p) (xs:=us) (fun k ys H2=>DN H1 H2/\ys=ivs (((aD ws x (i+1)).take k).map fun s=>(de ws x i).getD s.2 0)) ⟨DN.refl H1,rfl⟩ (fun k ys H2 hk z=>by rw[z.2,zV,zV,Az];lia) (au (by lia)) (fun k ys H2 hk z=>SqL.of (z.1 _ _ hp)) (fun k v ys H2 hv z=>?_) (fun ys H2 z p' hp'=>?_)
 ·obtain⟨z1,rfl⟩:=z;have hk:k<us.length:=(Ai.mp hv).1;obtain⟨s',a,es,rfl,ha⟩:=hs.at hv;have hst:=bf W (Aq es);refine⟨a,_,rfl,SqT.of (z1 _ _ ha),rfl,_,_,rfl,_,_,rfl,rfl,?_⟩;refine⟨_,rfl,_,rfl,L,_,_,_,rfl,rfl,SqL.of (z1 _ _ (S1 _ _ (F.get 0))),kj (by lia),Nx.mk hk ⟨z1,?_⟩⟩;rw[Au,es];simp[ivs]
 ·obtain⟨z1,rfl⟩:=z;rw[eu,Ap (zU _)];refine⟨p',_,rfl,SqL.of ae,L,ivs (de ws x i),_,rfl,rfl,?_,?_,?_⟩
  ·exact af hp' _ _ _ (z1 _ _ (S1 _ _ (F.get 0)))
  ·refine Ah (show _<1000000 from ?_) (au (zU _));rw[zV];lia
  ·refine⟨⟨_,rfl⟩,?_⟩;have F1:=F.mono (S1.trans (z1.trans (af hp' (.lst (ivs ((aD ws x (i+1)).map fun s=>(de ws x i).getD s.2 0))))));have F2:=F1.put 0 (.lst (ivs (de ws x (i+1))));rw[de] at F2 ⊢;simpa [ivs] using F2
def Ky:Sp:=fun vs H Q _=>∃r ns,vs=[.ref r]/\H r=some (.lst (ivs ns))/\∀p,H p=none->Q (.ref p) (upd H p (.tup [.int ((ns.length:Nat):Int),.ref r]))
theorem wN{d:DD}(D:Def K mg "shortest_first" (top 28) ["row"] d)(xf:mg "len"=none):(fk 1 d ["row"] Ky):=by
 exists["row"]
 obtain⟨r,ns,rfl,h,q⟩:=h;refine⟨_,(ai (aC (aN (DJ (aM DP xf (0) ax) (aG (0) ax) eW)))),?_⟩
 walk_at "d"
 refine⟨_,rfl,r,_,rfl,.inl (SqL.of h),_,rfl,au (by show 2<=1000000;decide),fun p hp=>?_⟩;have z:=q p hp;rw[<- zV (f:=V.int) (as:=ns)] at z;exact z
def Rw (H0 H:Hp)(X:Addr)(v:V)(o:Option (List Int)):Prop:=(o=none/\v=.non)\/∃a ns,o=some ns/\v=.ref a/\H0 a=none/\a≠X/\H a=some (.lst (ivs ns))
abbrev Rws(H0 H:Hp)(X:Addr)(us:List V)(L:List (Option (List Int))):Prop:=Paired (Rw H0 H X) us L
theorem Rws.mono{H0 H H':Hp}{X:Addr}(S:DN H H'){us:List V}{L:List (Option (List Int))}(h:Rws H0 H X us L):Rws H0 H' X us L:=
 Paired.EF h fun v o h=>h.elim .inl fun hq89=>by obtain⟨a,ns,h1,h2,h3,h4,h5⟩:=hq89;exact .inr ⟨a,ns,h1,h2,h3,h4,S _ _ h5⟩
theorem Rws.put{H0 H:Hp}{X:Addr}(u:HO){us:List V}{L:List (Option (List Int))}(h:Rws H0 H X us L):Rws H0 (upd H X u) X us L:=
 Paired.EF h fun v o h=>h.elim .inl fun hq90=>by obtain⟨a,ns,h1,h2,h3,h4,h5⟩:=hq90;exact .inr ⟨a,ns,h1,h2,h3,h4,by rw[ar h4];exact h5⟩
theorem Rws.at{H0 H:Hp}{X:Addr}:∀{us:List V}{L:List (Option (List Int))}{i:Nat},Rws H0 H X us L->i<L.length->∃v,us[i]?=some v/\Rw H0 H X v (L.getD i none)
 |_,_,_,.nil,h=>absurd h (by simp)
 |_,_,0,.cons h _,_=>⟨_,rfl,h⟩
 |_,_,i+1,.cons _ r,h=>by
  obtain⟨v,h1,h2⟩:=Rws.at (i:=i) r (by simpa using h);exact⟨v,by simpa using h1,by simpa using h2⟩
def me (ws:List (List Nat))(x:List Nat)(L:List (Option (List Int)))(e:Nat):List (List Int):=(aD ws x e).filterMap fun s=>(L.getD s.2 none).map fun r=>r++[(s.1:Int)]
inductive Lst(ws:List (List Nat))(x:List Nat):Nat->List (Option (List Int))->Prop
 |zero:Lst ws x 0 [some []]
 |miss {n:Nat}{L:List (Option (List Int))}:Lst ws x n L->me ws x L (n+1)=[]->Lst ws x (n+1) (L++[none])
 |hit {n:Nat}{L:List (Option (List Int))}{r:List Int}:Lst ws x n L->r∈me ws x L (n+1)->(∀r'∈me ws x L (n+1),kLt r' r=false)->Lst ws x (n+1) (L++[some r])
theorem Lst.len{ws:List (List Nat)}{x:List Nat}{n:Nat}{L:List (Option (List Int))}(h:Lst ws x n L):L.length=n+1:=by
 induction h with
 |zero=>rfl
 |miss _ _ ih=>rw[zW,ih];rfl
 |hit _ _ _ ih=>rw[zW,ih];rfl
theorem fT(L:List (Option (List Int))):∀ss:List (Nat×Nat),((ss.filter fun s=>(L.getD s.2 none).isSome).map fun s=>(L.getD s.2 none).getD []++[(s.1:Int)])=ss.filterMap fun s=>(L.getD s.2 none).map fun r=>r++[(s.1:Int)]
 |[]=>rfl
 |s::ss=>by
  have ih:=fT L ss;cases h:L.getD s.2 none with
  |none=>rw[List.filter_cons_of_neg (by rw[h];simp),ih,List.filterMap_cons_none (by rw[h];rfl)]
  |some r=>rw[List.filter_cons_of_pos (by rw[h];rfl),Av,ih,List.filterMap_cons_some (b:=r++[(s.1:Int)]) (by rw[h];rfl),h];rfl
theorem bR{α:Type}(L:List α)(y d:α)(i:Nat):(L++[y]).getD i d=if i<L.length then L.getD i d else if i=L.length then y else d:=by
 rw[Am,Am];by_cases h:i<L.length
 ·rw[Dc h,BE h]
 ·rw[CZ h,Bh (by lia)];by_cases h2:i=L.length
  ·rw[Dc h2,h2,Nat.sub_self];rfl
  ·rw[CZ h2,BJ (by show 1<=_;lia)];rfl
theorem Lst.bound{ws:List (List Nat)}(W:Wok ws){x:List Nat}{n:Nat}{L:List (Option (List Int))}(h:Lst ws x n L):∀(i:Nat)(r:List Int),L.getD i none=some r->r.length<=i:=by
 induction h with
 |zero=>
  intro i r e
  match i,e with
  |0,e=>cases e;exact zU _
  |i+1,e=>exact absurd e (by simp)
 |miss h _ ih=>
  intro i r e;rw[bR] at e;split at e
  ·exact ih i r e
  ·split at e<;>cases e
 |@hit n L r0 h hr _ ih=>
  intro i r e;rw[bR] at e;split at e
  ·exact ih i r e
  ·split at e
   ·rename_i h1 h2;cases e;obtain⟨s,hs,es⟩:=AL.mp hr;have h3:=bf W hs;have h4:=h.len;cases q:L.getD s.2 none with
    |none=>rw[q] at es;cases es
    |some r1=>
     rw[q] at es;have es':r1++[(s.1:Int)]=r0:=by simpa using es
     have:=ih _ _ q;rw[<- es',zW];show r1.length+1<=i;lia
   ·cases e
def Jq:Sp:=fun vs H Q _=>∃l ws x,vs=[.ref l,.str (txt x)]/\H l=some (.lst (ao ws))/\Wok ws/\x.length<=400/\∀p us L H',DN H H'->H' p=some (.lst us)->Rws H H' p us L->Lst ws x x.length L->Q (.ref p) H'
theorem uH{dl df d:DD}(xE:(dg "last_steps" 26 ["words","text","end"] dl 1 GU))(D_sf:(dg "shortest_first" 28 ["row"] df 1 Ky))(D:Def K mg "least_to_places" (top 29) ["words","text"] d)(xh:mg "range"=none)(xf:mg "len"=none)(xu:mg "min"=none):(fk 3 d ["words","text"] Jq):=by
 exists["words","text","least","end","steps","rows"]
 obtain⟨l,ws,x,rfl,hl,W,h400,q⟩:=h;refine⟨_,(ag (ay 2 (Or.inr rfl) (aS (aG (aS (DT _)) (by rfl)))) (ag (bV (fu xh (DJ (ah _) (aG (aA DV (aM DM xf (1) ax) (ah _)) (by rfl)) bp)) (aj 3) (ag (bY 4 (ak (ts:=["number","start"]) (cap:=["least"]) (js:=[2]) rfl rfl rfl rfl rfl rfl (by decide +kernel)) (aJ (aY xE.1 xE.2 (DJ (0) (DJ (1) (aG (3) ax) ax) ax))) (@ck _ _ _ _ _ 2 K rfl hc (av (ad 0 (nd ["number","start","least"])) (av (ad 1 (nd ["number","start","least"])) (DW _))) (by rfl) (by rfl)) (@bz _ _ _ (aB EI (aK (show IxR _ (iQ K) from DO) (2) (1)) (bU _) (aE _))) (aN (DJ (0) (aG (1) ax) ax))) (ag (bY 5 (ak (ts:=["number","start"]) (cap:=["least"]) (js:=[2]) rfl rfl rfl rfl rfl rfl (by decide +kernel)) (aJ (4)) (@ck _ _ _ _ _ 2 K rfl hc (av (ad 0 (nd ["number","start","least"])) (av (ad 1 (nd ["number","start","least"])) (DW _))) (by rfl) (by rfl)) (@aR _) (aA Ff (aK (show IxR _ (iQ K) from DO) (2) (1)) (aS (aG (0) ax)))) (ai (bu (cR (2) (mD (nK (mY (D_sf.2.mono (by decide)) hr D_sf.1.b (fun r ns H Q h q=>⟨r,ns,rfl,h,q⟩)) hc hr.units) xu FN (aG (5) ax) (jL (cy (.ref df.f) D_sf.1.m rfl) (jL (bU _) (@Il _)))) eW)))))) (ai (aC (2))))),?_⟩
 walk_at "d"
 refine⟨Ag _,fun L0 nL0=>⟨au (by show 1<=1000000;decide),fun LA nLA=>?_⟩⟩;have n0:LA≠L0:=fun z=>by rw[z,ae] at nLA;cases nLA
 have SA:DN H (upd (upd H L0 (.lst [])) LA (.lst [.ref L0])):=(af nL0 _).trans (af nLA _);have nA:H LA=none:=by rw[ar n0] at nLA;exact nLA
 have R0:Rws H (upd (upd H L0 (.lst [])) LA (.lst [.ref L0])) LA [.ref L0] [some []]:=.cons (.inr ⟨L0,[],rfl,rfl,nL0,Dw n0,by rw[ar (Dw n0)];exact ae⟩) .nil;have gA:upd (upd H L0 (.lst [])) LA (.lst [.ref L0]) LA=some (.lst [.ref L0]):=ae;generalize upd (upd H L0 (.lst [])) LA (.lst [.ref L0])=HA at SA R0 gA;refine⟨_,rfl,txt x,rfl,au (by show x.length<=1000000;lia),_,_,rfl,rfl,?_⟩;have big:x.length<2^62:=by lia
 refine⟨1,((txt x).length:Nat)+1,rfl,⟨by decide,by decide,by show -(2^62)<=((x.length:Nat):Int)+1;lia,by show((x.length:Nat):Int)+1<2^62;lia⟩,?_⟩;have en:((((txt x).length:Nat):Int)+1-1).toNat=x.length:=by show(((x.length:Nat):Int)+1-1).toNat=_;lia
 rw[en];refine⟨fun i m σ H'=>m=x.length-i/\i<=x.length/\(∃e' s' r',σ=[some (.ref l),some (.str (txt x)),some (.ref LA),e',s',r'])/\∃us L,DN H H'/\H' LA=some (.lst us)/\Rws H H' LA us L/\Lst ws x i L,⟨_,rfl,Ag _,⟨_,_,_,rfl⟩,_,_,SA,gA,R0,.zero⟩,fun i m σ H' z=>?_⟩;obtain⟨rfl,hi,⟨e',s',r',rfl⟩,us,L,SH,hA,hR,hL⟩:=z;by_cases hend:i=x.length
 ·subst hend;exact .inl ⟨zU _,_,rfl,q LA us L H' SH hA hR hL⟩
 have hlt:i<x.length:=by lia
 refine .inr ⟨hlt,fun σ' H''=>(∃e' s' r',σ'=[some (.ref l),some (.str (txt x)),some (.ref LA),e',s',r'])/\∃us L,DN H H''/\H'' LA=some (.lst us)/\Rws H H'' LA us L/\Lst ws x (i+1) L,fun σ' H'' z=>⟨x.length-(i+1),by lia,rfl,hlt,z.1,z.2⟩,fun v H'' z=>?_⟩;obtain⟨rfl,ev⟩:=z;obtain rfl:v=.int ((i+1:Nat):Int):=by rw[ev];congr 1;lia
 have Ll:=hL.len;have Lu:=Paired.length hR;refine⟨_,rfl,_,rfl,_,rfl,l,ws,x,i+1,rfl,SH _ _ hl,W.n8,W.l40,h400,fun cs _ h=>fK h,fun p us0 H1 S1 hp hs=>⟨p,rfl,⟨_,SqL.of hp⟩,?_⟩⟩;have sl:(aD ws x (i+1)).length<=9:=by
  unfold aD;rw[zV];refine Ak (AX _ _) ?_;rw[Cc];exact W.n8
 have eu:=Paired.length hs;refine bZ (K:=K) (a:=p) (xs:=us0) (fun k ys H2=>DN H1 H2/\ys.length<=k/\Stp H2 ys (((aD ws x (i+1)).take k).filter fun s=>(L.getD s.2 none).isSome)) ⟨DN.refl H1,zU _,.nil⟩ (fun k ys H2 hk z=>z.2.1) (au (by lia)) (fun k ys H2 hk z=>SqL.of (z.1 _ _ hp)) (fun k v ys H2 hv z=>?_) (fun us1 H2 z p1 hp1=>?_)
 ·obtain⟨z1,z2,z3⟩:=z;have hk:k<us0.length:=(Ai.mp hv).1;obtain⟨s',a,es,rfl,ha⟩:=hs.at hv;have hst:=bf W (Aq es);have et:(aD ws x (i+1)).take (k+1)=(aD ws x (i+1)).take k++[s']:=by rw[Au,es];rfl
  obtain⟨v',ev',rv'⟩:=hR.at (i:=s'.2) (by lia);refine⟨a,_,rfl,SqT.of (z1 _ _ ha),rfl,_,_,rfl,_,_,rfl,rfl,?_⟩;refine⟨_,rfl,_,rfl,LA,us,_,v',rfl,rfl,SqL.of (z1 _ _ (S1 _ _ hA)),aW ev',rfl,!decide (v'=.non),rfl,?_⟩;rcases rv' with ⟨eo,rfl⟩|⟨a',ns,eo,rfl,_⟩
  ·show Nx us0.length k (fun k ys H2=>DN H1 H2/\ys.length<=k/\Stp H2 ys (((aD ws x (i+1)).take k).filter fun s=>(L.getD s.2 none).isSome)) ys _;refine Nx.mk hk ⟨z1,by lia,?_⟩;rw[et,Bc,AQ,eo];simpa using z3
  ·refine⟨_,rfl,_,rfl,au (by show 2<=1000000;decide),fun a2 na2=>Nx.mk hk ⟨z1.trans (af na2 _),by rw[zW];exact DA z2,?_⟩⟩;rw[et,Bc,AQ,eo];exact Paired.snoc (z3.mono (af na2 _)) ⟨a2,rfl,ae⟩
 obtain⟨z1,z2,z3⟩:=z;rw[eu,Ap (zU _)] at z3;have S2:DN H'' (upd H2 p1 (.lst us1)):=S1.trans (z1.trans (af hp1 _));have hs1:=z3.mono (af hp1 (.lst us1));have hp1':upd H2 p1 (.lst us1) p1=some (.lst us1):=ae;generalize upd H2 p1 (.lst us1)=H3 at S2 hs1 hp1';generalize hss:(aD ws x (i+1)).filter (fun s=>(L.getD s.2 none).isSome)=ss at hs1;have eu1:=Paired.length hs1;have sl1:ss.length<=9:=by rw[<- hss];exact Ak (AX _ _) sl
 have mss:∀s∈ss,s.2<=i/\∃r,L.getD s.2 none=some r:=fun s h=>by
  rw[<- hss] at h;obtain⟨h1,h2⟩:=AK.mp h;exact⟨bf W h1,BD.mp h2⟩
 refine⟨_,rfl,p1,rfl,⟨_,SqL.of hp1'⟩,?_⟩;refine bZ (K:=K) (a:=p1) (xs:=us1) (fun k ys H4=>DN H3 H4/\∃ps:List (Addr×List Int),ys=(ps.map fun p=>V.ref p.1)/\ps.map (·.2)=((ss.take k).map fun s=>(L.getD s.2 none).getD []++[(s.1:Int)])/\∀p∈ps,H p.1=none/\p.1≠LA/\H4 p.1=some (.lst (p.2.map V.int))) ⟨DN.refl H3,[],rfl,rfl,fun p h=>absurd h (by simp)⟩ (fun k ys H2 hk z=>?_) (au (by lia)) (fun k ys H2 hk z=>SqL.of (z.1 _ _ hp1')) (fun k v ys H4 hv z=>?_) (fun ys H4 z p2 hp2=>?_)
 ·obtain⟨_,ps,rfl,h2,_⟩:=z;have:=congrArg List.length h2;rw[zV,zV,Az] at this;rw[zV];lia
 ·obtain⟨w1,ps,rfl,w2,w3⟩:=z;have hk:k<us1.length:=(Ai.mp hv).1;obtain⟨s',a,es,rfl,ha⟩:=hs1.at hv;obtain⟨hst,r,er⟩:=mss _ (Aq es);have et:ss.take (k+1)=ss.take k++[s']:=by rw[Au,es];rfl
  obtain⟨v',ev',rv'⟩:=hR.at (i:=s'.2) (by lia);rw[er] at rv';rcases rv' with ⟨eo,rfl⟩|⟨a',ns,eo,rfl,hn',na',ha'⟩
  ·cases eo
  cases eo;have hb:=hL.bound W _ _ er;refine⟨a,_,rfl,SqT.of (w1 _ _ ha),rfl,_,_,rfl,_,_,rfl,rfl,?_⟩;refine⟨_,rfl,_,rfl,LA,us,_,.ref a',rfl,rfl,SqL.of (w1 _ _ (S2 _ _ hA)),aW ev',_,rfl,au (by show 1<=1000000;decide),fun b nb=>?_⟩;refine⟨a',b,ivs r,[.int (s'.1:Int)],rfl,rfl,af nb _ _ _ (w1 _ _ (S2 _ _ ha')),ae,au (by rw[zV];show r.length+1<=1000000;lia),fun c nc=>Nx.mk hk ⟨w1.trans ((af nb _).trans (af nc _)),ps++[(c,r++[(s'.1:Int)])],?_,?_,fun p h=>?_⟩⟩
  ·rw[An];rfl
  ·rw[et,An,An,w2,Av,Av,er];rfl
  ·rcases zZ.mp h with h|h
   ·obtain⟨a1,a2,a3⟩:=w3 p h;exact⟨a1,a2,af nc _ _ _ (af nb _ _ _ a3)⟩
   ·rw[zY.mp h];have fc:=(af nb _).free nc;have f3:H c=none:=(SH.trans (S2.trans w1)).free fc;refine⟨f3,fun z=>?_,?_⟩
    ·have:=w1 _ _ (S2 _ _ hA);rw[<- z,fc] at this;cases this
    ·show upd _ c (.lst (ivs r++[.int (s'.1:Int)])) c=some (.lst ((r++[(s'.1:Int)]).map V.int));rw[ae,An];rfl
 obtain⟨w1,ps,rfl,w2,w3⟩:=z;rw[eu1,Ap (zU _),<- hss,fT] at w2;have hcd:ps.map (·.2)=me ws x L (i+1):=w2;have S3:DN H'' (upd H4 p2 (.lst (ps.map fun p=>V.ref p.1))):=S2.trans (w1.trans (af hp2 _));have S4:=af hp2 (.lst (ps.map fun p=>V.ref p.1));have w3':∀p∈ps,H p.1=none/\p.1≠LA/\upd H4 p2 (.lst (ps.map fun p=>V.ref p.1)) p.1=some (.lst (p.2.map V.int)):=fun p h=>⟨(w3 p h).1,(w3 p h).2.1,S4 _ _ (w3 p h).2.2⟩
 have lz:us.length<sizeLine:=Ah (show _<1000000 by lia) (au (zU _));refine⟨_,rfl,.inl ⟨rfl,_,SqL.of (S3 _ _ hA)⟩,_,rfl,p2,ps,rfl,rfl,ae,fun p h=>(w3' p h).2.2,fun ep=>?_,fun p H5 hp5 hmin S5=>?_⟩
 ·refine⟨LA,us,_,rfl,rfl,S3 _ _ hA,lz,⟨_,_,_,rfl⟩,us++[.non],L++[none],?_,ae,?_,.miss hL (by rw[<- hcd,ep];rfl)⟩
  ·intro b o h;rw[ar (az h nA)];exact S3 _ _ (SH _ _ h)
  ·exact Paired.snoc ((hR.mono S3).put _) (.inl ⟨rfl,rfl⟩)
 ·have S6:=S3.trans S5;refine⟨LA,us,_,rfl,rfl,S6 _ _ hA,lz,⟨_,_,_,rfl⟩,us++[.ref p.1],L++[some p.2],?_,ae,?_,.hit hL (by rw[<- hcd];exact List.mem_map_of_mem hp5) (fun r' hr'=>?_)⟩
  ·intro b o h;rw[ar (az h nA)];exact S6 _ _ (SH _ _ h)
  ·obtain⟨a1,a2,a3⟩:=w3' p hp5;exact Paired.snoc ((hR.mono S6).put _) (.inr ⟨p.1,p.2,rfl,rfl,a1,a2,by rw[ar a2];exact S5 _ _ a3⟩)
  ·rw[<- hcd] at hr';obtain⟨p',hp',rfl⟩:=Ae.mp hr';exact hmin p' hp'
def Ask (H:Hp)(vs:List V)(ws:List (List Nat))(x:List Nat):Prop:=∃l us v,vs=[.ref l,v]/\H l=some (.lst us)/\Mks H us ws/\Wds ws/\(∀c∈x,El c)/\x.length<=400/\T4o H v (wt x)
theorem Mks.mono{H H':Hp}(S:DN H H'){vs:List V}{ws:List (List Nat)}(h:Mks H vs ws):Mks H' vs ws:=Paired.EF h fun v s g=>g.mono S
def Kj:Sp:=fun vs H Q _=>∃ws x,Ask H vs ws x/\∀u L X H',DN H H'->Lst ws x x.length L->Rw H H' X u (L.getD x.length none)->Q u H'
theorem JI:DK ["makers","table","words","text"] ["makers","table"] (aq (top 30)):=by walk_at "s"
theorem vQ{dm dw dx d:DD}(xx:(dg "maker_words" 25 ["makers"] dm 5 Hh))(yP:(dg "word_of" 20 ["table"] dw 4 Js))(yJ:(dg "least_to_places" 29 ["words","text"] dx 3 Jq))(D:Def K mg "least_row" (top 30) ["makers","table"] d)(xf:mg "len"=none):(fk 6 d ["makers","table"] Kj):=by
 refine D.fn.ok JI (fun vs H Q E h=>?_) (fun cdv A outer s H vs Q E hr h=>?_)
 ·obtain⟨ws,x,⟨l,us,v,rfl,_⟩,_⟩:=h;rfl
 obtain⟨ws,x,⟨l,us,v,rfl,hl,hm,hw,hlr,h400,h4⟩,q⟩:=h;have hc:=hr.calm;have nd:=JI.nd;refine⟨_,(ag (ay 2 (Or.inl rfl) (bb xx.1 xx.2 (0) ax)) (ag (ay 3 (Or.inl rfl) (bb yP.1 yP.2 (1) ax)) (ai (aC (aK DO (aY yJ.1 yJ.2 (DJ (2) (aG (3) ax) ax)) (aM DM xf (3) ax)))))),?_⟩
 walk_at "d"
 refine⟨_,rfl,l,us,ws,rfl,hl,hm,hw,fun p1 H1 S1 g1=>?_⟩;refine⟨_,rfl,v,x,rfl,hlr,h400,h4.mono S1,fun H2 S2=>?_⟩;refine⟨_,rfl,_,rfl,p1,ws,x,rfl,S2 _ _ g1,hw.ok,h400,fun p us' L H3 S3 g3 hR hL=>?_⟩;obtain⟨u,eu,ru⟩:=hR.at (i:=x.length) (by rw[hL.len];lia);refine⟨_,rfl,txt x,rfl,au (by show x.length<=1000000;lia),p,us',_,u,rfl,rfl,SqL.of g3,aW eu,?_⟩;have S:=S1.trans (S2.trans S3);refine q u L p H3 S hL ?_;rcases ru with h|⟨a,ns,a1,a2,a3,a4,a5⟩
 ·exact .inl h
 ·exact .inr ⟨a,ns,a1,a2,(S1.trans S2).free a3,a4,a5⟩
theorem DatAll.strs{H:Hp}:∀xs:List Str,DatAll K H (xs.map V.str) (xs.map PyData.str)
 |[]=>.nil
 |x::r=>.cons (.str x) (DatAll.strs r)
theorem FT:∀xs:List Str,PyData.eqv (.list (xs.map PyData.str)) (.list [])=xs.isEmpty
 |[]=>rfl
 |_::_=>rfl
theorem Fi:∀xs:List Str,(∀x∈xs,PyData.strOk x=true)->PyData.canLayAll0 (xs.map PyData.str)=true
 |[],_=>rfl
 |x::r,h=>by
  show(PyData.strOk x&&PyData.canLayAll0 (r.map PyData.str))=true;rw[h x zX,Fi r fun y hy=>h y (Af _ hy)];rfl
theorem Fg:∀xs:List Str,PyData.depthAll (xs.map PyData.str)=0
 |[]=>rfl
 |x::r=>by
  show max 0 (PyData.depthAll (r.map PyData.str))=0;rw[Fg r];rfl
theorem dD(xs:List Str):(PyData.list (xs.map PyData.str)).depth<=60:=by
 have e:(PyData.list (xs.map PyData.str)).depth=PyData.depthAll (xs.map PyData.str)+1:=by simp[PyData.depth]
 rw[e,Fg];decide
theorem sA{x:Str}(h:As x):PyData.strOk x=true:=by
 unfold PyData.strOk;rw[<- CF,AZ];intro c hc;exact Dd (Bu (h c hc) (by decide))
theorem kH{α:Type}{l:List α}{r:Int}(h0:0<=r)(h1:r<l.length):∃c,atI l r=some c/\c∈l:=by
 have hk:r.toNat<l.length:=by lia
 have ek:r=((r.toNat:Nat):Int):=by lia
 have e:=aW (Ac hk);rw[<- ek] at e;exact⟨_,e,Ay hk⟩
theorem Dr.put{p W:Addr}{H H':Hp}(h:Dr p H H')(n:H W=none)(ne:W≠p)(o:HO):Dr p H (upd H' W o):=by
 refine⟨fun b u e=>?_,?_⟩
 ·have e1:=aZ p H _ _ e;have nb:b≠W:=az e1 n;have e2:=h.same _ _ e;have np:b≠p:=fun z=>by unfold hid at e;rw[Dc z] at e;cases e
  rw[fZ np] at e2 ⊢;rw[ar nb];exact e2
 ·obtain⟨a,b,c,e,r⟩:=h.ds;exact⟨a,b,c,by rw[ar (Dw ne)];exact e,r⟩
theorem hG{p W:Addr}{H:Hp}(ne:W≠p)(o:HO):hid p (upd H W o) W=some o:=by rw[fZ ne,ae]
theorem qx(z:Str):z=txt z.cps.toList:=gQ rfl
structure Gw(cs:List Nat):Prop where
 lr:∀c∈cs,El c
 l1:1<=cs.length
 l40:cs.length<=40
abbrev jP(ws:List (List Nat)):List Str:=ws.map txt
theorem eN(ws:List (List Nat)):ao ws=(jP ws).map V.str:=by rw[AJ];rfl
theorem bC(ws:List (List Nat))(z:Str):ao ws++[V.str z]=ao (ws++[z.cps.toList]):=by
 show(ws.map fun cs=>V.str (txt cs))++[V.str z]=(ws++[z.cps.toList]).map fun cs=>V.str (txt cs);rw[An];show _=_++[V.str (txt z.cps.toList)]
 rw[<- qx]
def JD:Sp:=fun vs H Q _=>∃p,vs=[.ref p]/\Ds H p/\∀W ws H',Dr p H H'->H W=none->hid p H' W=some (.lst (ao ws))->Wds ws->Q (.ref W) H'
theorem qY{z:Str}(h:LRs z)(h1:1<=z.length):Gw ((Txt.slice z none (some 40)).cps.toList):=by
 have e:(Txt.slice z none (some 40)).length=min 40 z.length:=by rw[show(40:Int)=((40:Nat):Int) from rfl,fb]
 rw[cn] at e;exact⟨fun c hc=>h c (dY hc),by lia,by lia⟩
theorem tj{dd dp d:DD}(xj:(dg "_law_draw" 51 ["draws","many"] dd 1 Gr))(xo:(dg "_law_piece" 52 ["draws","most"] dp 2 Ga))(D:Def K mg "_law_makers" (top 53) ["draws"] d)(xh:mg "range"=none)(xf:mg "len"=none):(fk 3 d ["draws"] JD):=by
 exists["draws","words","many","most","k","word","one","other","way"]
 obtain⟨p,rfl,hp,q⟩:=h;refine⟨_,(ag (ay 1 (Or.inl rfl) (aS (DT _))) (ag (ay 2 (Or.inl rfl) (aK DO (aS (DJ (aA DV (ah _) (aY xj.1 xj.2 (DJ (0) (aG (ah _) bp) ax))) (DJ (ah _) (aG (ah _) bp) bp) (by rfl))) (aY xj.1 xj.2 (DJ (0) (aG (ah _) bp) ax)))) (ag (ay 3 (Or.inl rfl) (aK DO (aS (DJ (ah _) (DJ (ah _) (DJ (ah _) (aG (ah _) bp) bp) bp) bp)) (aY xj.1 xj.2 (DJ (0) (aG (ah _) bp) ax)))) (ag (bV (bh xh (aG (2) ax)) (aj 4) (ag (ay 5 (Or.inl rfl) (aY xo.1 xo.2 (DJ (0) (aG (3) ax) ax))) (ag (br (aB (cF hr.units) (1) (aS (DT _)) (aE _)) (ag (ay 6 (Or.inl rfl) (aK DO (1) (aY xj.1 xj.2 (DJ (0) (aG (aM DP xf (1) ax) eW) ax)))) (ag (ay 7 (Or.inl rfl) (aK DO (1) (aY xj.1 xj.2 (DJ (0) (aG (aM DP xf (1) ax) eW) ax)))) (ag (ay 8 (Or.inl rfl) (aY xj.1 xj.2 (DJ (0) (aG (ah _) bp) ax))) (ai (br (aB HB (8) (ah _) (aE _)) (ai (ay 5 (Or.inl rfl) (aK DO (aS (DJ (aA EJ (6) (7)) (DJ (aA EJ (6) (5)) (DJ (aA EJ (5) (6)) (aG (6) ax) (by rfl)) (by rfl)) (by rfl))) (8)))) (DR _)))))) (DR _)) (ai (bu (cR (1) (aV Ei (5) (Ea _) (bo (ah _))) (by rfl))))))) (ai (aC (1))))))),?_⟩
 walk_at "d"
 refine⟨Ag _,fun W nW=>?_⟩;have W0:=Dr.new hp nW (.lst []);have neW:W≠p:=Dw (hp.ne nW);have g0:hid p (upd H W (.lst [])) W=some (.lst (ao [])):=cN hp nW _;refine⟨_,rfl,p,8,rfl,W0.ds,by decide,by decide,fun r1 H1 a0 a1 dr1=>?_⟩;refine⟨_,_,rfl,rfl,au (by show 3<=1000000;decide),fun L1 nL1=>?_⟩;have D1:=Dr.new dr1.ds nL1 (.lst [.int (1+r1),.int 2,.int 3]);refine⟨_,rfl,p,3,rfl,D1.ds,by decide,by decide,fun r2 H2 b0 b1 dr2=>?_⟩;have gL1:=aZ p _ _ _ (dr2.same _ _ (cN dr1.ds nL1 (.lst [.int (1+r1),.int 2,.int 3])));obtain⟨v1,ev1,mv1⟩:=kH (l:=[V.int (1+r1),.int 2,.int 3]) b0 b1;obtain⟨many,rfl,mn1,mn8⟩:∃n:Nat,v1=.int (n:Int)/\1<=n/\n<=8:=by
  simp only[Ad,AN,or_false] at mv1;rcases mv1 with rfl|rfl|rfl
  ·exact⟨(1+r1).toNat,by congr 1;lia,by lia,by lia⟩
  ·exact⟨2,rfl,by decide,by decide⟩
  ·exact⟨3,rfl,by decide,by decide⟩
 refine⟨L1,_,r2,_,rfl,rfl,SqL.of gL1,ev1,?_⟩;refine⟨au (by show 4<=1000000;decide),fun L2 nL2=>?_⟩;have D2:=Dr.new dr2.ds nL2 (.lst [.int 3,.int 6,.int 20,.int 40]);refine⟨_,rfl,p,4,rfl,D2.ds,by decide,by decide,fun r3 H3 c0 c1 dr3=>?_⟩;have gL2:=aZ p _ _ _ (dr3.same _ _ (cN dr2.ds nL2 (.lst [.int 3,.int 6,.int 20,.int 40])));obtain⟨v2,ev2,mv2⟩:=kH (l:=[V.int 3,.int 6,.int 20,.int 40]) c0 c1;obtain⟨most,rfl,ms1,ms40⟩:∃n:Int,v2=.int n/\1<=n/\n<=40:=by
  simp only[Ad,AN,or_false] at mv2;rcases mv2 with rfl|rfl|rfl|rfl
  ·exact⟨3,rfl,by decide,by decide⟩
  ·exact⟨6,rfl,by decide,by decide⟩
  ·exact⟨20,rfl,by decide,by decide⟩
  ·exact⟨40,rfl,by decide,by decide⟩
 refine⟨L2,_,r3,_,rfl,rfl,SqL.of gL2,ev2,?_⟩;have DD3:=W0.trans (dr1.trans (D1.trans (dr2.trans (D2.trans dr3))));have g3:hid p H3 W=some (.lst (ao [])):=dr3.same _ _ (D2.same _ _ (dr2.same _ _ (D1.same _ _ (dr1.same _ _ g0))));clear D1 D2 gL1 gL2 ev1 ev2 dr1 dr2 dr3;refine⟨_,rfl,(many:Int),rfl,by lia,by lia,?_⟩;rw[AM];refine⟨fun i m σ H'=>m=many-i/\i<=many/\(∃a4 a5 a6 a7 a8,σ=[some (.ref p),some (.ref W),some (.int (many:Int)),some (.int most),a4,a5,a6,a7,a8])/\Dr p H H'/\∃ws,hid p H' W=some (.lst (ao ws))/\ws.length=i/\∀cs∈ws,Gw cs,⟨_,rfl,Ag _,⟨_,_,_,_,_,rfl⟩,DD3,[],g3,rfl,fun cs h=>absurd h (by simp)⟩,fun i m σ H' z=>?_⟩;obtain⟨rfl,hi,⟨a4,a5,a6,a7,a8,rfl⟩,dr,ws,gW,lw,hw⟩:=z;by_cases hend:i=many
 ·subst hend;exact .inl ⟨zU _,_,rfl,q W ws H' dr nW gW ⟨by lia,by lia,fun cs h=>(hw cs h).lr,fun cs h=>(hw cs h).l1,fun cs h=>(hw cs h).l40⟩⟩
 have hlt:i<many:=by lia
 refine .inr ⟨hlt,fun σ' H''=>(∃a4 a5 a6 a7 a8,σ'=[some (.ref p),some (.ref W),some (.int (many:Int)),some (.int most),a4,a5,a6,a7,a8])/\Dr p H H''/\∃ws,hid p H'' W=some (.lst (ao ws))/\ws.length=i+1/\∀cs∈ws,Gw cs,fun σ' H'' z=>⟨many-(i+1),by lia,rfl,hlt,z.1,z.2⟩,fun v H'' z=>?_⟩;obtain⟨rfl,ev⟩:=z;refine⟨_,rfl,_,rfl,p,most,rfl,ms1,by lia,dr.ds,fun word H1 dr1 lr1 dM lenm=>?_⟩;have gW1:=dr1.same _ _ gW;have lzl:∀n:Nat,n<=1000->n<=sizeLine:=fun n h=>au (by lia);have lws:(ao ws).length<sizeLine:=Ah (show _<1000000 by rw[zV];lia) (au (zU _));have word80:word.length<=80:=by lia
 have ew:∀cs∈ws,PyData.strOk (txt cs)=true:=fun cs h=>sA (LRs.as (z:=txt cs) (hw cs h).lr);refine⟨_,rfl,Ag _,fun e1 ne1=>?_⟩;have S1:=af ne1 (.lst []);have gW2:hid p (upd H1 e1 (.lst [])) W=some (.lst (ao ws)):=S1.hid _ _ gW1;have dr2:=dr1.trans (Dr.of_same dr1.ds S1);refine⟨.list ((jP ws).map PyData.str),.list [],.lst (SqL.of (aZ p _ _ _ gW2)) (eN ws▸DatAll.strs _),.lst (SqL.of ae) .nil,Fi _ (fun z h=>by obtain⟨cs,hcs,rfl⟩:=Ae.mp h;exact ew cs hcs),rfl,dD _,!(jP ws).isEmpty,(by show V.bl (!PyData.eqv _ _)=_;rw[FT]),?_⟩;cases hE:(!(jP ws).isEmpty) with
 |false=>
  refine⟨_,rfl,.inl ⟨rfl,_,SqL.of (aZ p _ _ _ (gW2))⟩,_,rfl,_,rfl,word,rfl,lzl _ (by have:=word80;lia),W,ao ws,_,rfl,rfl,aZ p _ _ _ (gW2),lws,⟨_,_,_,_,_,rfl⟩,Dr.put (dr.trans dr2) nW neW _,ws++[(Txt.slice word none (some 40)).cps.toList],?_,by rw[zW,lw];rfl,fun cs h=>?_⟩
  ·rw[hG neW,bC]
  ·rcases zZ.mp h with h|h
   ·exact hw cs h
   ·rw[zY.mp h];exact qY lr1 dM
 |true=>
  have l0:1<=ws.length:=by
   cases ws with
   |nil=>cases hE
   |cons _ _=>exact DA (Ag _)
  have lwi:ws.length<=8:=by lia
  have el:(ao ws).length=ws.length:=zV ..;refine⟨_,rfl,_,rfl,_,rfl,W,_,rfl,.inl (SqL.of (aZ p _ _ _ gW2)),p,_,rfl,dr2.ds,by lia,by lia,fun k1 H3 b0 b1 dr3=>?_⟩;obtain⟨v3,ev3,mv3⟩:=kH b0 b1;obtain⟨one,ho,rfl⟩:=Ae.mp mv3;have gW3:=dr3.same _ _ gW2;refine⟨W,_,k1,_,rfl,rfl,SqL.of (aZ p _ _ _ gW3),ev3,?_⟩;refine⟨_,rfl,_,rfl,_,rfl,W,_,rfl,.inl (SqL.of (aZ p _ _ _ gW3)),p,_,rfl,dr3.ds,by lia,by lia,fun k2 H4 c0 c1 dr4=>?_⟩;obtain⟨v4,ev4,mv4⟩:=kH c0 c1;obtain⟨other,hoo,rfl⟩:=Ae.mp mv4;have gW4:=dr4.same _ _ gW3;refine⟨W,_,k2,_,rfl,rfl,SqL.of (aZ p _ _ _ gW4),ev4,?_⟩;refine⟨_,rfl,p,8,rfl,dr4.ds,by decide,by decide,fun way H5 d0 d1 dr5=>?_⟩;have gW5:=dr5.same _ _ gW4;have dr25:=dr2.trans (dr3.trans (dr4.trans dr5));have o40:=(hw one ho).l40;have o1:=(hw one ho).l1;have oo40:=(hw other hoo).l40;have to:(txt one).length=one.length:=rfl;have too:(txt other).length=other.length:=rfl;refine⟨_,rfl,_,_,rfl,rfl,decide (way<4),rfl,?_⟩;cases hB:decide (way<4) with
  |false=>
   refine⟨_,rfl,.inl ⟨rfl,_,SqL.of (aZ p _ _ _ (gW5))⟩,_,rfl,_,rfl,word,rfl,lzl _ (by have:=word80;lia),W,ao ws,_,rfl,rfl,aZ p _ _ _ (gW5),lws,⟨_,_,_,_,_,rfl⟩,Dr.put (dr.trans dr25) nW neW _,ws++[(Txt.slice word none (some 40)).cps.toList],?_,by rw[zW,lw];rfl,fun cs h=>?_⟩
   ·rw[hG neW,bC]
   ·rcases zZ.mp h with h|h
    ·exact hw cs h
    ·rw[zY.mp h];exact qY lr1 dM
  |true=>
   have hB':=Dh hB;refine⟨_,rfl,_,rfl,_,_,rfl,rfl,lzl _ (by lia),_,rfl,_,rfl,_,_,rfl,rfl,lzl _ (by lia),_,rfl,_,rfl,_,_,rfl,rfl,lzl _ (by lia),_,rfl,au (by show 4<=1000000;decide),fun L5 nL5=>?_⟩;have S5:=af nL5 (.lst [.str (txt one++txt other),.str (txt one++word),.str (word++txt one),.str (txt one)]);have gW6:=S5.hid _ _ gW5;have dr26:=dr25.trans (Dr.of_same dr5.ds S5);obtain⟨v6,ev6,mv6⟩:=kH (l:=[V.str (txt one++txt other),.str (txt one++word),.str (word++txt one),.str (txt one)]) d0 hB';obtain⟨z,rfl,lrz,l1z,l80z⟩:∃z:Str,v6=.str z/\LRs z/\1<=z.length/\z.length<=80:=by
    have lo:LRs (txt one):=(hw one ho).lr;have loo:LRs (txt other):=(hw other hoo).lr;have app:∀a b:Str,LRs a->LRs b->LRs (a++b):=fun a b ha hb c hc=>by
     rw[jV] at hc;rcases zZ.mp hc with h|h
     ·exact ha c h
     ·exact hb c h
    simp only[Ad,AN,or_false] at mv6;rcases mv6 with rfl|rfl|rfl|rfl
    ·exact⟨_,rfl,app _ _ lo loo,by rw[eM];lia,by rw[eM];lia⟩
    ·exact⟨_,rfl,app _ _ lo lr1,by rw[eM];lia,by rw[eM];lia⟩
    ·exact⟨_,rfl,app _ _ lr1 lo,by rw[eM];lia,by rw[eM];lia⟩
    ·exact⟨_,rfl,lo,by lia,by lia⟩
   refine⟨_,rfl,L5,_,way,_,rfl,rfl,SqL.of ae,ev6,?_⟩;refine⟨_,rfl,.inl ⟨rfl,_,SqL.of (aZ p _ _ _ (gW6))⟩,_,rfl,_,rfl,z,rfl,lzl _ (by have:=l80z;lia),W,ao ws,_,rfl,rfl,aZ p _ _ _ (gW6),lws,⟨_,_,_,_,_,rfl⟩,Dr.put (dr.trans dr26) nW neW _,ws++[(Txt.slice z none (some 40)).cps.toList],?_,by rw[zW,lw];rfl,fun cs h=>?_⟩
   ·rw[hG neW,bC]
   ·rcases zZ.mp h with h|h
    ·exact hw cs h
    ·rw[zY.mp h];exact qY lrz l1z
def cj (ws:List (List Nat))(x:List Nat):Nat->List (Option Int×Int)
 |0=>[(some 0,1)]
 |n+1=>cj ws x n++[(((aD ws x (n+1)).filterMap fun s=>((cj ws x n).getD s.2 (none,0)).1.map (·+1)).min?,((aD ws x (n+1)).map fun s=>((cj ws x n).getD s.2 (none,0)).2).sum)]
theorem cf(ws:List (List Nat))(x:List Nat):∀n,(cj ws x n).length=n+1
 |0=>rfl
 |n+1=>by rw[cj,zW,cf ws x n];rfl
def ov:Option Int->V
 |none=>.non
 |some i=>.int i
def Cn (H:Hp)(v:V)(c:Option Int×Int):Prop:=∃a,v=.ref a/\H a=some (.tup [ov c.1,.int c.2])
abbrev Cns(H:Hp)(us:List V)(cs:List (Option Int×Int)):Prop:=Paired (Cn H) us cs
theorem Cns.mono{H H':Hp}(S:DN H H'){us:List V}{cs:List (Option Int×Int)}(h:Cns H us cs):Cns H' us cs:=Paired.EF h fun v c hq91=>by obtain⟨a,e,g⟩:=hq91;exact⟨a,e,S _ _ g⟩
theorem Cns.put{H:Hp}{F:Addr}{xs:List V}(g:H F=some (.lst xs))(o:HO){us:List V}{cs:List (Option Int×Int)}(h:Cns H us cs):Cns (upd H F o) us cs:=
 Paired.EF h fun v c hq92=>by obtain⟨a,e,ga⟩:=hq92;exact⟨a,e,by rw[ar (fun z=>by rw[z,g] at ga;cases ga)];exact ga⟩
theorem Cns.at{H:Hp}:∀{us:List V}{cs:List (Option Int×Int)}{i:Nat},Cns H us cs->i<cs.length->∃a,us[i]?=some (.ref a)/\H a=some (.tup [ov (cs.getD i (none,0)).1,.int (cs.getD i (none,0)).2])
 |_,_,_,.nil,h=>absurd h (by simp)
 |_,_,0,.cons ⟨a,e,g⟩ _,_=>⟨a,by rw[e];rfl,g⟩
 |_,_,i+1,.cons _ r,h=>by
  obtain⟨a,h1,h2⟩:=Cns.at (i:=i) r (by simpa using h);exact⟨a,by simpa using h1,by simpa using h2⟩
def Jw:Sp:=fun vs H Q _=>∃l ws x,vs=[.ref l,.str (txt x)]/\H l=some (.lst (ao ws))/\Wok ws/\x.length<=400/\∀p us H',DN H H'->H p=none->H' p=some (.lst us)->Cns H' us (cj ws x x.length)->Q (.ref p) H'
abbrev nvs(ns:List Nat):List V:=ns.map fun(n:Nat)=>V.int (n:Int)
def bx (ws:List (List Nat))(x:List Nat)(e:Nat):List Nat:=(aD ws x e).map (·.2)
theorem jM(ws:List (List Nat))(w x:List Nat)(e:Nat):bx (ws++[w]) x e=bx ws x e++(if dI (x.take e) w=true then [e-w.length] else []):=by
 unfold bx;rw[eT,An];split<;>rfl
theorem lL(ws:List (List Nat))(x:List Nat)(e:Nat):(bx ws x e).length<=ws.length:=by
 unfold bx aD;rw[zV,zV];refine Ak (AX _ _) ?_;rw[Cc];exact zU _
theorem mN{ns:List Nat}{k:Nat}{v:V}(h:(nvs ns)[k]?=some v):k<ns.length/\∃e,ns[k]?=some e/\v=.int (e:Int):=by
 have hk:k<(nvs ns).length:=(Ai.mp h).1;rw[zV] at hk;rw[Ao,Ac hk] at h;exact⟨hk,_,Ac hk,(Dj h).symm⟩
theorem oW{ns:List Int}{m:Int}(h1:m∈ns)(h2:∀n∈ns,m<=n):ns.min?=some m:=List.min?_eq_some_iff.mpr ⟨h1,h2⟩
theorem uc{d:DD}(D:Def K mg "_law_counts" (top 49) ["words","text"] d)(xh:mg "range"=none)(xf:mg "len"=none)(xu:mg "min"=none)(yi:mg "sum"=none):(fk 1 d ["words","text"] Jw):=by
 exists["words","text","found","at","ends","steps"]
 obtain⟨l,ws,x,rfl,hl,W,h400,q⟩:=h;refine⟨_,(ag (ay 2 (Or.inr rfl) (aS (aG (aN (DJ (ah _) (aG (ah _) bp) bp)) (by rfl)))) (ag (bV (fu xh (DJ (ah _) (aG (aA DV (aM DM xf (1) ax) (ah _)) (by rfl)) bp)) (al 3) (ag (bY 4 (ak (ts:=["word"]) (cap:=["text","at"]) (js:=[1,3]) rfl rfl rfl rfl rfl rfl (by decide +kernel)) (aJ (0)) (ad 0 (nd ["word","text","at"])) (@bz _ _ _ (bH (iO Dl PySem.F.slot_str_endswith PySem.F.type_str_endswith Hq (aV Ei (1) (Ea _) (bo (2))) (aG (0) ax)))) (aA ES (2) (aM DM xf (0) ax))) (ag (bY 5 (ak (ts:=["end"]) (cap:=["found"]) (js:=[2]) rfl rfl rfl rfl rfl rfl (by decide +kernel)) (aJ (4)) (ad 0 (nd ["end","found"])) (@bz _ _ _ (aB EI (aK (show IxR _ (sJ K) from Ek) (aK (show IxR _ (iQ K) from DO) (1) (0)) (ah _)) (bU _) (aE _))) (aA DV (aK (show IxR _ (sJ K) from Ek) (aK (show IxR _ (iQ K) from DO) (1) (0)) (ah _)) (ah _))) (ai (bu (cR (2) (aN (DJ (hX (aB (cF hr.units) (5) (aS (DT _)) (aE _)) (aP (mF hc) xu FN (aG (5) ax)) (bU _)) (aG (aP (il hc) yi Ib (aG (aO (ak (ts:=["end"]) (cap:=["found"]) (js:=[2]) rfl rfl rfl rfl rfl rfl (by decide +kernel)) (aJ (4)) (ad 0 (nd ["end","found"])) (@aR _) (aK (show IxR _ (sJ K) from Ek) (aK (show IxR _ (iQ K) from DO) (1) (0)) (ah _))) (by rfl))) eW) (by rfl))) (by rfl))))))) (ai (aC (2))))),?_⟩
 walk_at "d"
 refine⟨au (by show 2<=1000000;decide),fun t0 nt0=>⟨au (by show 1<=1000000;decide),fun F nF=>?_⟩⟩;have S0:=(af nt0 (.tup [.int 0,.int 1])).trans (af nF (.lst [.ref t0]));have n0:H F=none:=(af nt0 (.tup [.int 0,.int 1])).free nF;have g0:upd (upd H t0 (.tup [.int 0,.int 1])) F (.lst [.ref t0]) F=some (.lst [.ref t0]):=ae;have C0:Cns (upd (upd H t0 (.tup [.int 0,.int 1])) F (.lst [.ref t0])) [.ref t0] (cj ws x 0):=.cons ⟨t0,rfl,af nF _ _ _ ae⟩ .nil;generalize upd (upd H t0 (.tup [.int 0,.int 1])) F (.lst [.ref t0])=HF at S0 g0 C0;refine⟨_,rfl,txt x,rfl,au (by show x.length<=1000000;lia),_,_,rfl,rfl,?_⟩;have big:x.length<2^62:=by lia
 refine⟨1,((txt x).length:Nat)+1,rfl,⟨by decide,by decide,by show -(2^62)<=((x.length:Nat):Int)+1;lia,by show((x.length:Nat):Int)+1<2^62;lia⟩,?_⟩;have en:((((txt x).length:Nat):Int)+1-1).toNat=x.length:=by show(((x.length:Nat):Int)+1-1).toNat=_;lia
 rw[en];refine⟨fun i m σ H'=>m=x.length-i/\i<=x.length/\(∃e' s' r',σ=[some (.ref l),some (.str (txt x)),some (.ref F),e',s',r'])/\∃us,DN H H'/\H' F=some (.lst us)/\Cns H' us (cj ws x i),⟨_,rfl,Ag _,⟨_,_,_,rfl⟩,_,S0,g0,C0⟩,fun i m σ H' z=>?_⟩;obtain⟨rfl,hi,⟨e',s',r',rfl⟩,us,SH,gF,hC⟩:=z;by_cases hend:i=x.length
 ·subst hend;exact .inl ⟨zU _,_,rfl,q F us H' SH n0 gF hC⟩
 have hlt:i<x.length:=by lia
 refine .inr ⟨hlt,fun σ' H''=>(∃e' s' r',σ'=[some (.ref l),some (.str (txt x)),some (.ref F),e',s',r'])/\∃us,DN H H''/\H'' F=some (.lst us)/\Cns H'' us (cj ws x (i+1)),fun σ' H'' z=>⟨x.length-(i+1),by lia,rfl,hlt,z.1,z.2⟩,fun v H'' z=>?_⟩;obtain⟨rfl,ev⟩:=z;obtain rfl:v=.int ((i+1:Nat):Int):=by rw[ev];congr 1;lia
 have Cl:=cf ws x i;have Cu:=Paired.length hC;have el:(ao ws).length=ws.length:=zV ..;have w8:=W.n8;have eends:bx ws x (i+1)=(aD ws x (i+1)).map (·.2):=rfl;have mends:∀e∈bx ws x (i+1),e<=i:=fun e h=>by
  obtain⟨s,hs,rfl⟩:=Ae.mp h;exact bf W hs
 have lends:(bx ws x (i+1)).length<=9:=by
  unfold bx aD;rw[zV,zV];refine Ak (AX _ _) ?_;rw[Cc];exact w8
 have eC:cj ws x (i+1)=cj ws x i++[(((bx ws x (i+1)).filterMap fun e=>((cj ws x i).getD e (none,0)).1.map (·+1)).min?,((bx ws x (i+1)).map fun e=>((cj ws x i).getD e (none,0)).2).sum)]:=by
  unfold bx;rw[List.filterMap_map,AJ];rfl
 have lzu:us.length<sizeLine:=Ah (show _<1000000 by lia) (au (zU _));refine⟨_,rfl,l,rfl,⟨_,SqL.of (SH _ _ hl)⟩,?_⟩;refine bZ (K:=K) (a:=l) (xs:=ao ws) (fun k ys H1=>DN H'' H1/\ys=nvs (bx (ws.take k) x (i+1))) ⟨DN.refl H'',rfl⟩ (fun k ys H1 hk z=>?_) (au (by lia)) (fun k ys H1 hk z=>SqL.of (z.1 _ _ (SH _ _ hl))) (fun k v ys H1 hv z=>?_) (fun ys H1 z p1 hp1=>?_)
 ·rw[z.2,zV];refine Ak (lL _ _ _) ?_;rw[Az];lia
 ·obtain⟨z1,rfl⟩:=z;have hk:k<(ao ws).length:=(Ai.mp hv).1;have hk':k<ws.length:=by lia
  have ev:v=.str (txt ws[k]):=by
   rw[Ao,Ac hk'] at hv;exact(Dj hv).symm
  subst ev;have hm:ws[k]∈ws:=Ay hk';have h40:=W.l40 _ hm;have et:ws.take (k+1)=ws.take k++[ws[k]]:=by rw[Au,Ac hk'];rfl
  have st:=jM (ws.take k) ws[k] x (i+1);rw[<- et] at st;refine⟨_,rfl,_,rfl,_,rfl,txt x,rfl,au (by show x.length<=1000000;lia),rfl,_,rfl,_,txt ws[k],rfl,rfl,dI (x.take (i+1)) ws[k],(by rw[eJ];rfl),?_⟩;cases hB:dI (x.take (i+1)) ws[k] with
  |false=>
   rw[hB] at st;show Nx (ao ws).length k (fun k ys H1=>DN H'' H1/\ys=nvs (bx (ws.take k) x (i+1))) _ _;refine Nx.mk hk ⟨z1,?_⟩;rw[st];simp
  |true=>
   rw[hB] at st;have hle:=fK hB;refine⟨_,rfl,_,rfl,txt ws[k],rfl,au (by show ws[k].length<=1000000;lia),_,_,rfl,rfl,Nx.mk hk ⟨z1,?_⟩⟩;rw[st];have e1:(((i+1:Nat):Int)-((txt ws[k]).length:Nat))=((i+1-ws[k].length:Nat):Int):=by
    show((i+1:Nat):Int)-(ws[k].length:Nat)=_;lia
   show nvs _++[V.int (((i+1:Nat):Int)-((txt ws[k]).length:Nat))]=_;rw[e1];simp[nvs]
 obtain⟨z1,rfl⟩:=z;rw[el,Ap (zU _)];have S1:DN H'' (upd H1 p1 (.lst (nvs (bx ws x (i+1))))):=z1.trans (af hp1 _);have g1:upd H1 p1 (.lst (nvs (bx ws x (i+1)))) p1=some (.lst (nvs (bx ws x (i+1)))):=ae;generalize upd H1 p1 (.lst (nvs (bx ws x (i+1))))=H1p at S1 g1;generalize bx ws x (i+1)=ends at *;generalize cj ws x i=C at *;have lne:(nvs ends).length=ends.length:=zV ..;refine⟨_,rfl,p1,rfl,⟨_,SqL.of g1⟩,?_⟩;refine bZ (K:=K) (a:=p1) (xs:=nvs ends) (fun k ys H2=>DN H1p H2/\ys.length<=k/\ys=ivs ((ends.take k).filterMap fun e=>(C.getD e (none,0)).1.map (·+1))) ⟨DN.refl H1p,zU _,rfl⟩ (fun k ys H2 hk z=>z.2.1) (au (by lia)) (fun k ys H2 hk z=>SqL.of (z.1 _ _ g1)) (fun k v ys H2 hv z=>?_) (fun ys H2 z p2 hp2=>?_)
 ·obtain⟨z1,z2,rfl⟩:=z;obtain⟨hk,e,ee,rfl⟩:=mN hv;have he:=mends e (Aq ee);obtain⟨a,eu,ga⟩:=hC.at (i:=e) (by lia);have et:ends.take (k+1)=ends.take k++[e]:=by rw[Au,ee];rfl
  refine⟨_,rfl,_,rfl,F,us,_,_,rfl,rfl,SqL.of (z1 _ _ (S1 _ _ gF)),aW eu,a,_,0,_,rfl,rfl,SqT.of (z1 _ _ (S1 _ _ ga)),rfl,rfl,!decide (ov (C.getD e (none,0)).1=.non),rfl,?_⟩;cases ho:(C.getD e (none,0)).1 with
  |none=>
   show Nx (nvs ends).length k (fun k ys H2=>DN H1p H2/\ys.length<=k/\ys=ivs ((ends.take k).filterMap fun e=>(C.getD e (none,0)).1.map (·+1))) _ _;refine Nx.mk (by lia) ⟨z1,by lia,?_⟩;rw[et,Cw,List.filterMap_cons_none (by rw[ho];rfl)];simp
  |some m=>
   rw[ho] at ga;refine⟨_,rfl,_,rfl,F,us,_,_,rfl,rfl,SqL.of (z1 _ _ (S1 _ _ gF)),aW eu,a,_,0,.int m,rfl,rfl,SqT.of (z1 _ _ (S1 _ _ ga)),rfl,_,_,rfl,rfl,Nx.mk (by lia) ⟨z1,by rw[zW];exact DA z2,?_⟩⟩;rw[et,Cw,List.filterMap_cons_some (b:=m+1) (by rw[ho];rfl)];simp[ivs]
 obtain⟨z2,z3,rfl⟩:=z;rw[lne,Ap (zU _)];clear z3;have S2:DN H1p (upd H2 p2 (.lst (ivs (ends.filterMap fun e=>(C.getD e (none,0)).1.map (·+1))))):=z2.trans (af hp2 _);have g2:upd H2 p2 (.lst (ivs (ends.filterMap fun e=>(C.getD e (none,0)).1.map (·+1)))) p2=some (.lst (ivs (ends.filterMap fun e=>(C.getD e (none,0)).1.map (·+1)))):=ae;generalize upd H2 p2 (.lst (ivs (ends.filterMap fun e=>(C.getD e (none,0)).1.map (·+1))))=H2p at S2 g2;generalize (ends.filterMap fun e=>(C.getD e (none,0)).1.map (·+1))=ss at *;refine⟨_,rfl,.inl ⟨rfl,_,SqL.of (S2 _ _ (S1 _ _ gF))⟩,_,rfl,Ag _,fun e1 ne1=>?_⟩;have S3:DN H1p (upd H2p e1 (.lst [])):=S2.trans (af ne1 _);have g3:upd H2p e1 (.lst []) p2=some (.lst (ivs ss)):=af ne1 _ _ _ g2;refine⟨.list (ss.map PyData.int),.list [],.lst (SqL.of g3) (cq ss),.lst (SqL.of ae) .nil,gh ss,rfl,Ak (fP ss) (by decide),!decide (ss=[]),(by show V.bl (!PyData.eqv _ (.list (([]:List Int).map PyData.int)))=_;rw[EV]),?_⟩;generalize upd H2p e1 (.lst [])=H3 at S3 g3;cases hE:(!decide (ss=[])) with
 |false=>
  have es:ss=[]:=by simpa using hE
  refine⟨_,rfl,p1,rfl,⟨_,SqL.of (S3 _ _ g1)⟩,?_⟩;refine bZ (K:=K) (a:=p1) (xs:=nvs ends) (fun k ys H4=>DN H3 H4/\ys=ivs ((ends.take k).map fun e=>(C.getD e (none,0)).2)) ⟨DN.refl H3,rfl⟩ (fun k ys H4 hk z=>by rw[z.2,zV,zV,Az];lia) (au (by lia)) (fun k ys H4 hk z=>SqL.of (z.1 _ _ (S3 _ _ g1))) (fun k v ys H4 hv z=>?_) (fun ys H4 z p4 hp4=>?_)
  ·obtain⟨z1,rfl⟩:=z;obtain⟨hk,e,ee,rfl⟩:=mN hv;have he:=mends e (Aq ee);obtain⟨a,eu,ga⟩:=hC.at (i:=e) (by lia);refine⟨_,rfl,_,rfl,F,us,_,_,rfl,rfl,SqL.of (z1 _ _ (S3 _ _ (S1 _ _ gF))),aW eu,a,_,1,_,rfl,rfl,SqT.of (z1 _ _ (S3 _ _ (S1 _ _ ga))),rfl,Nx.mk (by lia) ⟨z1,?_⟩⟩;rw[Au,ee];simp[ivs]
  obtain⟨z1,rfl⟩:=z;rw[lne,Ap (zU _)];refine⟨p4,_,rfl,SqL.of ae,au (by show 2<=1000000;decide),fun t5 nt5=>?_⟩;have S5:DN H'' (upd (upd H4 p4 (.lst (ivs (ends.map fun e=>(C.getD e (none,0)).2)))) t5 (.tup [ov (none),.int (ends.map fun e=>(C.getD e (none,0)).2).sum])):=S1.trans (S3.trans (z1.trans ((af hp4 _).trans (af nt5 _))));have gF5:=S5 _ _ gF;refine⟨F,us,_,rfl,rfl,gF5,lzu,⟨_,_,_,rfl⟩,us++[.ref t5],fun b o h=>?_,ae,?_⟩
  ·rw[ar (az h n0)];exact S5 _ _ (SH _ _ h)
  ·have C5:Cns _ (us++[.ref t5]) (C++[(none,(ends.map fun e=>(C.getD e (none,0)).2).sum)]):=Paired.snoc (hC.mono S5) ⟨t5,rfl,ae⟩;rw[eC,show ss.min?=none by rw[es];rfl];exact C5.put gF5 _
 |true=>
  have es:ss≠[]:=by simpa using hE
  refine⟨_,rfl,p2,ss,rfl,SqL.of g3,es,fun mm hm hmin=>?_⟩;refine⟨_,rfl,p1,rfl,⟨_,SqL.of (S3 _ _ g1)⟩,?_⟩;refine bZ (K:=K) (a:=p1) (xs:=nvs ends) (fun k ys H4=>DN H3 H4/\ys=ivs ((ends.take k).map fun e=>(C.getD e (none,0)).2)) ⟨DN.refl H3,rfl⟩ (fun k ys H4 hk z=>by rw[z.2,zV,zV,Az];lia) (au (by lia)) (fun k ys H4 hk z=>SqL.of (z.1 _ _ (S3 _ _ g1))) (fun k v ys H4 hv z=>?_) (fun ys H4 z p4 hp4=>?_)
  ·obtain⟨z1,rfl⟩:=z;obtain⟨hk,e,ee,rfl⟩:=mN hv;have he:=mends e (Aq ee);obtain⟨a,eu,ga⟩:=hC.at (i:=e) (by lia);refine⟨_,rfl,_,rfl,F,us,_,_,rfl,rfl,SqL.of (z1 _ _ (S3 _ _ (S1 _ _ gF))),aW eu,a,_,1,_,rfl,rfl,SqT.of (z1 _ _ (S3 _ _ (S1 _ _ ga))),rfl,Nx.mk (by lia) ⟨z1,?_⟩⟩;rw[Au,ee];simp[ivs]
  obtain⟨z1,rfl⟩:=z;rw[lne,Ap (zU _)];refine⟨p4,_,rfl,SqL.of ae,au (by show 2<=1000000;decide),fun t5 nt5=>?_⟩;have S5:DN H'' (upd (upd H4 p4 (.lst (ivs (ends.map fun e=>(C.getD e (none,0)).2)))) t5 (.tup [ov (some mm),.int (ends.map fun e=>(C.getD e (none,0)).2).sum])):=S1.trans (S3.trans (z1.trans ((af hp4 _).trans (af nt5 _))));have gF5:=S5 _ _ gF;refine⟨F,us,_,rfl,rfl,gF5,lzu,⟨_,_,_,rfl⟩,us++[.ref t5],fun b o h=>?_,ae,?_⟩
  ·rw[ar (az h n0)];exact S5 _ _ (SH _ _ h)
  ·have C5:Cns _ (us++[.ref t5]) (C++[(some mm,(ends.map fun e=>(C.getD e (none,0)).2).sum)]):=Paired.snoc (hC.mono S5) ⟨t5,rfl,ae⟩;rw[eC,oW hm hmin];exact C5.put gF5 _
abbrev revs(ws:List (List Nat)):List (List Nat):=ws.map List.reverse
def rst (ws:List (List Nat))(x:List Nat):List (Option Int×Int):=(cj (revs ws) x.reverse x.length).reverse
def few (ws:List (List Nat))(x:List Nat)(i:Nat):Option Int:=((rst ws x).getD i (none,0)).1
end
inductive Mk(ws:List (List Nat))(x:List Nat):Nat->List Int->Prop
 |nil:Mk ws x 0 []
 |snoc {e k:Nat}{w:List Nat}{r:List Int}:Mk ws x e r->ws[k]?=some w->(x.drop e).take w.length=w->e+w.length<=x.length->Mk ws x (e+w.length) (r++[(k:Int)])
theorem oM(y w:List Nat):dI y w=true↔w.length<=y.length/\(y.drop (y.length-w.length)).take w.length=w:=by
 unfold dI Txt.endswith;show(decide (0+w.length<=y.length)&&(y.toArray.extract (y.length-w.length) (y.length-w.length+w.length)==w.toArray))=true↔_;rw[AG,decide_eq_true_iff,DI];have e:(y.toArray.extract (y.length-w.length) (y.length-w.length+w.length)).toList=(y.drop (y.length-w.length)).take w.length:=by
  rw[Array.toList_extract];show(y.drop (y.length-w.length)).take (y.length-w.length+w.length-(y.length-w.length))=_;rw[Nat.add_sub_cancel_left]
 refine⟨fun⟨h1,h2⟩=>⟨by lia,by rw[<- e,h2]⟩,fun hq93=>?_⟩;obtain⟨h1,h2⟩:=hq93;refine⟨by lia,?_⟩;apply Array.toList_inj.mp;rw[e,h2]
theorem gZ{ws:List (List Nat)}{x:List Nat}{e:Nat}(he:e<=x.length){k j:Nat}:(k,j)∈aD ws x e↔∃w,ws[k]?=some w/\j+w.length=e/\(x.drop j).take w.length=w:=by
 have tl:(x.take e).length=e:=by rw[Az];lia
 have eb:∀w:List Nat,dI (x.take e) w=true↔w.length<=e/\(x.drop (e-w.length)).take w.length=w:=fun w=>by
  rw[oM,tl,List.drop_take];refine⟨fun⟨h1,h2⟩=>⟨h1,?_⟩,fun⟨h1,h2⟩=>⟨h1,?_⟩⟩
  ·rw[List.take_take,BM (by lia)] at h2;exact h2
  ·rw[List.take_take,BM (by lia)];exact h2
 constructor
 ·intro h;obtain⟨w,h1,h2,h3⟩:=fz h;obtain⟨h4,h5⟩:=(eb w).mp h2;have h3':j=e-w.length:=h3;exact⟨w,h1,by lia,by rw[h3'];exact h5⟩
 ·rintro⟨w,h1,h2,h3⟩;have ej:j=e-w.length:=by lia
  unfold aD;refine Ae.mpr ⟨(w,k),AK.mpr ⟨CT.mpr h1,(eb w).mpr ⟨by lia,by rw[<- ej];exact h3⟩⟩,?_⟩;show(k,e-w.length)=_;rw[ej]
theorem Mk.step{ws:List (List Nat)}{x:List Nat}{e:Nat}(he:e<=x.length){r:List Int}{s:Nat×Nat}(hs:s∈aD ws x e)(h:Mk ws x s.2 r):Mk ws x e (r++[(s.1:Int)]):=by
 obtain⟨k,j⟩:=s;obtain⟨w,h1,h2,h3⟩:=(gZ he).mp hs;subst h2;exact .snoc h h1 h3 he
theorem Mk.inv{ws:List (List Nat)}{x:List Nat}{e:Nat}{r:List Int}(h:Mk ws x e r):(e=0/\r=[])\/∃s r',s∈aD ws x e/\Mk ws x s.2 r'/\r=r'++[(s.1:Int)]:=by
 cases h with
 |nil=>exact .inl ⟨rfl,rfl⟩
 |@snoc e k w r h hw hx hl=>exact .inr ⟨(k,e),r,(gZ hl).mpr ⟨w,hw,rfl,hx⟩,h,rfl⟩
theorem Mk.zero{ws:List (List Nat)}(W:Wok ws){x:List Nat}{r:List Int}(h:Mk ws x 0 r):r=[]:=by
 rcases h.inv with ⟨_,e⟩|⟨s,r',hs,_⟩
 ·exact e
 ·obtain⟨w,hw,_,e2⟩:=fz hs;obtain⟨w',h1,h2,_⟩:=(gZ (k:=s.1) (j:=s.2) (Ag x.length)).mp hs;have:=W.l1 w' (Aq h1);lia
theorem nQ(ws:List (List Nat))(x:List Nat):∀n i,i<=n->∀m,n<=m->(cj ws x m).getD i (none,0)=(cj ws x n).getD i (none,0):=by
 intro n i hi m hm;induction m with
 |zero=>have:n=0:=(by lia);subst this;rfl
 |succ m ih=>
  by_cases e:n=m+1
  ·subst e;rfl
  ·rw[cj,bR,Dc (by rw[cf];lia)];exact ih (by lia)
theorem rC{ws:List (List Nat)}(W:Wok ws){x:List Nat}:∀n,n<=x.length->∀e,e<=n ->
  (((cj ws x n).getD e (none,0)).1=none->∀r,¬Mk ws x e r)/\∀c,((cj ws x n).getD e (none,0)).1=some c->(∃r,Mk ws x e r/\(r.length:Int)=c)/\∀r,Mk ws x e r->c<=(r.length:Int):=by
 intro n;induction n with
 |zero=>
  intro _ e he;obtain rfl:e=0:=by lia
  refine⟨(fun h=>by cases h),fun c h=>?_⟩;have h':some (0:Int)=some c:=h;cases h';exact⟨⟨[],.nil,rfl⟩,fun r _=>by lia⟩
 |succ n ih=>
  intro hn e he;by_cases e1:e<=n
  ·have:=nQ ws x n e e1 (n+1) (by lia);rw[this];exact ih (by lia) e e1
  ·obtain rfl:e=n+1:=by lia
   rw[cj,bR,CZ (by rw[cf];lia),Dc (by rw[cf])];have ih':=ih (by lia);constructor
   ·intro h r hr;have h0:=CJ.mp h;rcases hr.inv with ⟨z,_⟩|⟨s,r',hs,hr',rfl⟩
    ·lia
    ·have hle:=bf W hs;cases q:((cj ws x n).getD s.2 (none,0)).1 with
     |none=>exact(ih' s.2 hle).1 q r' hr'
     |some c=>
      have:c+1∈((aD ws x (n+1)).filterMap fun s=>((cj ws x n).getD s.2 (none,0)).1.map (·+1)):=AL.mpr ⟨s,hs,by rw[q];rfl⟩;rw[h0] at this;cases this
   ·intro c h;obtain⟨h1,h2⟩:=List.min?_eq_some_iff.mp h;obtain⟨s,hs,es⟩:=AL.mp h1;have hle:=bf W hs;constructor
    ·cases q:((cj ws x n).getD s.2 (none,0)).1 with
     |none=>rw[q] at es;cases es
     |some c'=>
      rw[q] at es;have es':c'+1=c:=by simpa using es
      obtain⟨⟨r,hr,hl⟩,_⟩:=(ih' s.2 hle).2 c' q;exact⟨r++[(s.1:Int)],hr.step hn hs,by rw[zW];show((r.length+1:Nat):Int)=c;lia⟩
    ·intro r hr;rcases hr.inv with ⟨z,_⟩|⟨s',r',hs',hr',rfl⟩
     ·lia
     ·have hle':=bf W hs';cases q:((cj ws x n).getD s'.2 (none,0)).1 with
      |none=>exact absurd hr' ((ih' s'.2 hle').1 q r')
      |some c'=>
       have:=h2 (c'+1) (AL.mpr ⟨s',hs',by rw[q];rfl⟩);have:=((ih' s'.2 hle').2 c' q).2 r' hr';rw[zW];show c<=((r'.length+1:Nat):Int)
       lia
theorem hJ(ws:List (List Nat))(x:List Nat):∀n,de ws x n=(cj ws x n).map (·.2)
 |0=>rfl
 |n+1=>by
  rw[de,cj,An,<- hJ ws x n]
  congr 1
  show[_]=[_]
  congr 2
  apply BG;intro s _;rw[hJ ws x n,Am,Am,Ao];cases (cj ws x n)[s.2]?<;>rfl
theorem GV:∀(l:List Int),(∀y∈l,0<=y)->0<=l.sum/\(0<l.sum↔∃y∈l,0<y)
 |[],_=>⟨by decide,⟨fun h=>absurd h (by decide),fun⟨_,h,_⟩=>by cases h⟩⟩
 |a::l,h=>by
  obtain⟨i1,i2⟩:=GV l fun y hy=>h y (Af _ hy);have ha:=h a zX;rw[BN];refine⟨by lia,fun hp=>?_,fun⟨y,hy,hp⟩=>?_⟩
  ·by_cases z:0<a
   ·exact⟨a,zX,z⟩
   ·obtain⟨y,h1,h2⟩:=i2.mp (by lia);exact⟨y,Af _ h1,h2⟩
  ·rcases Ad.mp hy with rfl|hy
   ·lia
   ·have:=i2.mpr ⟨y,hy,hp⟩;lia
theorem sF{ws:List (List Nat)}(W:Wok ws)(x:List Nat):∀n e,e<=n->0<=((cj ws x n).getD e (none,0)).2/\(0<((cj ws x n).getD e (none,0)).2↔((cj ws x n).getD e (none,0)).1≠none):=by
 intro n;induction n with
 |zero=>
  intro e he;obtain rfl:e=0:=by lia
  exact⟨(by show(0:Int)<=1;decide),(fun _ h=>by cases h),(fun _=>by show(0:Int)<1;decide)⟩
 |succ n ih=>
  intro e he;by_cases e1:e<=n
  ·have:=nQ ws x n e e1 (n+1) (by lia);rw[this];exact ih e e1
  ·obtain rfl:e=n+1:=by lia
   rw[cj,bR,CZ (by rw[cf];lia),Dc (by rw[cf])]
   obtain⟨p1,p2⟩:=GV ((aD ws x (n+1)).map fun s=>((cj ws x n).getD s.2 (none,0)).2) (fun y hy=>by
    obtain⟨s,hs,rfl⟩:=Ae.mp hy
    exact (ih s.2 (bf W hs)).1)
   refine⟨p1,p2.trans ⟨fun⟨y,hy,hp⟩ h=>?_,fun h=>?_⟩⟩
   ·obtain⟨s,hs,rfl⟩:=Ae.mp hy;have h0:=CJ.mp h;have:=(ih s.2 (bf W hs)).2.mp hp;cases q:((cj ws x n).getD s.2 (none,0)).1 with
    |none=>exact this q
    |some c=>
     have:c+1∈((aD ws x (n+1)).filterMap fun s=>((cj ws x n).getD s.2 (none,0)).1.map (·+1)):=AL.mpr ⟨s,hs,by rw[q];rfl⟩;rw[h0] at this;cases this
   ·cases q:((aD ws x (n+1)).filterMap fun s=>((cj ws x n).getD s.2 (none,0)).1.map (·+1)) with
    |nil=>exact absurd (CJ.mpr q) h
    |cons y l=>
     have:y∈((aD ws x (n+1)).filterMap fun s=>((cj ws x n).getD s.2 (none,0)).1.map (·+1)):=by rw[q];exact zX
     obtain⟨s,hs,es⟩:=AL.mp this;refine⟨_,Ae.mpr ⟨s,hs,rfl⟩,(ih s.2 (bf W hs)).2.mpr fun z=>?_⟩;rw[z] at es;cases es
theorem iC(k:Int):∀{a b:List Int},a.length=b.length->HT.lexLt (a++[k]) (b++[k])=HT.lexLt a b
 |[],[],_=>by show HT.lexLt [k] [k]=HT.lexLt [] [];rw[DX,DX]
 |x::a,y::b,h=>by
  show HT.lexLt (x::(a++[k])) (y::(b++[k]))=_;rw[HT.Eh,HT.Eh,iC k (by simpa using h)]
theorem qV(k:Int)(a b:List Int):kLt (a++[k]) (b++[k])=kLt a b:=by
 unfold kLt bG;rw[zW,zW];by_cases h:a.length=b.length
 ·rw[Dc (by rw[h]),Dc (by rw[h]),iC k h]
 ·rw[CZ (by show ¬((a.length+1:Nat):Int)=((b.length+1:Nat):Int);lia),CZ (by lia)];apply decide_eq_decide.mpr;show((a.length+1:Nat):Int)<((b.length+1:Nat):Int)↔_;lia
theorem FJ:∀{a b:List Int},a.length=b.length->HT.lexLt a b=false->HT.lexLt b a=false->a=b
 |[],[],_,_,_=>rfl
 |x::a,y::b,h,h1,h2=>by
  rw[HT.Eh] at h1 h2;by_cases e:x=y
  ·rw[Dc e] at h1;rw[Dc e.symm] at h2;rw[e,FJ (by simpa using h) h1 h2]
  ·rw[CZ e] at h1;rw[CZ (Dw e)] at h2;have:=of_decide_eq_false h1;have:=of_decide_eq_false h2;lia
theorem sE{a b:List Int}(h1:kLt a b=false)(h2:kLt b a=false):a=b:=by
 unfold kLt bG at h1 h2;by_cases h:a.length=b.length
 ·rw[Dc (by rw[h])] at h1 h2;exact FJ h h1 h2
 ·rw[CZ (by lia)] at h1 h2;have:=of_decide_eq_false h1;have:=of_decide_eq_false h2;lia
theorem tZ{a b c:List Int}(h1:kLt a b=false)(h2:kLt b c=false):kLt a c=false:=by
 cases h:kLt a c with
 |false=>rfl
 |true=>
  cases q:kLt c b with
  |true=>rw[iN h q] at h1;cases h1
  |false=>rw[sE h2 q,h] at h1;cases h1
theorem sW{ws:List (List Nat)}(W:Wok ws){x:List Nat}{n:Nat}{L:List (Option (List Int))}(h:Lst ws x n L):n<=x.length->∀e,e<=n ->
  (L.getD e none=none->∀r,¬Mk ws x e r)/\∀r,L.getD e none=some r->Mk ws x e r/\∀r',Mk ws x e r'->kLt r' r=false:=by
 induction h with
 |zero=>
  intro _ e he;obtain rfl:e=0:=by lia
  refine⟨(fun h=>by cases h),fun r h=>?_⟩;have h':some ([]:List Int)=some r:=h;cases h';exact⟨.nil,fun r' h=>by rw[h.zero W];unfold kLt bG;rw[Dc rfl];rfl⟩
 |@miss n L hL hc ih=>
  intro hn e he;rw[bR];by_cases e1:e<=n
  ·rw[Dc (by rw[hL.len];lia)];exact ih (by lia) e e1
  ·obtain rfl:e=n+1:=by lia
   rw[CZ (by rw[hL.len];lia),Dc (by rw[hL.len])];refine⟨fun _ r hr=>?_,(fun r h=>by cases h)⟩;rcases hr.inv with ⟨z,_⟩|⟨s,r',hs,hr',rfl⟩
   ·lia
   ·have hle:=bf W hs;cases q:L.getD s.2 none with
    |none=>exact(ih (by lia) s.2 hle).1 q r' hr'
    |some b=>
     have:b++[(s.1:Int)]∈me ws x L (n+1):=AL.mpr ⟨s,hs,by rw[q];rfl⟩;rw[hc] at this;cases this
 |@hit n L r hL hr hm ih=>
  intro hn e he;rw[bR];by_cases e1:e<=n
  ·rw[Dc (by rw[hL.len];lia)];exact ih (by lia) e e1
  ·obtain rfl:e=n+1:=by lia
   rw[CZ (by rw[hL.len];lia),Dc (by rw[hL.len])];refine⟨(fun h=>by cases h),fun r0 h=>?_⟩;cases h;constructor
   ·obtain⟨s,hs,es⟩:=AL.mp hr;have hle:=bf W hs;cases q:L.getD s.2 none with
    |none=>rw[q] at es;cases es
    |some b=>
     rw[q] at es;have es':b++[(s.1:Int)]=r:=by simpa using es
     rw[<- es'];exact((ih (by lia) s.2 hle).2 b q).1.step hn hs
   ·intro r' hr';rcases hr'.inv with ⟨z,_⟩|⟨s,r0,hs,hr0,rfl⟩
    ·lia
    ·have hle:=bf W hs;cases q:L.getD s.2 none with
     |none=>exact absurd hr0 ((ih (by lia) s.2 hle).1 q r0)
     |some b=>
      have h1:=((ih (by lia) s.2 hle).2 b q).2 r0 hr0;have h2:=hm (b++[(s.1:Int)]) (AL.mpr ⟨s,hs,by rw[q];rfl⟩);rw[<- qV (s.1:Int)] at h1;exact tZ h1 h2
inductive Pr(ws:List (List Nat)):List Nat->Prop
 |nil:Pr ws []
 |snoc {x w:List Nat}:Pr ws x->w∈ws->Pr ws (x++w)
theorem Pr.app{ws:List (List Nat)}{x y:List Nat}(hx:Pr ws x)(hy:Pr ws y):Pr ws (x++y):=by
 induction hy with
 |nil=>rw[AA];exact hx
 |snoc _ hw ih=>rw[<- AF];exact .snoc ih hw
theorem Pr.one{ws:List (List Nat)}{w:List Nat}(h:w∈ws):Pr ws w:=by
 have:=Pr.snoc Pr.nil h
 rwa [Cr] at this
theorem Pr.mono{ws vs:List (List Nat)}(h:∀w∈ws,Pr vs w){x:List Nat}(hx:Pr ws x):Pr vs x:=by
 induction hx with
 |nil=>exact .nil
 |snoc _ hw ih=>exact ih.app (h _ hw)
theorem wA{ws:List (List Nat)}{x:List Nat}{e:Nat}{r:List Int}(h:Mk ws x e r):Pr ws (x.take e):=by
 induction h with
 |nil=>exact .nil
 |@snoc e k w r h hw hx hl ih=>
  rw[List.take_add,hx];exact .snoc ih (Aq hw)
theorem vV{ws:List (List Nat)}{y:List Nat}(h:Pr ws y):∀x,y <+: x->∃r,Mk ws x y.length r:=by
 induction h with
 |nil=>intro x _;exact⟨[],.nil⟩
 |@snoc z w h hw ih=>
  intro x hx;obtain⟨t,rfl⟩:=hx;obtain⟨r,hr⟩:=ih (z++w++t) ⟨w++t,by rw[AF]⟩;obtain⟨k,hk⟩:=CD hw;refine⟨r++[(k:Int)],?_⟩;rw[zW];refine .snoc hr hk ?_ (by rw[zW,zW];lia);rw[AF,AU,Cd]
theorem tQ{ws:List (List Nat)}{x:List Nat}:Pr ws x↔∃r,Mk ws x x.length r:=
 ⟨fun h=>vV h x ⟨[],AA x⟩,fun hq94=>by
  obtain⟨r,h⟩:=hq94;have:=wA h
  rwa [Ap (zU _)] at this⟩
def Wn (ws:List (List Nat))(x:List Nat):Int:=(de ws x x.length).getD x.length 0
theorem sQ(ws:List (List Nat))(x:List Nat):Wn ws x=((cj ws x x.length).getD x.length (none,0)).2:=by
 unfold Wn;rw[hJ,Am,Am,Ao];cases (cj ws x x.length)[x.length]?<;>rfl
theorem qB{ws:List (List Nat)}(W:Wok ws)(x:List Nat):((cj ws x x.length).getD x.length (none,0)).1≠none↔Pr ws x:=by
 have c:=rC W (x:=x) x.length (zU _) x.length (zU _);rw[tQ];constructor
 ·intro h;cases q:((cj ws x x.length).getD x.length (none,0)).1 with
  |none=>exact absurd q h
  |some n=>obtain⟨⟨r,hr,_⟩,_⟩:=c.2 n q;exact⟨r,hr⟩
 ·rintro⟨r,hr⟩ h;exact c.1 h r hr
theorem qk{ws:List (List Nat)}(W:Wok ws)(x:List Nat):0<=Wn ws x/\(0<Wn ws x↔Pr ws x):=by
 have c:=sF W x x.length x.length (zU _);rw[<- sQ] at c;exact⟨c.1,c.2.trans (qB W x)⟩
def oth (ws:List (List Nat))(w:List Nat):List (List Nat):=ws.filter fun o=>decide (o≠w)
theorem Eg{ws:List (List Nat)}{w o:List Nat}:o∈oth ws w↔o∈ws/\o≠w:=by
 unfold oth;rw[AK,decide_eq_true_iff]
theorem Wok.oth{ws:List (List Nat)}(W:Wok ws)(w:List Nat):Wok (oth ws w):=
 ⟨Ak (AX _ _) W.n8,fun cs h=>W.l1 cs (Eg.mp h).1,fun cs h=>W.l40 cs (Eg.mp h).1⟩
def isN (ws:List (List Nat))(k:Nat):Bool:=!decide (ws.getD k []∈ws.take k)&&decide (Wn (oth ws (ws.getD k [])) (ws.getD k [])=0)
theorem jl{ws:List (List Nat)}(W:Wok ws)(k:Nat):isN ws k=true↔ws.getD k []∉ws.take k/\¬Pr (oth ws (ws.getD k [])) (ws.getD k []):=by
 unfold isN;rw[AG,Bool.not_eq_true',decide_eq_false_iff_not,decide_eq_true_iff];have:=qk (W.oth (ws.getD k [])) (ws.getD k []);constructor
 ·rintro⟨h1,h2⟩;exact⟨h1,fun h=>by have:=this.2.mpr h;lia⟩
 ·rintro⟨h1,h2⟩;refine⟨h1,?_⟩;by_cases h:0<Wn (K3.oth ws (ws.getD k [])) (ws.getD k [])
  ·exact absurd (this.2.mp h) h2
  ·lia
def nIx (ws:List (List Nat)):List Nat:=(List.range ws.length).filter (isN ws)
def nW (ws:List (List Nat)):List (List Nat):=(nIx ws).map fun k=>ws.getD k []
theorem jC{ws:List (List Nat)}{k:Nat}(h:k<ws.length):ws.getD k []=ws[k]:=by
 rw[Am,Ac h];rfl
theorem fW{ws:List (List Nat)}(W:Wok ws)(v:List Nat):v∈nW ws↔v∈ws/\¬Pr (oth ws v) v:=by
 unfold nW nIx;rw[Ae];constructor
 ·rintro⟨k,hk,rfl⟩;obtain⟨h1,h2⟩:=AK.mp hk;have hl:=AY.mp h1;refine⟨?_,((jl W k).mp h2).2⟩;rw[jC hl];exact Ay hl
 ·rintro⟨hv,hp⟩;obtain⟨as,bs,e,ha⟩:=List.eq_append_cons_of_mem hv;have e1:ws.getD as.length []=v:=by
   rw[e,Am,Bh (zU _),Nat.sub_self];rfl
  have e2:ws.take as.length=as:=by rw[e,Cd]
  refine⟨as.length,AK.mpr ⟨AY.mpr (by rw[e,zW,AE];lia),(jl W _).mpr ?_⟩,e1⟩;rw[e1,e2];exact⟨ha,hp⟩
theorem cZ{ws:List (List Nat)}(W:Wok ws):(nW ws).Nodup:=by
 unfold nW nIx List.Nodup;rw[BK,List.pairwise_filter];refine List.Pairwise.imp_of_mem (fun {a b} ha hb hab pa pb e=>?_) List.pairwise_lt_range;have h:=((jl W b).mp pb).1;apply h;rw[<- e];have hl:=AY.mp ha;rw[jC hl];rw[List.mem_take_iff_getElem];exact⟨a,by have:=AY.mp hb;lia,rfl⟩
theorem jX{ws:List (List Nat)}(W:Wok ws):∀n w,w.length=n->w∈ws->Pr (nW ws) w:=by
 intro n;induction n using Nat.strongRecOn with
 |_ n ih=>
  intro w hn hw;by_cases hm:w∈nW ws
  ·exact .one hm
  ·have hp:Pr (oth ws w) w:=Classical.byContradiction fun h=>hm ((fW W w).mpr ⟨hw,h⟩);have go:∀x,Pr (oth ws w) x->x <+: w->Pr (nW ws) x:=by
    intro x hx;induction hx with
    |nil=>intro _;exact .nil
    |@snoc x f hx hf ihx=>
     intro hpre;obtain⟨hf1,hf2⟩:=Eg.mp hf;have hpx:x <+: w:=List.IsPrefix.trans ⟨f,rfl⟩ hpre;have hle:=hpre.length_le;rw[zW] at hle;refine(ihx hpx).app (ih f.length ?_ f rfl hf1);by_cases e:f.length<n
     ·exact e
     ·have x0:x=[]:=AR.mp (by lia);rw[x0,Cr] at hpre;exact absurd (hpre.eq_of_length (by lia)) hf2
   exact go w hp ⟨[],AA w⟩
theorem cE{ws:List (List Nat)}{v:List Nat}(W:Wok ws)(h:v∈nW ws):v∈ws:=((fW W v).mp h).1
theorem uf{ws:List (List Nat)}{k:Nat}(h:k∈nIx ws):k<ws.length:=AY.mp (AK.mp h).1
theorem mi(ws:List (List Nat)):(nIx ws).length<=ws.length:=by
 have:=AX (isN ws) (List.range ws.length)
 rwa [Br] at this
theorem iE(ws:List (List Nat)):(nW ws).length<=ws.length:=by
 unfold nW;rw[zV];exact mi ws
theorem wM{ws:List (List Nat)}(W:Wok ws):Wok (nW ws):=
 ⟨Ak (iE ws) W.n8,fun cs h=>W.l1 cs (cE W h),fun cs h=>W.l40 cs (cE W h)⟩
theorem qh{ws:List (List Nat)}(W:Wds ws):Wds (nW ws):=by
 have O:=wM W.ok;refine⟨?_,(Ak (iE ws) W.n8),fun cs h=>W.lr cs (cE W.ok h),O.l1,O.l40⟩;cases e:nW ws with
 |cons a b=>exact DA (Ag _)
 |nil=>
  have h1:=W.n1;have hm:ws[0]∈ws:=Ay h1;have:=jX W.ok _ _ rfl hm;rw[e] at this;have hl:=W.l1 _ hm;generalize ws[0]=w0 at this hl;cases this with
  |nil=>exact absurd hl (by decide)
  |snoc _ h=>cases h
section
variable {P:Program}{w:World}{K:PySem.W.Frag}{mg:Str->Option Value}{base:Heap}
theorem dO{ws:List (List Nat)}{i:Nat}{v:V}(h:(ao ws)[i]?=some v):∃h':i<ws.length,v=.str (txt ws[i]):=by
 have hl:i<(ao ws).length:=(Ai.mp h).1;have hl':i<ws.length:=by rwa [zV] at hl
 refine⟨hl',?_⟩;rw[Ao,Ac hl'] at h;exact(Dj h).symm
theorem mQ{ws:List (List Nat)}{i:Nat}(h:i<ws.length):atI (ao ws) ((i:Nat):Int)=some (.str (txt ws[i])):=by
 apply aW;rw[Ao,Ac h];rfl
theorem cz{x y:List Nat}(h:txt x=txt y):x=y:=by
 have:(txt x).cps.toList=(txt y).cps.toList:=by rw[h]
 exact this
theorem ni(x y:List Nat):decide (V.str (txt x)=V.str (txt y))=decide (x=y):=
 decide_eq_decide.mpr ⟨fun h=>cz (by injection h),fun h=>by rw[h]⟩
theorem dX{α:Type}{ws:List α}{i:Nat}(h:i<ws.length):ws.take (i+1)=ws.take i++[ws[i]]:=by
 rw[Au,Ac h];rfl
theorem nj(ws:List (List Nat))(i:Nat):sO (ao ws) none (some ((i:Nat):Int))=ao (ws.take i):=by
 unfold sO;rw[HT.Fu,BQ,Nat.sub_zero];rw[HT.Gd,zV];show List.take _ (List.map _ ws)=List.map _ (List.take _ ws);rw[List.map_take];by_cases h:i<=ws.length
 ·rw[BM h]
 ·rw[CH (by lia),Ap (by rw[zV];lia),Ap (by rw[zV];lia)]
theorem oB(x:List Nat)(ws:List (List Nat)):inV (.str (txt x)) (ao ws)=decide (x∈ws):=by
 unfold inV;rw[Dz,BY,decide_eq_true_iff];constructor
 ·rintro⟨v,hv,e⟩;obtain⟨y,hy,rfl⟩:=Ae.mp hv;have e':(txt y==txt x)=true:=e;rw[<- cz (eq_of_beq e')];exact hy
 ·intro h;exact⟨.str (txt x),Ae.mpr ⟨x,h,rfl⟩,by show(txt x==txt x)=true;exact beq_self_eq_true _⟩
def Kq:Sp:=fun vs H Q _=>∃l ws,∃i:Nat,vs=[.ref l,.int (i:Int)]/\H l=some (.lst (ao ws))/\Wok ws/\i<ws.length/\∀H',DN H H'->Q (.bl (isN ws i)) H'
theorem vJ{dy d:DD}(yc:(dg "ways_to_places" 27 ["words","text"] dy 2 HV))(D:Def K mg "is_needed" (top 40) ["words","number"] d)(xf:mg "len"=none):(fk 3 d ["words","number"] Kq):=by
 exists["words","number","word","others"]
 obtain⟨l,ws,i,rfl,hl,hw,hi,q⟩:=h;refine⟨_,(ag (ay 2 (Or.inr rfl) (aK DO (0) (1))) (ag (bY 3 (ak (ts:=["other"]) (cap:=["word"]) (js:=[2]) rfl rfl rfl rfl rfl rfl (by decide +kernel)) (aJ (0)) (ad 0 (nd ["other","word"])) (@bz _ _ _ (aB GL (0) (1) (aE _))) (0)) (ai (aC (fY (cM FH (2) (aV IV (0) (Ea _) (bo (1))) rfl) (kC (cM Fb (aK DO (aY yc.1 yc.2 (DJ (3) (aG (2) ax) ax)) (aM DM xf (2) ax)) (ah _) (aE _)))))))),?_⟩
 walk_at "d"
 have n8:=hw.n8;have el:(ao ws).length=ws.length:=zV ..;refine⟨_,rfl,_,rfl,l,_,_,_,rfl,rfl,SqL.of hl,mQ hi,?_⟩;have gi:ws.getD i []=ws[i]:=jC hi;have hm:ws[i]∈ws:=Ay hi;have h40:=hw.l40 _ hm;generalize ws[i]=x at gi hm h40;refine⟨_,rfl,l,rfl,⟨_,SqL.of hl⟩,?_⟩;refine bZ (K:=K) (a:=l) (xs:=ao ws) (fun k ys H2=>H2=H/\ys.length<=k/\ys=ao (oth (ws.take k) x)) ⟨rfl,zU _,rfl⟩ (fun k ys H2 hk z=>z.2.1) (au (by lia)) (fun k ys H2 hk z=>by rw[z.1];exact SqL.of hl) (fun k v ys H2 hv z=>?_) (fun ys H2 z p' hp'=>?_)
 ·obtain⟨rfl,z2,rfl⟩:=z;have hk:k<(ao ws).length:=(Ai.mp hv).1;obtain⟨hk',rfl⟩:=dO hv;have e1:oth (ws.take (k+1)) x=oth (ws.take k) x++(if decide (ws[k]≠x)=true then [ws[k]] else []):=by
   unfold oth;rw[dX hk',Bc,AQ];rfl
  refine⟨_,rfl,_,rfl,rfl,decide (ws[k]≠x),?_,?_⟩
  ·show V.bl (!decide (V.str (txt ws[k])=V.str (txt x)))=_;rw[ni,decide_not]
  cases hB:decide (ws[k]≠x) with
  |false=>
   show Nx (ao ws).length k (fun k ys H2'=>H2'=H2/\ys.length<=k/\ys=ao (oth (ws.take k) x)) _ _;refine Nx.mk hk ⟨rfl,by lia,?_⟩;rw[e1,hB,CZ (by decide),AA]
  |true=>
   refine⟨_,rfl,Nx.mk hk ⟨rfl,by rw[zW];exact DA z2,?_⟩⟩;rw[e1,hB,Dc rfl];exact(An (f:=fun cs=>V.str (txt cs)) (l₁:=oth (ws.take k) x) (l₂:=[ws[k]])).symm
 obtain⟨rfl,z2,rfl⟩:=z;rw[el,Ap (zU _)];have S2:=af hp' (.lst (ao (oth ws x)));have g2:upd H2 p' (.lst (ao (oth ws x))) p'=some (.lst (ao (oth ws x))):=ae;generalize upd H2 p' (.lst (ao (oth ws x)))=H3 at S2 g2;have hl3:=S2 _ _ hl;refine⟨_,rfl,_,rfl,_,rfl,_,rfl,l,_,rfl,SqL.of hl3,fun p3 hp3=>?_⟩;rw[nj];have fl:(ao (ws.take i)).all Fm=true:=by
  rw[AZ];intro v hv;obtain⟨y,_,rfl⟩:=Ae.mp hv;rfl
 refine⟨p3,_,rfl,.inl (SqL.of ae),rfl,fl,!decide (x∈ws.take i),?_,?_⟩
 ·show V.bl (!inV (.str (txt x)) (ao (ws.take i)))=_;rw[oB]
 have S3:=S2.trans (af hp3 (.lst (ao (ws.take i))));have g3:=af hp3 (.lst (ao (ws.take i))) _ _ g2;generalize upd H3 p3 (.lst (ao (ws.take i)))=H4 at S3 g3;cases hB:!decide (x∈ws.take i) with
 |false=>
  have:=q H4 S3;unfold isN at this;rw[gi,hB] at this;exact this
 |true=>
  refine⟨_,rfl,_,rfl,p',oth ws x,x,rfl,g3,hw.oth x,by lia,fun p5 H5 S5 n5 g5=>?_⟩;refine⟨_,rfl,txt x,rfl,au (by show x.length<=1000000;lia),p5,_,_,_,rfl,rfl,SqL.of g5,kj (j:=x.length) (by rw[fE];lia),rfl,?_⟩;have:=q H5 (S3.trans S5);unfold isN at this;rw[gi,hB] at this;have e:decide (V.int ((de (oth ws x) x x.length).getD x.length 0)=V.int 0)=(true&&decide (Wn (oth ws x) x=0)):=by
   rw[Bool.true_and];exact decide_eq_decide.mpr ⟨fun h=>by injection h,fun h=>by show V.int (Wn (oth ws x) x)=_;rw[h]⟩
  rw[e];exact this
theorem ED:bootBuiltins "sorted"=some (.builtin "sorted"):=by decide +kernel
theorem bO(a:List (List Nat))(x:List Nat):ao (a++[x])=ao a++[.str (txt x)]:=An
theorem rg(a:List Nat)(x:Nat):nvs (a++[x])=nvs a++[.int (x:Int)]:=An
theorem vh{cs:List Nat}(h:∀c∈cs,El c):PyData.strOk (txt cs)=true:=sA fun c hc=>by
 rcases h c hc with rfl|rfl<;>decide
theorem pP{zs:List Str}{ws:List (List Nat)}(p:zs.Perm (jP ws))(h:∀cs∈ws,∀c∈cs,El c):(PyData.list (zs.map PyData.str)).canLay0=true:=by
 show PyData.canLayAll0 _=true;apply Fi;intro x hx;obtain⟨cs,hc,rfl⟩:=Ae.mp (p.mem_iff.mp hx);exact vh (h cs hc)
theorem sx{ws os:List (List Nat)}:(jP ws).Perm (jP os)↔ws.Perm os:=by
 constructor
 ·intro h;have:=h.map fun z:Str=>z.cps.toList;have e:∀l:List (List Nat),(jP l).map (fun z:Str=>z.cps.toList)=l:=fun l=>by
   rw[AJ];show l.map (fun x=>x)=l;exact List.map_id' l
  rwa [e,e] at this
 ·exact fun h=>h.map _
def IC:Sp:=fun vs H Q _=>∃l ws,vs=[.ref l]/\H l=some (.lst (ao ws))/\Wok ws/\∀p H',DN H H'->H p=none->H' p=some (.lst (nvs (nIx ws)))->Q (.ref p) H'
theorem tN{dy d:DD}(D_in:(dg "is_needed" 40 ["words","number"] dy 3 Kq))(D:Def K mg "needed_of" (top 41) ["words"] d)(xh:mg "range"=none)(xf:mg "len"=none):(fk 4 d ["words"] IC):=by
 exists["words"]
 obtain⟨l,ws,rfl,hl,hw,q⟩:=h;have n8:=hw.n8;refine⟨_,(ai (aC (aO (ak (ts:=["number"]) (cap:=["words"]) (js:=[0]) rfl rfl rfl rfl rfl rfl (by decide +kernel)) (bh xh (aG (aM DP xf (0) ax) eW)) (ad 0 (nd ["number","words"])) (@bz _ _ _ (bH (aY D_in.1 D_in.2 (DJ (1) (aG (0) ax) ax)))) (0)))),?_⟩
 walk_at "d"
 have el:(ao ws).length=ws.length:=zV ..;refine⟨_,rfl,l,_,rfl,.inl (SqL.of hl),_,rfl,by lia,by lia,?_⟩;rw[show(((ao ws).length:Nat):Int).toNat=ws.length by rw[el,AM]];refine lW (lo:=0) (n:=ws.length) (fun k zs H'=>DN H H'/\zs.length<=k/\zs=nvs ((List.range k).filter (isN ws))) ⟨DN.refl _,zU _,rfl⟩ (fun k zs H' hk z=>z.2.1) (au (by lia)) (fun k zs H' hk z=>?_) (fun zs H' z p6 hp6=>?_)
 ·obtain⟨z1,z2,rfl⟩:=z;have e1:(List.range (k+1)).filter (isN ws)=(List.range k).filter (isN ws)++(if isN ws k=true then [k] else []):=by
   rw[List.range_succ,Bc,AQ];rfl
  have ek:(0:Int)+(k:Int)=((k:Nat):Int):=by lia
  rw[ek];refine⟨_,rfl,_,rfl,l,ws,k,rfl,z1 _ _ hl,hw,hk,fun H2 S2=>⟨isN ws k,rfl,?_⟩⟩;cases hB:isN ws k with
  |false=>
   show Nx ws.length k (fun k zs H'=>DN H H'/\zs.length<=k/\zs=nvs ((List.range k).filter (isN ws))) _ _;refine Nx.mk hk ⟨z1.trans S2,by lia,?_⟩;rw[e1,hB,CZ (by decide),AA]
  |true=>
   refine⟨_,rfl,Nx.mk hk ⟨z1.trans S2,by rw[zW];exact DA z2,?_⟩⟩;rw[e1,hB,Dc rfl];exact(rg _ _).symm
 obtain⟨z1,z2,rfl⟩:=z;exact q p6 _ (z1.trans (af hp6 _)) (z1.free hp6) ae
def Kv:Sp:=fun vs H Q _=>∃l us ws,vs=[.ref l]/\H l=some (.lst us)/\Mks H us ws/\Wds ws/\∀p H',DN H H'->H p=none->H' p=some (.lst (nvs (nIx ws)))->Q (.ref p) H'
theorem uD{dm dn d:DD}(xx:(dg "maker_words" 25 ["makers"] dm 5 Hh))(xO:(dg "needed_of" 41 ["words"] dn 4 IC))(D:Def K mg "needed" (top 42) ["makers"] d):(fk 6 d ["makers"] Kv):=by
 exists["makers"]
 obtain⟨l,us,ws,rfl,hl,hm,hw,q⟩:=h;refine⟨_,(ai (aC (bb xO.1 xO.2 (bb xx.1 xx.2 (0) ax) eW))),?_⟩
 walk_at "d"
 refine⟨_,rfl,l,us,ws,rfl,hl,hm,hw,fun p1 H1 S1 g1=>?_⟩;exact⟨p1,ws,rfl,g1,hw.ok,fun p H2 S2 n2 g2=>q p H2 (S1.trans S2) (S1.free n2) g2⟩
end
def cw (ws:List (List Nat))(r:List Nat):List Nat:=(r.map fun k=>ws.getD k []).flatten
theorem rZ(ws:List (List Nat))(r:List Nat)(k:Nat):cw ws (r++[k])=cw ws r++ws.getD k []:=by
 unfold cw;rw[An,Cb];show _++([ws.getD k []]:List (List Nat)).flatten=_;rw[Bw,List.flatten_nil,AA]
def nxt (m:Nat)(rs:List (List Nat)):List (List Nat):=rs.flatMap fun r=>(List.range m).map fun k=>r++[k]
abbrev rI(r:List Nat):List Int:=r.map fun(k:Nat)=>(k:Int)
theorem rQ(r:List Nat)(k:Nat):rI (r++[k])=rI r++[(k:Int)]:=An
theorem vG{ws:List (List Nat)}:∀(r:List Nat),(∀k∈r,k<ws.length)->∀t,Mk ws (cw ws r++t) (cw ws r).length (rI r):=by
 intro r;induction h:r.length generalizing r with
 |zero=>
  intro _ t;obtain rfl:=AR.mp h;exact .nil
 |succ n ih=>
  intro hk t;rcases List.eq_nil_or_concat r with rfl|⟨a,k,rfl⟩
  ·cases h
  ·rw[List.concat_eq_append] at h hk ⊢;have hl:k<ws.length:=hk k (Ab _ zX);have hg:ws[k]?=some (ws.getD k []):=by rw[Am,Ac hl];rfl
   have h1:=ih a (by rw[zW] at h;exact Nat.succ.inj h) (fun j hj=>hk j (Aw _ hj)) (ws.getD k []++t);rw[rZ,rQ,zW,AF];refine .snoc h1 hg ?_ ?_
   ·rw[AU,Cd]
   ·rw[zW,zW];lia
section
variable {P:Program}{w:World}{K:PySem.W.Frag}{mg:Str->Option Value}{base:Heap}
open KM
theorem mP(x y:List Nat):Txt.startswith (txt x) (txt y)=decide (x.take y.length=y):=by
 unfold Txt.startswith;have hn:(txt x).length=x.length:=by show x.toArray.size=_;simp
 have hm:(txt y).length=y.length:=by show y.toArray.size=_;simp
 rw[StrLaws.subAt_eq,hm,hn];show(decide (0+y.length<=x.length)&&((x.drop 0).take y.length==y))=_;rw[BQ];rw[Dz];simp only[AG,decide_eq_true_eq,DI];refine⟨fun h=>h.2,fun h=>⟨?_,h⟩⟩;have:=congrArg List.length h;rw[Az] at this;lia
theorem aX(x y:List Nat):Txt.startswith (txt x) (txt y)=true↔∃z,x=y++z:=by
 rw[mP,decide_eq_true_eq];constructor
 ·intro h;exact⟨x.drop y.length,by have:=List.take_append_drop y.length x;rw[h] at this;exact this.symm⟩
 ·rintro⟨z,rfl⟩;exact Cd
theorem bw(x:List Nat)(e:Nat):Txt.slice (txt x) (some (e:Int)) none=txt (x.drop e):=by
 apply gQ;rw[cY];show qj x (some (e:Int)) none=x.drop e;unfold qj;rw[HT.Gd,HT.Fu];rcases Nat.le_total e x.length with h|h
 ·rw[BM h,Ap (by rw[Cp];exact zU _)]
 ·rw[CH h,List.drop_of_length_le h,List.drop_of_length_le (zU _)];simp
theorem cb{ws:List (List Nat)}{i:Nat}(h:i<ws.length):(ao ws)[i]?=some (.str (txt (ws.getD i []))):=by
 rw[Ao,Ac h,Am,Ac h];rfl
theorem aw{ws:List (List Nat)}{i:Nat}(h:i<ws.length):ws.getD i []∈ws:=by
 rw[Am,Ac h];exact Ay h
theorem bq{ws:List (List Nat)}{i:Nat}(h:i<ws.length):atI (ao ws) ((i:Nat):Int)=some (.str (txt (ws.getD i []))):=aW (cb h)
theorem aI(ws:List (List Nat)):(ao ws).length=ws.length:=zV _
abbrev iv(os:List Nat):List V:=(os.map fun n=>((n:Nat):Int)).map V.int
theorem gL(os:List Nat)(n:Nat):iv os++[V.int ((n:Nat):Int)]=iv (os++[n]):=by
 show _=((os++[n]).map _).map V.int;rw[An,An];rfl
theorem eS(os:List Nat):(iv os).length=os.length:=by rw[zV,zV]
def Kt:Sp:=fun vs H Q _=>∃l ws,vs=[.ref l]/\H l=some (.lst (ao ws))/\Wds ws/\∀p us ps H',DN H H'->H' p=some (.lst us)->Stp H' us ps->ps.length<=64->(∀i j,(i,j)∈ps↔i<ws.length/\j<ws.length/\i≠j/\∃z,ws.getD i []=ws.getD j []++z)->Q (.ref p) H'
theorem wd{d:DD}(D:Def K mg "first_pairs" (top 32) ["words"] d)(xf:mg "len"=none)(xh:mg "range"=none):(fk 1 d ["words"] Kt):=by
 exists["words","many","pairs"]
 obtain⟨l,ws,rfl,hl,hw,q⟩:=h;have h8:=hw.n8;refine⟨_,(ag (ay 1 (Or.inr rfl) (aM DP xf (0) ax)) (ag (pR 2 (ak (ts:=["longer","shorter"]) (cap:=["many"]) (js:=[1]) rfl rfl rfl rfl rfl rfl (by decide +kernel)) (bh xh (aG (1) ax)) (ad 0 (nd ["longer","shorter","many"])) (@aR _) (bh xh (aG (2) ax)) (ad 1 (nd ["longer","shorter","many"])) (@bz _ _ _ (aB GL (0) (1) (aE _))) (aN (DJ (0) (aG (1) ax) ax)) (by intro _ _;rfl)) (ai (aC (aO (ak (ts:=["longer","shorter"]) (cap:=["words"]) (js:=[0]) rfl rfl rfl rfl rfl rfl (by decide +kernel)) (aJ (2)) (@ck _ _ _ _ _ 2 K rfl hc (av (ad 0 (nd ["longer","shorter","words"])) (av (ad 1 (nd ["longer","shorter","words"])) (DW _))) (by rfl) (by rfl)) (@bz _ _ _ (bH (iO Dl PySem.F.slot_str_startswith PySem.F.type_str_startswith Eo (aK (show IxR _ (iQ K) from DO) (2) (0)) (aG (aK (show IxR _ (iQ K) from DO) (2) (1)) (by rfl))))) (aN (DJ (0) (aG (1) ax) ax))))))),?_⟩
 walk_at "d"
 refine⟨_,rfl,l,_,rfl,.inl (SqL.of hl),?_⟩;rw[aI];refine⟨_,rfl,((ws.length:Nat):Int),rfl,by lia,by lia,?_⟩;refine tF (lo:=0) (n:=(((ws.length:Nat):Int)).toNat) (fun i ys H'=>DN H H'/\∃ps,Stp H' ys ps/\ps.length<=8*i/\∀a b,(a,b)∈ps↔a<i/\b<ws.length/\a≠b) ⟨DN.refl _,[],.nil,zU _,fun a b=>⟨fun h=>absurd h (by simp),fun h=>absurd h.1 (Bt _)⟩⟩ (fun i ys H' hi z=>by obtain⟨_,ps,h1,h2,_⟩:=z;rw[Paired.length h1];exact au (by lia)) (fun i ys H' hi z=>?_) (fun ys H1 z p1 hp1=>?_)
 ·obtain⟨z1,ps,z2,z3,z4⟩:=z;have hi':i<ws.length:=by lia
  refine⟨_,rfl,((ws.length:Nat):Int),rfl,by lia,by lia,?_⟩;refine uq (lo:=0) (n:=(((ws.length:Nat):Int)).toNat) (fun j σ ys H'=>DN H H'/\(∃e1,σ=[some (.int (0+(i:Int))),e1,some (.int ((ws.length:Nat):Int))])/\∃ps,Stp H' ys ps/\ps.length<=8*i+j/\∀a b,(a,b)∈ps↔(a<i/\b<ws.length/\a≠b)\/(a=i/\b<j/\a≠b)) ⟨z1,⟨_,rfl⟩,ps,z2,z3,fun a b=>by rw[z4];lia⟩ (fun j σ ys H' hj z=>by obtain⟨_,_,ps,h1,h2,_⟩:=z;rw[Paired.length h1];exact Bi (show _<=1000 by lia) (by decide)) (fun j σ ys H' hj z=>?_) (fun σ ys H' z=>?_)
  ·obtain⟨z1,⟨e1,rfl⟩,ps,z2,z3,z4⟩:=z;have hj':j<ws.length:=by lia
   refine⟨_,rfl,_,rfl,rfl,_,rfl,?_⟩;by_cases hij:i=j
   ·subst hij;refine Eq.mpr (CZ (by simp)) ?_;exact NxV.mk hj ⟨z1,⟨_,rfl⟩,ps,z2,by lia,fun a b=>by rw[z4];lia⟩
   ·refine Eq.mpr (Dc (by simp;lia)) ?_;refine⟨_,rfl,_,rfl,au (by show 2<=1000000;decide),fun a na=>?_⟩;have S1:=af na (.tup [.int (0+(i:Int)),.int (0+(j:Int))]);refine NxV.mk hj ⟨z1.trans S1,⟨_,rfl⟩,ps++[(i,j)],?_,by rw[zW];show ps.length+1<=_;lia,fun x y=>?_⟩
    ·refine Paired.snoc (z2.mono S1) ⟨a,rfl,?_⟩;rw[ae,Int.zero_add,Int.zero_add]
    ·rw[zZ,z4,zY,Prod.mk.injEq];lia
  ·obtain⟨z1,_,ps,z2,z3,z4⟩:=z;exact Nx.mk hi ⟨z1,ps,z2,by lia,fun a b=>by rw[z4];lia⟩
 obtain⟨z1,ps,z2,z3,z4⟩:=z;have S1:=af hp1 (.lst ys);have gp1:upd H1 p1 (.lst ys) p1=some (.lst ys):=ae;have hs1:=z2.mono S1;have SA:=z1.trans S1;have yl:=Paired.length hs1;generalize upd H1 p1 (.lst ys)=H2 at S1 gp1 hs1 SA;refine⟨_,rfl,p1,rfl,⟨_,SqL.of gp1⟩,?_⟩;refine bZ (K:=K) (a:=p1) (xs:=ys) (fun k ys' H'=>DN H2 H'/\ys'.length<=k/\Stp H' ys' ((ps.take k).filter fun s=>Txt.startswith (txt (ws.getD s.1 [])) (txt (ws.getD s.2 [])))) ⟨DN.refl _,zU _,.nil⟩ (fun k ys' H' hk z=>z.2.1) (au (by lia)) (fun k ys' H' hk z=>SqL.of (z.1 _ _ gp1)) (fun k v ys' H' hv z=>?_) (fun ys' H' z p hp=>?_)
 ·obtain⟨z1,z2',z3'⟩:=z;have hk:k<ys.length:=(Ai.mp hv).1;obtain⟨⟨i,j⟩,a,es,rfl,ha⟩:=Stp.at hs1 hv;obtain⟨hi,hj,_⟩:=(z4 i j).mp (Aq es);have hi:i<ws.length:=by lia
  have et:ps.take (k+1)=ps.take k++[(i,j)]:=by rw[Au,es];rfl
  have gl:=z1 _ _ (SA _ _ hl);refine⟨a,_,rfl,SqT.of (z1 _ _ ha),rfl,_,_,rfl,_,_,rfl,rfl,?_⟩;refine⟨_,rfl,_,rfl,l,_,_,_,rfl,rfl,SqL.of gl,bq hi,rfl,_,rfl,_,rfl,l,_,_,_,rfl,rfl,SqL.of gl,bq hj,_,_,rfl,rfl,_,rfl,?_⟩;cases hB:Txt.startswith (txt (ws.getD i [])) (txt (ws.getD j [])) with
  |false=>
   refine Nx.mk (i:=k) (n:=ys.length) (P:=fun k ys' H'=>DN H2 H'/\ys'.length<=k/\Stp H' ys' ((ps.take k).filter fun s=>Txt.startswith (txt (ws.getD s.1 [])) (txt (ws.getD s.2 [])))) hk ?_;refine⟨z1,by lia,?_⟩;rw[et,Bc,AQ,hB];simpa using z3'
  |true=>
   refine⟨_,rfl,_,rfl,au (by show 2<=1000000;decide),fun a2 na2=>Nx.mk hk ⟨z1.trans (af na2 _),by rw[zW];exact DA z2',?_⟩⟩;rw[et,Bc,AQ,hB];exact Paired.snoc (z3'.mono (af na2 _)) ⟨a2,rfl,ae⟩
 obtain⟨z1,z2',z3'⟩:=z;rw[yl,Ap (zU _)] at z3';refine q p ys' _ _ (SA.trans (z1.trans (af hp _))) ae (z3'.mono (af hp _)) (Ak (AX _ _) (by lia)) fun i j=>?_;rw[AK,z4];show _/\Txt.startswith (txt (ws.getD i [])) (txt (ws.getD j []))=true↔_;rw[aX];constructor
 ·rintro⟨⟨h1,h2,h3⟩,h4⟩;exact⟨by lia,h2,h3,h4⟩
 ·rintro⟨h1,h2,h3,h4⟩;exact⟨⟨by lia,h2,h3⟩,h4⟩
def JC:Sp:=fun vs H Q _=>∃l ws x,vs=[.ref l,.str (txt x)]/\H l=some (.lst (ao ws))/\Wds ws/\∀p is H',DN H H'->H' p=some (.lst (iv is))->is.length<=8->(∀i,i∈is↔i<ws.length/\∃z,x=ws.getD i []++z)->Q (.ref p) H'
theorem sV{d:DD}(D:Def K mg "words_within" (top 33) ["words","text"] d)(xi:mg "enumerate"=none):(fk 1 d ["words","text"] JC):=by
 exists["words","text"]
 obtain⟨l,ws,x,rfl,hl,hw,q⟩:=h;have h8:=hw.n8;refine⟨_,(ai (aC (aO (ak (ts:=["number","word"]) (cap:=["text"]) (js:=[1]) rfl rfl rfl rfl rfl rfl (by decide +kernel)) (jm xi (aG (0) ax)) (@ck _ _ _ _ _ 2 K rfl hc (av (ad 0 (nd ["number","word","text"])) (av (ad 1 (nd ["number","word","text"])) (DW _))) (by rfl) (by rfl)) (@bz _ _ _ (bH (iO Dl PySem.F.slot_str_startswith PySem.F.type_str_startswith Eo (2) (aG (1) ax)))) (0)))),?_⟩
 walk_at "d"
 refine⟨_,rfl,l,rfl,⟨_,SqL.of hl⟩,?_⟩;have el:=aI ws;refine rG (K:=K) (a:=l) (xs:=ao ws) (fun i ys H'=>DN H H'/\∃is,ys=iv is/\is.length<=i/\∀a,a∈is↔a<i/\∃z,x=ws.getD a []++z) ⟨DN.refl H,[],rfl,zU _,fun a=>⟨fun h=>absurd h (by simp),fun h=>absurd h.1 (Bt _)⟩⟩ (fun i ys H' hi z=>by obtain⟨_,is,rfl,h,_⟩:=z;rw[eS];exact h) (au (by lia)) (fun i ys H' hi z=>SqL.of (z.1 _ _ hl)) (fun i v ys H' p hx z hp=>?_) (fun ys H' z p hp=>?_)
 ·obtain⟨z1,is,rfl,z2,z3⟩:=z;have hi:i<(ao ws).length:=(Ai.mp hx).1;have hi':i<ws.length:=by lia
  rw[cb hi'] at hx;cases hx;have S1:=af hp (.tup [.int (i:Int),.str (txt (ws.getD i []))]);refine⟨p,_,rfl,SqT.of ae,rfl,_,_,rfl,_,_,rfl,rfl,?_⟩;refine⟨_,rfl,rfl,_,rfl,_,_,rfl,rfl,_,rfl,?_⟩;cases hB:Txt.startswith (txt x) (txt (ws.getD i [])) with
  |false=>
   refine Nx.mk (i:=i) (n:=(ao ws).length) (P:=fun i ys H'=>DN H H'/\∃is,ys=iv is/\is.length<=i/\∀a,a∈is↔a<i/\∃z,x=ws.getD a []++z) hi ?_;refine⟨z1.trans S1,is,rfl,by lia,fun a=>?_⟩;rw[z3];have hn:¬∃z,x=ws.getD i []++z:=fun h=>by rw[(aX _ _).mpr h] at hB;cases hB
   constructor
   ·rintro⟨h1,h2⟩;exact⟨by lia,h2⟩
   ·rintro⟨h1,h2⟩;by_cases e:a=i
    ·subst e;exact absurd h2 hn
    ·exact⟨by lia,h2⟩
  |true=>
   refine⟨_,rfl,Nx.mk hi ⟨z1.trans S1,is++[i],gL is i,by rw[zW];exact DA z2,fun a=>?_⟩⟩;have hn:=(aX _ _).mp hB;rw[zZ,z3,zY];constructor
   ·rintro (⟨h1,h2⟩|rfl)
    ·exact⟨by lia,h2⟩
    ·exact⟨by lia,hn⟩
   ·rintro⟨h1,h2⟩;by_cases e:a=i
    ·exact .inr e
    ·exact .inl ⟨by lia,h2⟩
 ·obtain⟨z1,is,rfl,z2,z3⟩:=z;rw[el] at z2 z3;exact q p is _ (z1.trans (af hp _)) ae (by lia) z3
def Jf:Sp:=fun vs H Q _=>∃l ws x,vs=[.ref l,.str (txt x)]/\H l=some (.lst (ao ws))/\Wds ws/\∀p is H',DN H H'->H' p=some (.lst (iv is))->is.length<=8->(∀i,i∈is↔i<ws.length/\∃z,ws.getD i []=x++z)->Q (.ref p) H'
theorem tK{d:DD}(D:Def K mg "words_beyond" (top 34) ["words","text"] d)(xi:mg "enumerate"=none):(fk 1 d ["words","text"] Jf):=by
 exists["words","text"]
 obtain⟨l,ws,x,rfl,hl,hw,q⟩:=h;have h8:=hw.n8;refine⟨_,(ai (aC (aO (ak (ts:=["number","word"]) (cap:=["text"]) (js:=[1]) rfl rfl rfl rfl rfl rfl (by decide +kernel)) (jm xi (aG (0) ax)) (@ck _ _ _ _ _ 2 K rfl hc (av (ad 0 (nd ["number","word","text"])) (av (ad 1 (nd ["number","word","text"])) (DW _))) (by rfl) (by rfl)) (@bz _ _ _ (bH (iO Dl PySem.F.slot_str_startswith PySem.F.type_str_startswith Eo (1) (aG (2) ax)))) (0)))),?_⟩
 walk_at "d"
 refine⟨_,rfl,l,rfl,⟨_,SqL.of hl⟩,?_⟩;have el:=aI ws;refine rG (K:=K) (a:=l) (xs:=ao ws) (fun i ys H'=>DN H H'/\∃is,ys=iv is/\is.length<=i/\∀a,a∈is↔a<i/\∃z,ws.getD a []=x++z) ⟨DN.refl H,[],rfl,zU _,fun a=>⟨fun h=>absurd h (by simp),fun h=>absurd h.1 (Bt _)⟩⟩ (fun i ys H' hi z=>by obtain⟨_,is,rfl,h,_⟩:=z;rw[eS];exact h) (au (by lia)) (fun i ys H' hi z=>SqL.of (z.1 _ _ hl)) (fun i v ys H' p hx z hp=>?_) (fun ys H' z p hp=>?_)
 ·obtain⟨z1,is,rfl,z2,z3⟩:=z;have hi:i<(ao ws).length:=(Ai.mp hx).1;have hi':i<ws.length:=by lia
  rw[cb hi'] at hx;cases hx;have S1:=af hp (.tup [.int (i:Int),.str (txt (ws.getD i []))]);refine⟨p,_,rfl,SqT.of ae,rfl,_,_,rfl,_,_,rfl,rfl,?_⟩;refine⟨_,rfl,rfl,_,rfl,_,_,rfl,rfl,_,rfl,?_⟩;cases hB:Txt.startswith (txt (ws.getD i [])) (txt x) with
  |false=>
   refine Nx.mk (i:=i) (n:=(ao ws).length) (P:=fun i ys H'=>DN H H'/\∃is,ys=iv is/\is.length<=i/\∀a,a∈is↔a<i/\∃z,ws.getD a []=x++z) hi ?_;refine⟨z1.trans S1,is,rfl,by lia,fun a=>?_⟩;rw[z3];have hn:¬∃z,ws.getD i []=x++z:=fun h=>by rw[(aX _ _).mpr h] at hB;cases hB
   constructor
   ·rintro⟨h1,h2⟩;exact⟨by lia,h2⟩
   ·rintro⟨h1,h2⟩;by_cases e:a=i
    ·subst e;exact absurd h2 hn
    ·exact⟨by lia,h2⟩
  |true=>
   refine⟨_,rfl,Nx.mk hi ⟨z1.trans S1,is++[i],gL is i,by rw[zW];exact DA z2,fun a=>?_⟩⟩;have hn:=(aX _ _).mp hB;rw[zZ,z3,zY];constructor
   ·rintro (⟨h1,h2⟩|rfl)
    ·exact⟨by lia,h2⟩
    ·exact⟨by lia,hn⟩
   ·rintro⟨h1,h2⟩;by_cases e:a=i
    ·exact .inr e
    ·exact .inl ⟨by lia,h2⟩
 ·obtain⟨z1,is,rfl,z2,z3⟩:=z;rw[el] at z2 z3;exact q p is _ (z1.trans (af hp _)) ae (by lia) z3
open KM
def Fy (H:Hp)(v:V)(f:Fd):Prop:=∃p la lb,v=.ref p/\H p=some (.tup [.int ((f.1:Nat):Int),.ref la,.ref lb])/\H la=some (.lst (iv f.2.1))/\H lb=some (.lst (iv f.2.2))
theorem Fy.mono{H H':Hp}(S:DN H H'){v:V}{f:Fd}(h:Fy H v f):Fy H' v f:=by
 obtain⟨p,la,lb,h1,h2,h3,h4⟩:=h;exact⟨p,la,lb,h1,S _ _ h2,S _ _ h3,S _ _ h4⟩
def JM (H:Hp)(v:V)(s:List Nat×Fd):Prop:=∃p u,v=.ref p/\H p=some (.tup [.str (txt s.1),u])/\Fy H u s.2
abbrev SsL(H:Hp)(us:List V)(ss:List (List Nat×Fd)):Prop:=Paired (JM H) us ss
theorem JM.mono{H H':Hp}(S:DN H H'){v:V}{s:List Nat×Fd}(h:JM H v s):JM H' v s:=by
 obtain⟨p,u,h1,h2,h3⟩:=h;exact⟨p,u,h1,S _ _ h2,h3.mono S⟩
theorem SsL.mono{H H':Hp}(S:DN H H'){us:List V}{ss:List (List Nat×Fd)}(h:SsL H us ss):SsL H' us ss:=Paired.EF h fun v s z=>z.mono S
theorem cc(ws:List (List Nat))(i:Nat):bj ws [i]=ws.getD i []:=by rw[aH];exact AA _
theorem fG(ws:List (List Nat))(a:List Nat)(i:Nat):bj ws (a++[i])=bj ws a++ws.getD i []:=by
 unfold bj;rw[An,Cb];show _++([ws.getD i []]).flatten=_;simp
theorem nE{ws:List (List Nat)}{i j:Nat}{z:List Nat}(hi:i<ws.length)(hj:j<ws.length)(ne:i≠j)(e:ws.getD i []=ws.getD j []++z):Trk ws z ((ws.getD i []).length,[i],[j]):=
 ⟨fun k h=>by rw[zY.mp h];exact hi,fun k h=>by rw[zY.mp h];exact hj,⟨i,j,[],[],rfl,rfl,ne⟩,by show bj ws [i]=bj ws [j]++z;rw[cc,cc];exact e,by show _=(bj ws [i]).length;rw[cc]⟩
def qf (ws:List (List Nat))(s:Nat×Nat):List Nat×Fd:=((ws.getD s.1 []).drop (ws.getD s.2 []).length,(ws.getD s.1 []).length,[s.1],[s.2])
def Kl:Sp:=fun vs H Q _=>∃l ws,vs=[.ref l]/\H l=some (.lst (ao ws))/\Wds ws/\∀p us ss H',DN H H'->H' p=some (.lst us)->SsL H' us ss->ss.length<=64->(∀s∈ss,Trk ws s.1 s.2/\Sfx ws s.1/\s.2.1<=40) ->
 (∀i j x,i<ws.length->j<ws.length->i≠j->ws.getD i []=ws.getD j []++x->∃s∈ss,s.1=x/\s.2.1=(ws.getD i []).length)->Q (.ref p) H'
theorem vL{df d:DD}(D_fp:(dg "first_pairs" 32 ["words"] df 1 Kt))(D:Def K mg "first_steps" (top 35) ["words"] d)(xf:mg "len"=none):(fk 2 d ["words"] Kl):=by
 exists["words","pairs"]
 obtain⟨l,ws,rfl,hl,hw,q⟩:=h;have h8:=hw.n8;refine⟨_,(ag (ay 1 (Or.inl rfl) (bb D_fp.1 D_fp.2 (0) ax)) (ai (aC (aO (ak (ts:=["one","other"]) (cap:=["words"]) (js:=[0]) rfl rfl rfl rfl rfl rfl (by decide +kernel)) (aJ (1)) (@ck _ _ _ _ _ 2 K rfl hc (av (ad 0 (nd ["one","other","words"])) (av (ad 1 (nd ["one","other","words"])) (DW _))) (by rfl) (by rfl)) (@aR _) (aN (DJ (aV Ei (aK (show IxR _ (iQ K) from DO) (2) (0)) (bo (aM DM xf (aK (show IxR _ (iQ K) from DO) (2) (1)) (by rfl))) (Ea _)) (aG (aN (DJ (aM DM xf (aK (show IxR _ (iQ K) from DO) (2) (0)) (by rfl)) (DJ (aS (aG (0) ax)) (aG (aS (aG (1) ax)) (by rfl)) (by rfl)) eW)) (by rfl)) (by rfl))))))),?_⟩
 walk_at "d"
 refine⟨_,rfl,l,ws,rfl,hl,hw,fun p0 us0 ps H1 S1 g0 hs0 hl0 hp0=>?_⟩;have yl:=Paired.length hs0;refine⟨_,rfl,p0,rfl,⟨_,SqL.of g0⟩,?_⟩;refine bZ (K:=K) (a:=p0) (xs:=us0) (fun k ys' H'=>DN H1 H'/\ys'.length<=k/\SsL H' ys' ((ps.take k).map (qf ws))) ⟨DN.refl _,zU _,.nil⟩ (fun k ys' H' hk z=>z.2.1) (au (by lia)) (fun k ys' H' hk z=>SqL.of (z.1 _ _ g0)) (fun k v ys' H' hv z=>?_) (fun ys' H' z p hp=>?_)
 ·obtain⟨z1,z2,z3⟩:=z;have hk:k<us0.length:=(Ai.mp hv).1;obtain⟨⟨i,j⟩,a,es,rfl,ha⟩:=Stp.at hs0 hv;obtain⟨hi,hj,_⟩:=(hp0 i j).mp (Aq es);have et:ps.take (k+1)=ps.take k++[(i,j)]:=by rw[Au,es];rfl
  have gl:=z1 _ _ (S1 _ _ hl);have li:=hw.l40 _ (aw hi);have lj:=hw.l40 _ (aw hj);refine⟨a,_,rfl,SqT.of (z1 _ _ ha),rfl,_,_,rfl,_,_,rfl,rfl,?_⟩;refine⟨_,rfl,_,rfl,l,_,_,_,rfl,rfl,SqL.of gl,bq hi,_,rfl,_,rfl,l,_,_,_,rfl,rfl,SqL.of gl,bq hj,txt (ws.getD j []),rfl,au (by show(ws.getD j []).length<=1000000;lia),_,rfl,txt (ws.getD i []),rfl,au (by show(ws.getD i []).length<=1000000;lia),?_⟩;rw[show Txt.slice (txt (ws.getD i [])) (some (((txt (ws.getD j [])).length:Nat):Int)) none=txt ((ws.getD i []).drop (ws.getD j []).length) from bw _ _];refine⟨_,rfl,_,rfl,l,_,_,_,rfl,rfl,SqL.of gl,bq hi,txt (ws.getD i []),rfl,au (by show(ws.getD i []).length<=1000000;lia),?_⟩;refine⟨_,rfl,au (by show 1<=1000000;decide),fun la nla=>⟨_,rfl,au (by show 1<=1000000;decide),fun lb nlb=>⟨au (by show 3<=1000000;decide),fun pf npf=>⟨au (by show 2<=1000000;decide),fun pp npp=>?_⟩⟩⟩⟩;have S2:=af nla (.lst [.int (i:Int)]);have S3:=af nlb (.lst [.int (j:Int)]);have S4:=af npf (.tup [.int (((txt (ws.getD i [])).length:Nat):Int),.ref la,.ref lb]);have S5:=af npp (.tup [.str (txt ((ws.getD i []).drop (ws.getD j []).length)),.ref pf]);have SS:=S2.trans (S3.trans (S4.trans S5));refine Nx.mk hk ⟨z1.trans SS,by rw[zW];exact DA z2,?_⟩;rw[et,An];exact Paired.snoc (SsL.mono SS z3) ⟨pp,.ref pf,rfl,ae,pf,la,lb,rfl,S5 _ _ ae,S5 _ _ (S4 _ _ (S3 _ _ ae)),S5 _ _ (S4 _ _ ae)⟩
 obtain⟨z1,z2,z3⟩:=z;rw[yl,Ap (zU _)] at z3;refine q p ys' _ _ (S1.trans (z1.trans (af hp _))) ae (SsL.mono (af hp _) z3) (by rw[zV];exact hl0) (fun s hs=>?_) fun i j x hi hj ne e=>?_
 ·obtain⟨⟨i,j⟩,hm,rfl⟩:=Ae.mp hs;obtain⟨hi,hj,ne,z,e⟩:=(hp0 i j).mp hm;have ez:(ws.getD i []).drop (ws.getD j []).length=z:=by rw[e];exact AU
  refine⟨?_,?_,hw.l40 _ (aw hi)⟩
  ·show Trk ws ((ws.getD i []).drop (ws.getD j []).length) _;rw[ez];exact nE hi hj ne e
  ·exact⟨_,aw hi,ws.getD j [],by show _=_++(ws.getD i []).drop (ws.getD j []).length;rw[ez];exact e⟩
 ·refine⟨qf ws (i,j),Ae.mpr ⟨_,(hp0 i j).mpr ⟨hi,hj,ne,x,e⟩,rfl⟩,?_,rfl⟩;show(ws.getD i []).drop (ws.getD j []).length=x;rw[e];exact AU
theorem je{ws:List (List Nat)}(h1:∀cs∈ws,1<=cs.length):∀(t:List Nat),(∀i∈t,i<ws.length)->t.length<=(bj ws t).length
 |[],_=>zU _
 |i::t,h=>by
  have a1:=je h1 t fun j hj=>h j (Af _ hj);have a2:=h1 _ (aw (h i zX));rw[aH,zW,AE];lia
theorem rT{ws:List (List Nat)}{x:List Nat}{f:Fd}(hw:Wds ws)(h:Trk ws x f):f.2.1.length<=f.1/\f.2.2.length<=f.1:=by
 have a1:=je hw.l1 f.2.1 h.a;have a2:=je hw.l1 f.2.2 h.b;have e:=congrArg List.length h.eq;rw[zW] at e;have:=h.len;lia
theorem qP{ws:List (List Nat)}{x:List Nat}(hw:Wds ws)(h:Sfx ws x):x.length<=40:=by
 obtain⟨w,hm,z,e⟩:=h;have:=hw.l40 w hm;rw[e,zW] at this;lia
theorem kY{ws:List (List Nat)}{x y:List Nat}{f:Fd}{n:Nat}(h:Trk ws x f)(hs:Sfx ws x)(hn:n<ws.length)(e:x=ws.getD n []++y):Trk ws y (f.1,f.2.1,f.2.2++[n])/\Sfx ws y:=by
 obtain⟨i,j,s,t,e1,e2,ne⟩:=h.ne;refine⟨⟨h.a,fun k hk=>?_,⟨i,j,s,t++[n],e1,?_,ne⟩,?_,h.len⟩,?_⟩
 ·rcases zZ.mp hk with hk|hk
  ·exact h.b k hk
  ·rw[zY.mp hk];exact hn
 ·show f.2.2++[n]=_;rw[e2];rfl
 ·show bj ws f.2.1=bj ws (f.2.2++[n])++y;rw[fG,h.eq,e,AF]
 ·obtain⟨w,hm,z,ez⟩:=hs;exact⟨w,hm,z++ws.getD n [],by rw[ez,e,AF]⟩
theorem kI{ws:List (List Nat)}{x y:List Nat}{f:Fd}{n:Nat}(h:Trk ws x f)(hn:n<ws.length)(e:ws.getD n []=x++y):Trk ws y (f.1+y.length,f.2.2++[n],f.2.1)/\Sfx ws y:=by
 obtain⟨i,j,s,t,e1,e2,ne⟩:=h.ne;have eq:bj ws (f.2.2++[n])=bj ws f.2.1++y:=by rw[fG,h.eq,e,AF]
 refine⟨⟨fun k hk=>?_,h.a,⟨j,i,t++[n],s,?_,e1,Dw ne⟩,eq,?_⟩,_,aw hn,x,e⟩
 ·rcases zZ.mp hk with hk|hk
  ·exact h.b k hk
  ·rw[zY.mp hk];exact hn
 ·show f.2.2++[n]=_;rw[e2];rfl
 ·show f.1+y.length=(bj ws (f.2.2++[n])).length;rw[eq,zW,h.len]
def wiS (ws:List (List Nat))(x:List Nat)(n0:Nat)(a b:List Nat)(n:Nat):List Nat×Fd:=(x.drop (ws.getD n []).length,n0,a,b++[n])
def beS (ws:List (List Nat))(x:List Nat)(n0:Nat)(a b:List Nat)(n:Nat):List Nat×Fd:=((ws.getD n []).drop x.length,n0+((ws.getD n []).drop x.length).length,b++[n],a)
abbrev BeL(H:Hp)(us:List V)(bs:List (List Nat×Nat)):Prop:=Paired (fun v b=>∃p,v=.ref p/\H p=some (.tup [.str (txt (b:List Nat×Nat).1),.int ((b.2:Nat):Int)])) us bs
theorem BeL.mono{H H':Hp}(S:DN H H'){us:List V}{bs:List (List Nat×Nat)}(h:BeL H us bs):BeL H' us bs:=Paired.EF h fun v s hq95=>by obtain⟨p,e,g⟩:=hq95;exact⟨p,e,S _ _ g⟩
theorem eK{α β:Type}{R:α->β->Prop}:∀{xs:List α}{ys:List β}{i:Nat}{x:α},Paired R xs ys->xs[i]?=some x->∃y,ys[i]?=some y/\R x y
 |_,_,_,_,.nil,h=>by cases h
 |_,_,0,x,.cons r _,h=>by cases h;exact⟨_,rfl,r⟩
 |_,_,i+1,x,.cons _ p,h=>eK (i:=i) p h
theorem cW{α β:Type}{R:α->β->Prop}:∀{xs:List α}{ys:List β}{xs':List α}{ys':List β},Paired R xs ys->Paired R xs' ys'->Paired R (xs++xs') (ys++ys')
 |_,_,_,_,.nil,h=>h
 |_,_,_,_,.cons a r,h=>.cons a (cW r h)
theorem wB{H:Hp}{us:List V}{js:List Nat}{g:Nat->List Nat}{k:Nat}{v:V}(h:BeL H us (js.map fun n=>(g n,n)))(hv:us[k]?=some v):∃n,js[k]?=some n/\∃p,v=.ref p/\H p=some (.tup [.str (txt (g n)),.int ((n:Nat):Int)]):=by
 obtain⟨y,hy,p,e,hp⟩:=eK h hv;rw[Ao] at hy;obtain⟨n,hn,rfl⟩:=Be.mp hy;exact⟨n,hn,p,e,hp⟩
theorem vk{os:List Nat}{k:Nat}{v:V}(h:(iv os)[k]?=some v):∃n,os[k]?=some n/\v=.int ((n:Nat):Int):=by
 rw[Ao,Ao] at h;obtain⟨i,h1,rfl⟩:=Be.mp h;obtain⟨n,h2,rfl⟩:=Be.mp h1;exact⟨n,h2,rfl⟩
def KA:Sp:=fun vs H Q _=>∃l ws x v f,vs=[.ref l,.str (txt x),v]/\H l=some (.lst (ao ws))/\Wds ws/\Fy H v f/\Trk ws x f/\Sfx ws x/\f.1<=100000/\∀p us ss H',DN H H'->H' p=some (.lst us)->SsL H' us ss->ss.length<=64->(∀s∈ss,Trk ws s.1 s.2/\Sfx ws s.1/\f.1<=s.2.1/\s.2.1<=f.1+40) ->
 (∀k y,k<ws.length->x=ws.getD k []++y->∃s∈ss,s.1=y/\s.2.1=f.1)->(∀k y,k<ws.length->ws.getD k []=x++y->∃s∈ss,s.1=y/\s.2.1=f.1+y.length)->Q (.ref p) H'
theorem vK{dw db d:DD}(yO:(dg "words_within" 33 ["words","text"] dw 1 JC))(yN:(dg "words_beyond" 34 ["words","text"] db 1 Jf))(D:Def K mg "next_steps" (top 36) ["words","left","found"] d)(xf:mg "len"=none):(fk 2 d ["words","left","found"] KA):=by
 exists["words","left","found","length","ahead","behind","within","beyond"]
 obtain⟨l,ws,x,v,f,rfl,hl,hw,hf,ht,hsx,hfb,q⟩:=h;have h8:=hw.n8;refine⟨_,(ag (du (2) (dq (av (al 3) (av (al 4) (av (al 5) (DW _)))))) (ag (bY 6 (ak (ts:=["number"]) (cap:=["words","left","length","ahead","behind"]) (js:=[0,1,3,4,5]) rfl rfl rfl rfl rfl rfl (by decide +kernel)) (aJ (aY yO.1 yO.2 (DJ (0) (aG (1) ax) ax))) (ad 0 (nd ["number","words","left","length","ahead","behind"])) (@aR _) (aN (DJ (aV Ei (2) (bo (aM DM xf (aK (show IxR _ (iQ K) from DO) (1) (0)) (by rfl))) (Ea _)) (aG (aN (DJ (3) (DJ (4) (aG (aA Ff (5) (aS (aG (0) ax))) (by rfl)) ax) ax)) (by rfl)) (by rfl)))) (ag (bY 7 (ak (ts:=["number"]) (cap:=["words","left"]) (js:=[0,1]) rfl rfl rfl rfl rfl rfl (by decide +kernel)) (aJ (aY yN.1 yN.2 (DJ (0) (aG (1) ax) ax))) (ad 0 (nd ["number","words","left"])) (@aR _) (aN (DJ (aV Ei (aK (show IxR _ (iQ K) from DO) (1) (0)) (bo (aM DM xf (2) ax)) (Ea _)) (aG (0) ax) (by rfl)))) (ai (aC (aA Ff (6) (aO (ak (ts:=["over","number"]) (cap:=["length","ahead","behind"]) (js:=[3,4,5]) rfl rfl rfl rfl rfl rfl (by decide +kernel)) (aJ (7)) (@ck _ _ _ _ _ 2 K rfl hc (av (ad 0 (nd ["over","number","length","ahead","behind"])) (av (ad 1 (nd ["over","number","length","ahead","behind"])) (DW _))) (by rfl) (by rfl)) (@aR _) (aN (DJ (0) (aG (aN (DJ (aA DV (2) (aM DM xf (0) ax)) (DJ (aA Ff (4) (aS (aG (1) ax))) (aG (3) ax) (by rfl)) (by rfl))) (by rfl)) ax))))))))),?_⟩
 walk_at "d"
 obtain⟨pf,la,lb,rfl,gf,ga,gb⟩:=hf;have hbl:=rT hw ht;have xl:x.length<=40:=qP hw hsx;obtain⟨n0,a,b⟩:=f;have hfb:n0<=100000:=hfb;have hbl:a.length<=n0/\b.length<=n0:=hbl;have ga:H la=some (.lst (iv a)):=ga;have gb:H lb=some (.lst (iv b)):=gb;refine⟨_,rfl,pf,_,rfl,SqT.of gf,rfl,_,_,rfl,_,_,rfl,_,_,rfl,rfl,?_⟩;refine⟨_,rfl,_,rfl,l,ws,x,rfl,hl,hw,fun p1 is H1 S1 g1 n1 hi1=>⟨p1,rfl,⟨_,SqL.of g1⟩,?_⟩⟩;refine bZ (K:=K) (a:=p1) (xs:=iv is) (fun k ys' H'=>DN H1 H'/\ys'.length<=k/\SsL H' ys' ((is.take k).map (wiS ws x n0 a b))) ⟨DN.refl _,zU _,.nil⟩ (fun k ys' H' hk z=>z.2.1) (au (by rw[eS];lia)) (fun k ys' H' hk z=>SqL.of (z.1 _ _ g1)) (fun k v ys' H' hv z=>?_) (fun ys2 H2 z p2 hp2=>?_)
 ·obtain⟨z1,z2,z3⟩:=z;have hk:k<(iv is).length:=(Ai.mp hv).1;obtain⟨n,en,rfl⟩:=vk hv;obtain⟨hn,y,ey⟩:=(hi1 n).mp (Aq en);have et:is.take (k+1)=is.take k++[n]:=by rw[Au,en];rfl
  have gl:=z1 _ _ (S1 _ _ hl);have ln:=hw.l40 _ (aw hn);refine⟨_,rfl,_,rfl,_,rfl,l,_,_,_,rfl,rfl,SqL.of gl,bq hn,txt (ws.getD n []),rfl,au (by show(ws.getD n []).length<=1000000;lia),_,rfl,txt x,rfl,au (by show x.length<=1000000;lia),?_⟩;rw[show Txt.slice (txt x) (some (((txt (ws.getD n [])).length:Nat):Int)) none=txt (x.drop (ws.getD n []).length) from bw _ _];refine⟨_,rfl,_,rfl,_,rfl,_,rfl,au (by show 1<=1000000;decide),fun l1 nl1=>?_⟩;have S2:=af nl1 (.lst [.int (n:Int)]);refine⟨lb,l1,_,_,rfl,rfl,S2 _ _ (z1 _ _ (S1 _ _ gb)),ae,au (by rw[eS];show b.length+1<=1000000;lia),fun l2 nl2=>⟨au (by show 3<=1000000;decide),fun p3 np3=>⟨au (by show 2<=1000000;decide),fun p4 np4=>?_⟩⟩⟩;rw[gL] at np3 np4 ⊢;have S3:=af nl2 (.lst (iv (b++[n])));have S4:=af np3 (.tup [.int ((n0:Nat):Int),.ref la,.ref l2]);have S5:=af np4 (.tup [.str (txt (x.drop (ws.getD n []).length)),.ref p3]);have SS:=S2.trans (S3.trans (S4.trans S5));refine Nx.mk hk ⟨z1.trans SS,by rw[zW];exact DA z2,?_⟩;rw[et,An];exact Paired.snoc (SsL.mono SS z3) ⟨p4,.ref p3,rfl,ae,p3,la,l2,rfl,S5 _ _ ae,SS _ _ (z1 _ _ (S1 _ _ ga)),S5 _ _ (S4 _ _ ae)⟩
 obtain⟨z1,z2,z3⟩:=z;rw[eS,Ap (zU _)] at z3;have S2:=af hp2 (.lst ys2);have g2:upd H2 p2 (.lst ys2) p2=some (.lst ys2):=ae;have hs2:=SsL.mono S2 z3;have SA:=S1.trans (z1.trans S2);generalize upd H2 p2 (.lst ys2)=H3 at g2 hs2 SA ⊢;clear z1 z2 z3 S2 hp2;refine⟨_,rfl,_,rfl,l,ws,x,rfl,SA _ _ hl,hw,fun q1 js H4 S4 gq nq hj1=>⟨q1,rfl,⟨_,SqL.of gq⟩,?_⟩⟩;refine bZ (K:=K) (a:=q1) (xs:=iv js) (fun k ys' H'=>DN H4 H'/\ys'.length<=k/\BeL H' ys' ((js.take k).map fun n=>((ws.getD n []).drop x.length,n))) ⟨DN.refl _,zU _,.nil⟩ (fun k ys' H' hk z=>z.2.1) (au (by rw[eS];lia)) (fun k ys' H' hk z=>SqL.of (z.1 _ _ gq)) (fun k v ys' H' hv z=>?_) (fun ys5 H5 z p5 hp5=>?_)
 ·obtain⟨z1,z2,z3⟩:=z;have hk:k<(iv js).length:=(Ai.mp hv).1;obtain⟨n,en,rfl⟩:=vk hv;obtain⟨hn,y,ey⟩:=(hj1 n).mp (Aq en);have et:js.take (k+1)=js.take k++[n]:=by rw[Au,en];rfl
  have gl:=z1 _ _ (S4 _ _ (SA _ _ hl));have ln:=hw.l40 _ (aw hn);refine⟨_,rfl,_,rfl,l,_,_,_,rfl,rfl,SqL.of gl,bq hn,_,rfl,txt x,rfl,au (by show x.length<=1000000;lia),_,rfl,txt (ws.getD n []),rfl,au (by show(ws.getD n []).length<=1000000;lia),?_⟩;rw[show Txt.slice (txt (ws.getD n [])) (some (((txt x).length:Nat):Int)) none=txt ((ws.getD n []).drop x.length) from bw _ _];refine⟨_,rfl,au (by show 2<=1000000;decide),fun p4 np4=>?_⟩;have S5:=af np4 (.tup [.str (txt ((ws.getD n []).drop x.length)),.int (n:Int)]);refine Nx.mk hk ⟨z1.trans S5,by rw[zW];exact DA z2,?_⟩;rw[et,An];exact Paired.snoc (BeL.mono S5 z3) ⟨p4,rfl,ae⟩
 obtain⟨z1,z2,z3⟩:=z;rw[eS,Ap (zU _)] at z3;have S5:=af hp5 (.lst ys5);have g5:upd H5 p5 (.lst ys5) p5=some (.lst ys5):=ae;have hs5:=BeL.mono S5 z3;have SB:=S4.trans (z1.trans S5);generalize upd H5 p5 (.lst ys5)=H6 at g5 hs5 SB ⊢;clear z1 z2 z3 S5 hp5;have yl5:=Paired.length hs5;rw[zV] at yl5;refine⟨_,rfl,_,rfl,p5,rfl,⟨_,SqL.of g5⟩,?_⟩;refine bZ (K:=K) (a:=p5) (xs:=ys5) (fun k ys' H'=>DN H6 H'/\ys'.length<=k/\SsL H' ys' ((js.take k).map (beS ws x n0 a b))) ⟨DN.refl _,zU _,.nil⟩ (fun k ys' H' hk z=>z.2.1) (au (by lia)) (fun k ys' H' hk z=>SqL.of (z.1 _ _ g5)) (fun k v ys' H' hv z=>?_) (fun ys7 H7 z p7 hp7=>?_)
 ·obtain⟨z1,z2,z3⟩:=z;have hk:k<ys5.length:=(Ai.mp hv).1;obtain⟨n,en,pe,rfl,hpe⟩:=wB hs5 hv;obtain⟨hn,y,ey⟩:=(hj1 n).mp (Aq en);have et:js.take (k+1)=js.take k++[n]:=by rw[Au,en];rfl
  have ln:=hw.l40 _ (aw hn);have ld:((ws.getD n []).drop x.length).length<=40:=by rw[Cp];lia
  refine⟨pe,_,rfl,SqT.of (z1 _ _ hpe),rfl,_,_,rfl,_,_,rfl,rfl,?_⟩;refine⟨_,rfl,_,rfl,_,rfl,txt ((ws.getD n []).drop x.length),rfl,au (by show((ws.getD n []).drop x.length).length<=1000000;lia),_,_,rfl,rfl,?_⟩;refine⟨_,rfl,_,rfl,au (by show 1<=1000000;decide),fun l1 nl1=>?_⟩;have S2:=af nl1 (.lst [.int (n:Int)]);refine⟨lb,l1,_,_,rfl,rfl,S2 _ _ (z1 _ _ (SB _ _ (SA _ _ gb))),ae,au (by rw[eS];show b.length+1<=1000000;lia),fun l2 nl2=>⟨_,rfl,au (by show 3<=1000000;decide),fun p3 np3=>⟨au (by show 2<=1000000;decide),fun p4 np4=>?_⟩⟩⟩;rw[gL] at np3 np4 ⊢;have S3:=af nl2 (.lst (iv (b++[n])));have S4:=af np3 (.tup [.int (((n0:Nat):Int)+(((txt ((ws.getD n []).drop x.length)).length:Nat):Int)),.ref l2,.ref la]);have S5:=af np4 (.tup [.str (txt ((ws.getD n []).drop x.length)),.ref p3]);have SS:=S2.trans (S3.trans (S4.trans S5));refine Nx.mk hk ⟨z1.trans SS,by rw[zW];exact DA z2,?_⟩;rw[et,An];exact Paired.snoc (SsL.mono SS z3) ⟨p4,.ref p3,rfl,ae,p3,l2,la,rfl,S5 _ _ ae,S5 _ _ (S4 _ _ ae),SS _ _ (z1 _ _ (SB _ _ (SA _ _ ga)))⟩
 obtain⟨z1,z2,z3⟩:=z;rw[yl5,Ap (zU _)] at z3;have S7:=af hp7 (.lst ys7);have hs7:=SsL.mono S7 z3;have hs2':=SsL.mono (SB.trans (z1.trans S7)) hs2;have l2:=Paired.length hs2;have l7:=Paired.length z3;rw[zV] at l2 l7;refine⟨p2,p7,_,_,rfl,rfl,S7 _ _ (z1 _ _ (SB _ _ g2)),ae,au (by lia),fun p np=>?_⟩;have S8:=af np (.lst (ys2++ys7));refine q p _ _ _ (SA.trans (SB.trans (z1.trans (S7.trans S8)))) ae (SsL.mono S8 (cW hs2' hs7)) (by rw[zW,zV,zV];lia) (fun s hs=>?_) (fun n y hn e=>?_) fun n y hn e=>?_
 ·rcases zZ.mp hs with hs|hs
  ·obtain⟨n,hm,rfl⟩:=Ae.mp hs;obtain⟨hn,y,e⟩:=(hi1 n).mp hm;have ez:x.drop (ws.getD n []).length=y:=by rw[e];exact AU
   obtain⟨t1,t2⟩:=kY ht hsx hn e;have t1:Trk ws y (n0,a,b++[n]):=t1;refine⟨?_,?_,zU _,Ce _ _⟩
   ·show Trk ws (x.drop (ws.getD n []).length) _;rw[ez];exact t1
   ·show Sfx ws (x.drop (ws.getD n []).length);rw[ez];exact t2
  ·obtain⟨n,hm,rfl⟩:=Ae.mp hs;obtain⟨hn,y,e⟩:=(hj1 n).mp hm;have ez:(ws.getD n []).drop x.length=y:=by rw[e];exact AU
   obtain⟨t1,t2⟩:=kI ht hn e;have t1:Trk ws y (n0+y.length,b++[n],a):=t1;have ln:=hw.l40 _ (aw hn);have ly:y.length<=40:=by rw[e,zW] at ln;lia
   refine⟨?_,?_,?_,?_⟩
   ·show Trk ws ((ws.getD n []).drop x.length) (n0+((ws.getD n []).drop x.length).length,_,_);rw[ez];exact t1
   ·show Sfx ws ((ws.getD n []).drop x.length);rw[ez];exact t2
   ·exact Ce _ _
   ·show n0+((ws.getD n []).drop x.length).length<=n0+40;rw[ez];lia
 ·refine⟨wiS ws x n0 a b n,Aw _ (Ae.mpr ⟨n,(hi1 n).mpr ⟨hn,y,e⟩,rfl⟩),?_,rfl⟩;show x.drop (ws.getD n []).length=y;rw[e];exact AU
 ·have ez:(ws.getD n []).drop x.length=y:=by rw[e];exact AU
  refine⟨beS ws x n0 a b n,Ab _ (Ae.mpr ⟨n,(hj1 n).mpr ⟨hn,y,e⟩,rfl⟩),ez,?_⟩;show n0+((ws.getD n []).drop x.length).length=n0+y.length;rw[ez]
open KM
abbrev Ee(H:Hp)(kvs:List (Key×V))(E:KM.Ent):Prop:=Paired (fun kv e=>(kv:Key×V).1=.inr (txt (e:List Nat×Fd).1)/\Fy H kv.2 e.2) kvs E
theorem Ee.mono{H H':Hp}(S:DN H H'){kvs:List (Key×V)}{E:KM.Ent}(h:Ee H kvs E):Ee H' kvs E:=Paired.EF h fun kv e z=>⟨z.1,z.2.mono S⟩
theorem EB{x y:List Nat}:(Sum.inr (txt x):Key)=.inr (txt y)↔x=y:=⟨fun h=>cz (Sum.inr.inj h),fun h=>by rw[h]⟩
theorem kA{H:Hp}{x:List Nat}:∀{kvs:List (Key×V)}{E:KM.Ent},Ee H kvs E->hZ E x=none->dZ kvs (.inr (txt x))=none
 |_,_,.nil,_=>rfl
 |_,_,.cons (l₁:=kvs) (a:=kv) (b:=e) ⟨h1,h2⟩ r,h=>by
  have ne:e.1≠x:=iX h e zX;rw[bE (by rw[h1];exact fun z=>ne (EB.mp z))];refine kA r ?_;unfold hZ at h ⊢;rw[Ba,De ne] at h;exact h
theorem eV{H:Hp}{x:List Nat}{f:Fd}:∀{kvs:List (Key×V)}{E:KM.Ent},Ee H kvs E->hZ E x=some f->∃v,dZ kvs (.inr (txt x))=some v/\Fy H v f
 |_,_,.nil,h=>by cases h
 |_,_,.cons (a:=kv) (b:=e) ⟨h1,h2⟩ r,h=>by
  by_cases ne:e.1=x
  ·rw[bF (by rw[h1,ne])];unfold hZ at h;rw[Ba,Dd ne] at h;have:e.2=f:=Dj h;rw[<- this];exact⟨_,rfl,h2⟩
  ·rw[bE (by rw[h1];exact fun z=>ne (EB.mp z))];refine eV r ?_;unfold hZ at h ⊢;rw[Ba,De ne] at h;exact h
theorem nr{H:Hp}{x:List Nat}:∀{kvs:List (Key×V)}{E:KM.Ent},Ee H kvs E->(kvs.any fun kv=>decide (kv.1=.inr (txt x)))=(E.any fun e=>decide (e.1=x))
 |_,_,.nil=>rfl
 |_,_,.cons ⟨h1,h2⟩ r=>by
  rw[Bp,Bp,nr r,h1]
  congr 1
  exact decide_eq_decide.mpr EB
theorem lY{H:Hp}{x:List Nat}{v:V}{f:Fd}(hv:Fy H v f):∀{kvs:List (Key×V)}{E:KM.Ent},Ee H kvs E->Ee H (kvs.map fun kv=>if kv.1=.inr (txt x) then (kv.1,v) else kv) (E.map fun e=>if e.1=x then (e.1,f) else e)
 |_,_,.nil=>.nil
 |_,_,.cons (a:=kv) (b:=e) ⟨h1,h2⟩ r=>by
  refine .cons ?_ (lY hv r);show(if kv.1=.inr (txt x) then (kv.1,v) else kv).1=.inr (txt (if e.1=x then (e.1,f) else e).1)/\Fy H (if kv.1=.inr (txt x) then (kv.1,v) else kv).2 (if e.1=x then (e.1,f) else e).2;by_cases c:e.1=x
  ·rw[Dc c,Dc (by rw[h1,c])];exact⟨h1,hv⟩
  ·rw[CZ c,CZ (by rw[h1];exact fun z=>c (EB.mp z))];exact⟨h1,h2⟩
theorem mj{H:Hp}{x:List Nat}{v:V}{f:Fd}{kvs:List (Key×V)}{E:KM.Ent}(h:Ee H kvs E)(hv:Fy H v f):Ee H (fL kvs (.inr (txt x)) v) (jW E x f):=by
 unfold fL jW;rw[nr h];split
 ·exact lY hv h
 ·exact cW h (.cons ⟨rfl,hv⟩ .nil)
theorem ku{H:Hp}{x:List Nat}:∀{kvs:List (Key×V)}{E:KM.Ent},Ee H kvs E->Ee H (cJ kvs (.inr (txt x))) (eR E x)
 |_,_,.nil=>.nil
 |_,_,.cons (a:=kv) (b:=e) ⟨h1,h2⟩ r=>by
  have ih:=ku (x:=x) r;unfold cJ eR at ih ⊢;rw[AQ,AQ];by_cases c:e.1=x
  ·rw[De (fun z=>z (by rw[h1,c])),De (fun z=>z c)];exact ih
  ·rw[Dd (show kv.1≠_ by rw[h1];exact fun z=>c (EB.mp z)),Dd c];exact .cons ⟨h1,h2⟩ ih
def dnK (dn:List (List Nat)):List (Key×V):=dn.map fun x=>(.inr (txt x),.bl true)
theorem qe(x:List Nat):∀dn:List (List Nat),(dZ (dnK dn) (.inr (txt x))).isSome=decide (x∈dn)
 |[]=>by rfl
 |y::r=>by
  have ih:=qe x r;show(dZ ((.inr (txt y),.bl true)::dnK r) (.inr (txt x))).isSome=_;by_cases c:y=x
  ·rw[bF (by rw[c]),c];simp
  ·rw[bE (fun z=>c (EB.mp z)),ih];refine decide_eq_decide.mpr ⟨fun z=>Af _ z,fun z=>(Ad.mp z).elim (fun q=>absurd q.symm c) id⟩
theorem vi{x:List Nat}{dn:List (List Nat)}(h:x∉dn):fL (dnK dn) (.inr (txt x)) (.bl true)=dnK (dn++[x]):=by
 have e:((dnK dn).any fun kv=>decide (kv.1=.inr (txt x)))=false:=by
  rw[Cj];intro kv hk;obtain⟨y,hy,rfl⟩:=Ae.mp hk;intro z;have:y=x:=EB.mp (Dh z);rw[this] at hy;exact h hy
 unfold fL;rw[e];show dnK dn++[_]=_;unfold dnK;rw[An];rfl
theorem Fy.upd{H:Hp}{a:Addr}{kvs:List (Key×V)}{o:HO}(ha:H a=some (.dK kvs)){v:V}{f:Fd}(h:Fy H v f):Fy (L2.upd H a o) v f:=by
 obtain⟨p,la,lb,h1,h2,h3,h4⟩:=h;have n:∀b u,H b=some u->u≠.dK kvs->b≠a:=fun b u e ne z=>by rw[z,ha] at e;exact ne (Dj e).symm
 exact⟨p,la,lb,h1,by rw[ar (n _ _ h2 (fun z=>by cases z))];exact h2,by rw[ar (n _ _ h3 (fun z=>by cases z))];exact h3,by rw[ar (n _ _ h4 (fun z=>by cases z))];exact h4⟩
theorem SsL.upd{H:Hp}{a:Addr}{kvs:List (Key×V)}{o:HO}(ha:H a=some (.dK kvs)){us:List V}{ss:List (List Nat×Fd)}(h:SsL H us ss):SsL (L2.upd H a o) us ss:=Paired.EF h fun v s ⟨p,u,h1,h2,h3⟩=>
 ⟨p,u,h1,by rw[ar (fun z=>by rw[z,ha] at h2;cases h2)];exact h2,h3.upd ha⟩
theorem Ee.upd{H:Hp}{a:Addr}{kvs0:List (Key×V)}{o:HO}(ha:H a=some (.dK kvs0)){kvs:List (Key×V)}{E:KM.Ent}(h:Ee H kvs E):Ee (L2.upd H a o) kvs E:=Paired.EF h fun kv e z=>⟨z.1,z.2.upd ha⟩
theorem vj{H:Hp}{a:Addr}{o:HO}(h:H a=some o):L2.upd H a o=H:=by
 funext b
 by_cases e:b=a
 ·rw[e,ae,h]
 ·rw[ar e]
theorem jZ{dn:List (List Nat)}:∀(ss:List (List Nat×Fd))(E:KM.Ent),(ss.foldl (bB dn) E).length<=E.length+ss.length
 |[],E=>zU _
 |s::r,E=>by
  have h1:=jZ (dn:=dn) r (bB dn E s);have h2:(bB dn E s).length<=E.length+1:=by
   rcases bT dn E s with ⟨_,e⟩|⟨_,_,e⟩|⟨_,_,e⟩
   ·rw[e];lia
   ·rw[e];lia
   ·rw[e];unfold jW;split
    ·rw[zV];lia
    ·rw[zW];exact zU _
  rw[Bv,AE];lia
def Kw:Sp:=fun vs H Q _=>∃a b l kvs E dn us ss,vs=[.ref a,.ref b,.ref l]/\H a=some (.dK kvs)/\Ee H kvs E/\a≠b/\H b=some (.dK (dnK dn))/\H l=some (.lst us)/\SsL H us ss/\E.length+ss.length<=1000 /\
 ∀kvs' H',H'=upd H a (.dK kvs')->Ee H' kvs' (ss.foldl (bB dn) E)->Q .non H'
theorem wc{d:DD}(D:Def K mg "keep_shorter" (top 37) ["waiting","done","steps"] d):(fk 1 d ["waiting","done","steps"] Kw):=by
 exists["waiting","done","steps","left","found"]
 obtain⟨a,b,l,kvs,E',dn,us,ss,rfl,ha,hE,nab,hb,hl,hS,hz,q⟩:=h;refine⟨_,(ai (bV (aJ (2)) (dq (av (aj 3) (av (aj 4) (DW _)))) (ai (br (@PW.pt _ _ _ (kB (nU (fA (ie hr) (3) (1)) (by first|exact dU _ (by decide) (by decide)|rfl)) (gm (@PW.pt _ _ _ (jc (nU (fA (ie hr) (3) (0)) (by first|exact dU _ (by decide) (by decide)|rfl)) (fU (aB HB (aK Ek (4) (ah _)) (aK Ek (jK (ie hr) (0) (3)) (ah _)) (aE _)))))))) (ai (jE (ie hr) (0) (3) (4))) (DR _))))),?_⟩
 walk_at "d"
 have yl:=Paired.length hS;refine⟨_,rfl,l,rfl,⟨_,SqL.of hl⟩,?_⟩;have nla:l≠a:=dg hl ha (fun z=>by cases z);refine cu (K:=K) (a:=l) (xs:=us) (fun i σ H'=>∃e3 e4 kvs',σ=[some (.ref a),some (.ref b),some (.ref l),e3,e4]/\H'=upd H a (.dK kvs')/\Ee H' kvs' ((ss.take i).foldl (bB dn) E')) ⟨_,_,kvs,rfl,(vj ha).symm,hE⟩ (fun i σ H' hi z=>?_) (fun i v σ H' hv z=>?_) (fun σ H' z=>?_)
 ·obtain⟨_,_,kvs',_,rfl,_⟩:=z;exact SqL.of (by rw[ar nla];exact hl)
 ·obtain⟨e3,e4,kvs',rfl,eH,hE'⟩:=z;have hi:i<us.length:=(Ai.mp hv).1;obtain⟨s0,es,p,u,rfl,hp,hu⟩:=eK (by rw[eH];exact SsL.upd ha hS:SsL H' us ss) hv;have ha':H' a=some (.dK kvs'):=by rw[eH];exact ae
  have hb':H' b=some (.dK (dnK dn)):=by rw[eH,ar (Dw nab)];exact hb
  have et:(ss.take (i+1)).foldl (bB dn) E'=bB dn ((ss.take i).foldl (bB dn) E') s0:=by rw[Au,es,List.foldl_append];rfl
  have few:kvs'.length<sizeLine:=by
   rw[Paired.length hE'];have:=jZ (dn:=dn) (ss.take i) E';rw[Az] at this;exact Bi (show _<=1000 by lia) (by decide)
  generalize (ss.take i).foldl (bB dn) E'=Ec at hE' et;refine⟨p,_,rfl,SqT.of hp,rfl,_,_,rfl,_,_,rfl,rfl,?_⟩;refine⟨_,rfl,_,rfl,b,_,rfl,FP.k (k:=.inr (txt s0.1)) hb',_,rfl,?_⟩;rw[qe];by_cases hd:s0.1∈dn
  ·rw[Dd hd];refine⟨_,_,kvs',rfl,eH,?_⟩;rw[et];unfold bB;rw[Dc hd];exact hE'
  rw[De hd];refine⟨_,rfl,_,rfl,a,_,rfl,FP.k (k:=.inr (txt s0.1)) ha',_,rfl,?_⟩;cases hg:hZ Ec s0.1 with
  |none=>
   rw[kA hE' hg];refine⟨_,rfl,_,rfl,_,rfl,a,_,rfl,Hy.k (k:=.inr (txt s0.1)) ha' few,?_⟩;refine⟨_,_,_,rfl,by rw[eH,og],?_⟩;rw[et];unfold bB;rw[CZ hd,hg];exact Ee.upd ha' (mj hE' hu)
  |some f=>
   obtain⟨v',hv',hf⟩:=eV hE' hg;rw[hv'];obtain⟨p1,la1,lb1,eu,g1,_,_⟩:=id hu;obtain⟨p2,la2,lb2,ev,g2,_,_⟩:=id hf;have hv2:FP H' a (.str (txt s0.1)) (some v'):=by rw[<- hv'];exact FP.k (k:=.inr (txt s0.1)) ha'
   refine⟨_,rfl,p1,_,0,_,eu,rfl,SqT.of g1,rfl,_,rfl,_,rfl,a,v',rfl,hv2,p2,_,0,_,ev,rfl,SqT.of g2,rfl,_,_,rfl,rfl,decide (s0.2.1<f.1),?_,?_⟩
   ·show V.bl (decide (((s0.2.1:Nat):Int)<((f.1:Nat):Int)))=_
    congr 1
    exact decide_eq_decide.mpr ⟨fun h=>by lia,fun h=>by lia⟩
   by_cases hlt:s0.2.1<f.1
   ·rw[Dd hlt];refine⟨_,rfl,_,rfl,_,rfl,a,_,rfl,Hy.k (k:=.inr (txt s0.1)) ha' few,?_⟩;refine⟨_,_,_,rfl,by rw[eH,og],?_⟩;rw[et];unfold bB;rw[CZ hd,hg];simp only[Dc hlt];exact Ee.upd ha' (mj hE' hu)
   ·rw[De hlt];refine⟨_,_,kvs',rfl,eH,?_⟩;rw[et];unfold bB;rw[CZ hd,hg];simp only[CZ hlt];exact hE'
 ·obtain⟨e3,e4,kvs',rfl,eH,hE'⟩:=z;rw[yl,Ap (zU _)] at hE';exact q kvs' H' eH hE'
open KM
def Fn:Str:="twins_of.<locals>.<lambda>"
def Fx:Pos:=⟨124,32,124,61⟩
def vz (T:Addr):Sp:=fun vs H Q _=>∃l ws,vs=[.ref l]/\H l=some (.lst (ao ws))/\Wds ws/\Ep Fx Fn T H/\(∀dn H',Dij ws dn []->SmB T H H'->Ep Fx Fn T H'->Q .non H') /\
 ∀p la lb a b dn E f H',Dij ws dn E->([],f)∈E->((∀e∈E,f.1<=e.2.1)/\f.1<=100000)->(f.2=(a,b)\/f.2=(b,a))->a.headD 0<b.headD 0->H' p=some (.tup [.ref la,.ref lb])->H' la=some (.lst (iv a))->H' lb=some (.lst (iv b))->SmB T H H'->Ep Fx Fn T H'->Q (.ref p) H'
theorem Fy.smb{H H':Hp}{T:Addr}{ps:Array Value}(hT:H T=some (.tbl ps))(S:SmB T H H'){v:V}{f:Fd}(h:Fy H v f):Fy H' v f:=by
 obtain⟨p,la,lb,h1,h2,h3,h4⟩:=h;have n:∀b u,H b=some u->u≠.tbl ps->b≠T:=fun b u e ne z=>by rw[z,hT] at e;exact ne (Dj e).symm
 exact⟨p,la,lb,h1,S _ _ (n _ _ h2 (fun z=>by cases z)) h2,S _ _ (n _ _ h3 (fun z=>by cases z)) h3,S _ _ (n _ _ h4 (fun z=>by cases z)) h4⟩
theorem Ee.smb{H H':Hp}{T:Addr}{ps:Array Value}(hT:H T=some (.tbl ps))(S:SmB T H H'){kvs:List (Key×V)}{E:KM.Ent}(h:Ee H kvs E):Ee H' kvs E:=Paired.EF h fun kv e z=>⟨z.1,z.2.smb hT S⟩
theorem Ep.upd{pos:Pos}{q:Str}{T a:Addr}{H:Hp}{kvs:List (Key×V)}{o:HO}(h:Ep pos q T H)(ha:H a=some (.dK kvs)):Ep pos q T (L2.upd H a o):=by
 obtain⟨ps,h1,h2,h3⟩:=h.ex;refine⟨ps,by rw[ar (fun z=>by rw[z,ha] at h1;cases h1)];exact h1,h2,?_⟩;rcases h3 with h3|⟨c,h3,h4⟩
 ·exact .inl h3
 ·exact .inr ⟨c,h3,by rw[ar (fun z=>by rw[z,ha] at h4;cases h4)];exact h4⟩
theorem dJ{dn:List (List Nat)}:∀(ss:List (List Nat×Fd)){E:KM.Ent}{e:List Nat×Fd},e∈ss.foldl (bB dn) E->e∈E\/e∈ss
 |[],E,e,h=>.inl h
 |s::r,E,e,h=>by
  rw[Bv] at h;rcases dJ r h with h|h
  ·rcases bT dn E s with ⟨_,z⟩|⟨_,_,z⟩|⟨_,_,z⟩
   ·rw[z] at h;exact .inl h
   ·rw[z] at h;exact .inl h
   ·rw[z] at h;rcases fk h with h|⟨h,_⟩
    ·exact .inr (by rw[h];exact zX)
    ·exact .inl h
  ·exact .inr (Af _ h)
structure Tst(T:Addr)(ws:List (List Nat))(H0:Hp)(Da Wa:Addr)(dn:List (List Nat×Nat))(E:KM.Ent)(kvs:List (Key×V))(H:Hp):Prop where
 sm:SmB T H0 H
 gD:H Da=some (.dK (dnK (dn.map (·.1))))
 gW:H Wa=some (.dK kvs)
 nD:H0 Da=none
 nW:H0 Wa=none
 ne:Da≠Wa
 en:Ee H kvs E
 lt:Ep Fx Fn T H
 dj:Dij ws dn E
 bd:∀e∈E,e.2.1<=40*(dn.length+1)
theorem kg{H:Hp}:∀{kvs:List (Key×V)}{E:KM.Ent},Ee H kvs E->kvs.map (·.1)=(E.map fun e=>txt e.1).map Sum.inr
 |_,_,.nil=>rfl
 |_,_,.cons ⟨h1,_⟩ r=>by rw[Av,Av,Av,kg r,h1]
def vD (E:KM.Ent)(k:Str):Int:=((hZ E k.cps.toList).map fun f=>((f.1:Nat):Int)).getD 0
theorem jA{E:KM.Ent}(nd:(E.map (·.1)).Nodup){x:List Nat}{f:Fd}(h:(x,f)∈E):vD E (txt x)=((f.1:Nat):Int):=by
 unfold vD;rw[show(txt x).cps.toList=x from rfl,gB nd h];rfl
theorem JB:DK ["words","done","waiting","left","found","length","one","other"] ["words"] (aq (top 38)):=by walk_at "s"
theorem vN{dfs dks dns d:DD}{cd T:Addr}(LK:JL K mg cd T)(hcode:d.fd.code=.ref cd)(D_fs:(dg "first_steps" 35 ["words"] dfs 2 Kl))(D_ks:(dg "keep_shorter" 37 ["waiting","done","steps"] dks 1 Kw))(D_ns:(dg "next_steps" 36 ["words","left","found"] dns 2 KA))(D:Def K mg "twins_of" (top 38) ["words"] d)(xu:mg "min"=none):(fk 4 d ["words"] (vz T)):=by
 refine D.fn.okC hcode JB (fun vs H Q E h=>?_) (fun A outer s H vs Q E hr h=>?_)
 ·obtain⟨l,ws,rfl,_⟩:=h;rfl
 obtain⟨l,ws,rfl,hl,hw,hT,qN,qS⟩:=h;have hc:=hr.calm;have nd:=JB.nd;have hdp:=Bi (Ak (Ce _ _) (Ce _ _)) hr.dp;have hu2:A.units+3+1+3+1<cLine:=by have:=hr.un;simp only[Around.deeper] at this;lia
 refine⟨_,(ag (ay 1 (Or.inl rfl) (@Gg _ _)) (ag (ay 2 (Or.inr rfl) (@Gg _ _)) (ag (bu (aY D_ks.1 D_ks.2 (DJ (2) (DJ (1) (aG (bb D_fs.1 D_fs.2 (0) ax) eW) ax) ax))) (ag (dP (pJ (2)) (ag (ay 3 (Or.inl rfl) (nV (cd) (T) (Fn) ("text") (["waiting"]) ([2]) LK (ak (ts:=["text"]) (cap:=["waiting"]) (js:=[2]) rfl rfl rfl rfl rfl rfl (by decide +kernel)) (fun _ _ _ _ _=>rfl) hdp (aK (show IxR _ (sJ K) from Ek) (jK hu2 (1) (0)) (ah _)) xu FN (2))) (ag (ay 4 (Or.inl rfl) (@pB _ _ _ _ _ _ _ (2) (3) ⟨rfl,rfl,rfl,rfl⟩)) (ag (du (4) (dq (av (aj 5) (av (aj 6) (av (aj 7) (DW _)))))) (ag (br (aB Fb (3) (bQ _) (aE _)) (ai (aC (hX (aB HB (aK DO (6) (ah _)) (aK DO (7) (ah _)) (aE _)) (aN (DJ (6) (aG (7) ax) ax)) (aN (DJ (7) (aG (6) ax) ax))))) (DR _)) (ag (jE (ie hr) (1) (3) (fM _)) (ai (bu (aY D_ks.1 D_ks.2 (DJ (2) (DJ (1) (aG (aY D_ns.1 D_ns.2 (DJ (0) (DJ (3) (aG (4) ax) ax) ax)) eW) ax) ax)))))))))) (ai (aC (bU _))))))),?_⟩
 walk_at "d"
 have h8:=hw.n8;refine fun Da nDa Wa nWa=>?_;have nDa':H Da=none:=nDa;have neDW:Da≠Wa:=fun z=>by rw[<- z,ae] at nWa;cases nWa
 have nWa':H Wa=none:=by rw[ar (Dw neDW)] at nWa;exact nWa
 have S1:DN H (upd (upd H Da (.dK [])) Wa (.dK [])):=(af nDa _).trans (af nWa _);have gD1:upd (upd H Da (.dK [])) Wa (.dK []) Da=some (.dK []):=by rw[ar neDW];exact ae
 have gW1:upd (upd H Da (.dK [])) Wa (.dK []) Wa=some (.dK []):=ae;generalize upd (upd H Da (.dK [])) Wa (.dK [])=H1 at S1 gD1 gW1;refine⟨_,rfl,_,rfl,_,rfl,l,ws,rfl,S1 _ _ hl,hw,fun p1 us1 ss1 H2 S2 gp1 hss1 ls1 hs1 hf1=>?_⟩;refine⟨Wa,Da,p1,[],[],[],us1,ss1,rfl,S2 _ _ gW1,.nil,Dw neDW,S2 _ _ gD1,gp1,hss1,by show 0+ss1.length<=1000;lia,fun kvs1 H3 eH3 hE3=>?_⟩;have gW2:=S2 _ _ gW1;have t0:Tst T ws H Da Wa [] (ss1.foldl (bB []) []) kvs1 H3:=by
  refine⟨fun b o nT e=>?_,?_,by rw[eH3];exact ae,nDa',nWa',neDW,hE3,?_,Dij.start (fun s hs=>⟨(hs1 s hs).1,(hs1 s hs).2.1⟩) hf1,fun e he=>?_⟩
  ·have:=S2 _ _ (S1 _ _ e);rw[eH3,ar (az e nWa')];exact this
  ·rw[eH3,ar neDW];exact S2 _ _ gD1
  ·rw[eH3];exact Ep.upd ((hT.same S1).same S2) gW2
  ·rcases dJ _ he with he|he
   ·cases he
   ·have:=(hs1 e he).2.2;show _<=40*(0+1);lia
 clear hE3 hs1 hf1 hss1 gp1;refine⟨fun m σ H'=>∃(dn:List (List Nat×Nat))(E:KM.Ent)(kvs:List (Key×V))(e3 e4 e5 e6 e7:Option V),σ=[some (.ref l),some (.ref Da),some (.ref Wa),e3,e4,e5,e6,e7]/\Tst T ws H Da Wa dn E kvs H'/\m=1000-dn.length,⟨1000,[],_,kvs1,_,_,_,_,_,rfl,t0,rfl⟩,?_⟩;rintro m σ H4 ⟨dn,E',kvs,e3,e4,e5,e6,e7,rfl,t,rfl⟩;have gW:=t.gW;have lE:E'.length<=328:=by
  have:=md h8 hw.l40 t.dj.wt.ndE (fun x hx=>by obtain⟨e,he,rfl⟩:=Ae.mp hx;exact(t.dj.wt.trk e he).2);rw[zV] at this;exact this
 have lD:dn.length<=328:=by
  have:=md h8 hw.l40 t.dj.ndD (fun x hx=>by obtain⟨e,he,rfl⟩:=Ae.mp hx;exact(t.dj.nil e he).2);rw[zV] at this;exact this
 have lk:=Paired.length t.en;obtain⟨psT,gT,_⟩:=t.lt.ex;refine⟨_,rfl,!kvs.isEmpty,.inr (.inr ⟨kvs,gW,rfl⟩),?_⟩;cases hke:kvs.isEmpty with
 |true=>
  have ek:kvs=[]:=List.isEmpty_iff.mp hke;have eE:E'=[]:=by
   rw[ek] at lk;exact AR.mp lk.symm
  have dj:=t.dj;rw[eE] at dj;exact qN dn H4 dj t.sm t.lt
 |false=>
  have hne:E'≠[]:=fun z=>by
   rw[z] at lk;rw[AR.mp lk] at hke;cases hke
  refine⟨_,fun σ' H' z=>z,?_⟩;refine⟨_,rfl,t.lt,Wa,kvs,E'.map (fun e=>txt e.1),vD E',rfl,gW,kg t.en,(fun z=>hne (List.map_eq_nil_iff.mp z)),fun H5 o k0 S5 hk=>?_,fun k0 H5 hk hmin S5 L5=>?_⟩
  ·obtain⟨⟨x,f⟩,he,rfl⟩:=Ae.mp hk;obtain⟨v,hv,hf⟩:=eV t.en (gB t.dj.wt.ndE he);obtain⟨pf,la,lb,rfl,gf,_,_⟩:=hf.smb gT S5;have gW5:H5 Wa=some (.dK kvs):=S5 _ _ (dg gW gT (fun z=>by cases z)) gW;have npf:pf≠Wa:=dg gf gW5 (fun z=>by cases z);refine⟨_,rfl,_,rfl,Wa,_,rfl,.inl ⟨kvs,.inr (txt x),.inr ⟨o,ae⟩,rfl,hv.symm⟩,pf,_,0,_,rfl,rfl,SqT.of (by rw[ar npf];exact gf),rfl,?_,rfl⟩;show V.int ((f.1:Nat):Int)=V.int (vD E' (txt x));rw[jA t.dj.wt.ndE he]
  obtain⟨⟨x,f⟩,he,rfl⟩:=Ae.mp hk;have hmin':∀e∈E',f.1<=e.2.1:=fun e hm=>by
   have:=hmin (txt e.1) (Ae.mpr ⟨e,hm,rfl⟩);rw[jA t.dj.wt.ndE he,jA t.dj.wt.ndE hm] at this;lia
  have gW5:H5 Wa=some (.dK kvs):=S5 _ _ (dg gW gT (fun z=>by cases z)) gW;have gD5:H5 Da=some (.dK (dnK (dn.map (·.1)))):=S5 _ _ (dg t.gD gT (fun z=>by cases z)) t.gD;have en5:=t.en.smb gT S5;obtain⟨v,hv,hf⟩:=eV en5 (gB t.dj.wt.ndE he);obtain⟨htrk,hsfx⟩:=t.dj.wt.trk _ he;have hfb:=t.bd _ he;refine⟨_,rfl,Wa,rfl,.inl ⟨kvs,.inl gW5⟩,_,rfl,kvs,.inr (txt x),v,gW5,rfl,hv,?_⟩;have hf6:Fy (upd H5 Wa (.dK (cJ kvs (.inr (txt x))))) v f:=hf.upd gW5;have en6:Ee (upd H5 Wa (.dK (cJ kvs (.inr (txt x))))) (cJ kvs (.inr (txt x))) (eR E' x):=Ee.upd gW5 (ku en5);have gW6:upd H5 Wa (.dK (cJ kvs (.inr (txt x)))) Wa=some (.dK (cJ kvs (.inr (txt x)))):=ae;have gD6:upd H5 Wa (.dK (cJ kvs (.inr (txt x)))) Da=some (.dK (dnK (dn.map (·.1)))):=by rw[ar neDW];exact gD5
  have L6:Ep Fx Fn T (upd H5 Wa (.dK (cJ kvs (.inr (txt x))))):=Ep.upd L5 gW5;have sm6:SmB T H (upd H5 Wa (.dK (cJ kvs (.inr (txt x))))):=fun b o nT e=>by
   rw[ar (az e nWa')];exact S5 b o nT (t.sm b o nT e)
  generalize upd H5 Wa (.dK (cJ kvs (.inr (txt x))))=H6 at hf6 en6 gW6 gD6 L6 sm6;obtain⟨pf,la,lb,rfl,gf,ga,gb⟩:=id hf6;refine⟨_,rfl,pf,_,rfl,SqT.of gf,rfl,_,_,rfl,_,_,rfl,_,_,rfl,rfl,?_⟩;refine⟨_,rfl,rfl,decide (x=[]),?_,?_⟩
  ·show V.bl (decide (V.str (txt x)=V.str ""))=_
   congr 1
   refine decide_eq_decide.mpr ⟨fun z=>?_,fun z=>by rw[z];rfl⟩;have z1:txt x="":=by injection z
   have z2:(txt x).cps.toList=("":Str).cps.toList:=by rw[z1]
   exact z2
  by_cases hx:x=[]
  ·rw[Dd hx];subst hx;obtain⟨i,j,s1,s2,ea,eb,nij⟩:=htrk.ne;have aa:atI (iv f.2.1) 0=some (.int ((i:Nat):Int)):=by rw[ea];show atI (iv (i::s1)) ((0:Nat):Int)=_;exact aW rfl
   have ab:atI (iv f.2.2) 0=some (.int ((j:Nat):Int)):=by rw[eb];show atI (iv (j::s2)) ((0:Nat):Int)=_;exact aW rfl
   refine⟨_,rfl,la,_,0,_,rfl,rfl,SqL.of ga,aa,_,rfl,lb,_,0,_,rfl,rfl,SqL.of gb,ab,_,_,rfl,rfl,decide (i<j),?_,?_⟩
   ·show V.bl (decide (((i:Nat):Int)<((j:Nat):Int)))=_
    congr 1
    exact decide_eq_decide.mpr ⟨fun h=>by lia,fun h=>by lia⟩
   by_cases hij:i<j
   ·rw[Dd hij];refine⟨_,rfl,_,rfl,au (by show 2<=1000000;decide),fun p np=>?_⟩;have S7:=af np (.tup [.ref la,.ref lb]);exact qS p la lb f.2.1 f.2.2 dn E' f _ t.dj he ⟨hmin',by show f.1<=100000;have:f.1<=40*(dn.length+1):=hfb;lia⟩ (.inl rfl) (by rw[ea,eb];exact hij) ae (S7 _ _ ga) (S7 _ _ gb) (sm6.trans (SmB.of S7)) (L6.same S7)
   ·rw[De hij];refine⟨_,rfl,_,rfl,au (by show 2<=1000000;decide),fun p np=>?_⟩;have S7:=af np (.tup [.ref lb,.ref la]);exact qS p lb la f.2.2 f.2.1 dn E' f _ t.dj he ⟨hmin',by show f.1<=100000;have:f.1<=40*(dn.length+1):=hfb;lia⟩ (.inr rfl) (by rw[ea,eb];show j<i;lia) ae (S7 _ _ gb) (S7 _ _ ga) (sm6.trans (SmB.of S7)) (L6.same S7)
  ·rw[De hx];have nxd:x∉dn.map (·.1):=fun z=>by
    obtain⟨p,hp,e⟩:=Ae.mp z;exact t.dj.wt.dis _ he p hp e.symm
   refine⟨_,rfl,_,rfl,Da,_,rfl,Hy.k (k:=.inr (txt x)) gD6 (Bi (show _<=1000 by unfold dnK;rw[zV,zV];lia) (by decide)),?_⟩;rw[vi nxd];have gD7:upd H6 Da (.dK (dnK (dn.map (·.1)++[x]))) Da=some (.dK (dnK (dn.map (·.1)++[x]))):=ae;have gW7:upd H6 Da (.dK (dnK (dn.map (·.1)++[x]))) Wa=some (.dK (cJ kvs (.inr (txt x)))):=by rw[ar (Dw neDW)];exact gW6
   have hf7:Fy (upd H6 Da (.dK (dnK (dn.map (·.1)++[x])))) (.ref pf) f:=hf6.upd gD6;have en7:Ee (upd H6 Da (.dK (dnK (dn.map (·.1)++[x])))) (cJ kvs (.inr (txt x))) (eR E' x):=Ee.upd gD6 en6;have L7:Ep Fx Fn T (upd H6 Da (.dK (dnK (dn.map (·.1)++[x])))):=Ep.upd L6 gD6;have sm7:SmB T H (upd H6 Da (.dK (dnK (dn.map (·.1)++[x])))):=fun b o nT e=>by
    rw[ar (az e nDa')];exact sm6 b o nT e
   generalize upd H6 Da (.dK (dnK (dn.map (·.1)++[x])))=H7 at gD7 gW7 hf7 en7 L7 sm7;have hlT:l≠T:=by
    obtain⟨ps0,g0,_⟩:=hT.ex;exact dg hl g0 (fun z=>by cases z)
   refine⟨_,rfl,_,rfl,_,rfl,_,rfl,_,rfl,l,ws,x,.ref pf,f,rfl,sm7 _ _ hlT hl,hw,hf7,htrk,hsfx,by show f.1<=100000;have:f.1<=40*(dn.length+1):=hfb;lia,fun p8 us8 ss8 H8 S8 gp8 hss8 ls8 h81 h82 h83=>?_⟩;have ldr:(eR E' x).length<=328:=Ak (AX _ _) lE;refine⟨Wa,Da,p8,_,eR E' x,dn.map (·.1)++[x],us8,ss8,rfl,S8 _ _ gW7,en7.mono S8,Dw neDW,S8 _ _ gD7,gp8,hss8,by lia,fun kvs9 H9 eH9 hE9=>?_⟩;refine⟨1000-(dn.length+1),by lia,dn++[(x,f.1)],ss8.foldl (bB (dn.map (·.1)++[x])) (eR E' x),kvs9,_,_,_,_,_,rfl,?_,by rw[zW];rfl⟩;have gW8:=S8 _ _ gW7;refine⟨fun b o nT e=>?_,?_,by rw[eH9];exact ae,nDa',nWa',neDW,hE9,?_,Dij.step t.dj he hmin' hx (fun s hs=>⟨(h81 s hs).1,(h81 s hs).2.1,(h81 s hs).2.2.1⟩) h82 h83,fun e hem=>?_⟩
   ·rw[eH9,ar (az e nWa')];exact S8 _ _ (sm7 b o nT e)
   ·rw[eH9,ar neDW,An];exact S8 _ _ gD7
   ·rw[eH9];exact Ep.upd (L7.same S8) gW8
   ·rw[zW];show e.2.1<=40*(dn.length+1+1);rcases dJ _ hem with hm|hm
    ·have:=t.bd e (Ew.mp hm).1;lia
    ·have h1:=(h81 e hm).2.2.2;have:f.1<=40*(dn.length+1):=hfb;lia
def tI (T:Addr):Sp:=fun vs H Q _=>∃l us ws,vs=[.ref l]/\H l=some (.lst us)/\Mks H us ws/\Wds ws/\Ep Fx Fn T H/\(∀dn H',Dij ws dn []->SmB T H H'->Ep Fx Fn T H'->Q .non H') /\
 ∀p la lb a b dn E f H',Dij ws dn E->([],f)∈E->((∀e∈E,f.1<=e.2.1)/\f.1<=100000)->(f.2=(a,b)\/f.2=(b,a))->a.headD 0<b.headD 0->H' p=some (.tup [.ref la,.ref lb])->H' la=some (.lst (iv a))->H' lb=some (.lst (iv b))->SmB T H H'->Ep Fx Fn T H'->Q (.ref p) H'
theorem uF{dm dt d:DD}{T:Addr}(xx:(dg "maker_words" 25 ["makers"] dm 5 Hh))(D_to:(dg "twins_of" 38 ["words"] dt 4 (vz T)))(D:Def K mg "twins" (top 39) ["makers"] d):(fk 6 d ["makers"] (tI T)):=by
 exists["makers"]
 obtain⟨l,us,ws,rfl,hl,hm,hw,hT,qN,qS⟩:=h;refine⟨_,(ai (aC (bb D_to.1 D_to.2 (bb xx.1 xx.2 (0) ax) eW))),?_⟩
 walk_at "d"
 refine⟨_,rfl,l,us,ws,rfl,hl,hm,hw,fun p H1 S1 gp=>?_⟩;exact⟨p,ws,rfl,gp,hw,hT.same S1,fun dn H' h1 h2 h3=>qN dn H' h1 ((SmB.of S1).trans h2) h3,fun p la lb a b dn E f H' h1 h2 h3 h4 h5 h6 h7 h8 h9 h10=>qS p la lb a b dn E f H' h1 h2 h3 h4 h5 h6 h7 h8 ((SmB.of S1).trans h9) h10⟩
end
end K3
namespace K3
open KM
theorem da(ws:List (List Nat))(a b:List Nat):bj ws (a++b)=bj ws a++bj ws b:=by
 unfold bj;rw[An,Cb]
theorem cL{ws:List (List Nat)}:∀{t:List Nat},(∀i∈t,i<ws.length)->Pr ws (bj ws t)
 |[],_=>.nil
 |i::t,h=>by
  rw[aH];exact(Pr.one (aw (h i zX))).app (cL fun j hj=>h j (Af _ hj))
theorem km{ws:List (List Nat)}{w:List Nat}(h:w∈ws):∃i,i<ws.length/\ws.getD i []=w:=by
 obtain⟨i,hi,e⟩:=List.getElem_of_mem h;exact⟨i,hi,by rw[Am,Ac hi];exact e⟩
theorem bK{ws:List (List Nat)}{x:List Nat}(h:Pr ws x):∃t,(∀i∈t,i<ws.length)/\bj ws t=x:=by
 induction h with
 |nil=>exact⟨[],fun i h=>absurd h (by simp),rfl⟩
 |snoc _ hw ih=>
  obtain⟨t,h1,h2⟩:=ih;obtain⟨i,hi,e⟩:=km hw;refine⟨t++[i],fun j hj=>?_,by rw[fG,h2,e]⟩;rcases zZ.mp hj with hj|hj
  ·exact h1 j hj
  ·rw[zY.mp hj];exact hi
def Fst (hs:List (List Nat))(x y:List Nat):Prop:=∃i t,i<hs.length/\hs.getD i []=y/\(∀j∈t,j<hs.length)/\x=bj hs (i::t)
theorem Fst.eq{hs:List (List Nat)}(ud:UD hs){x y z:List Nat}(a:Fst hs x y)(b:Fst hs x z):y=z:=by
 obtain⟨i,t,hi,rfl,ht,e⟩:=a;obtain⟨j,s,hj,rfl,hs',f⟩:=b;have hi':∀k∈i::t,k<hs.length:=fun k hk=>(Ad.mp hk).elim (fun z=>z▸hi) (ht k);have hj':∀k∈j::s,k<hs.length:=fun k hk=>(Ad.mp hk).elim (fun z=>z▸hj) (hs' k);have:=ud _ _ hi' hj' (e.symm.trans f);rw[(List.cons.inj this).1]
theorem Fst.app{hs:List (List Nat)}{x y z:List Nat}(a:Fst hs x y)(h:Pr hs z):Fst hs (x++z) y:=by
 obtain⟨i,t,hi,e1,ht,rfl⟩:=a;obtain⟨s,hs',rfl⟩:=bK h;refine⟨i,t++s,hi,e1,fun j hj=>(zZ.mp hj).elim (ht j) (hs' j),?_⟩;rw[<- da];rfl
theorem Fst.of{hs:List (List Nat)}{x:List Nat}(h:Pr hs x)(ne:x≠[]):∃y∈hs,Fst hs x y:=by
 obtain⟨t,ht,rfl⟩:=bK h;cases t with
 |nil=>exact absurd rfl ne
 |cons i t=>exact⟨_,aw (ht i zX),i,t,ht i zX,rfl,fun j hj=>ht j (Af _ hj),rfl⟩
theorem Fst.self{hs:List (List Nat)}{y:List Nat}(h:y∈hs):Fst hs y y:=by
 obtain⟨i,hi,e⟩:=km h;exact⟨i,[],hi,e,fun j hj=>absurd hj (by simp),by rw[cc,e]⟩
theorem kz{α β:Type} [DecidableEq α]{R:α->β->Prop}(fn:∀a b c,R a b->R a c->b=c):∀(m:List β)(l:List α),m.Nodup->(∀b∈m,∃a∈l,R a b)->m.length<=l.length
 |[],l,_,_=>Ag _
 |b::m,l,nd,h=>by
  rw[Bo] at nd;obtain⟨a,ha,r⟩:=h b zX;have h1:=kz fn m (l.erase a) nd.2 fun c hc=>by
   obtain⟨a',ha',r'⟩:=h c (Af _ hc);refine⟨a',(Cf fun z=>?_).mpr ha',r'⟩;subst z;exact nd.1 (fn _ _ _ r r'▸hc)
  rw[CK ha] at h1;have:0<l.length:=CL ha;rw[AE];lia
theorem my{α:Type} [DecidableEq α](f:α->Nat):∀(U:List α){l:List α},l.Nodup->(∀x∈l,x∈U)->(l.map f).sum<=(U.map f).sum
 |[],l,_,h=>by
  cases l with
  |nil=>exact zU _
  |cons a r=>exact absurd (h a zX) (by simp)
 |u::U,l,nd,h=>by
  have h1:=my f U (l:=l.erase u) (nd.erase u) fun x hx=>by
   have hm:=List.mem_of_mem_erase hx;rcases Ad.mp (h x hm) with e|e
   ·exact absurd (by rw[e] at hx;exact hx) (List.Nodup.not_mem_erase nd)
   ·exact e
  have h2:(l.map f).sum<=((l.erase u).map f).sum+f u:=by
   by_cases hu:u∈l
   ·have p:l.Perm (u::l.erase u):=List.perm_cons_erase hu;have:=(p.map f).sum_nat;rw[Av,BN] at this;lia
   ·rw[List.erase_of_not_mem hu];lia
  rw[Av,BN];lia
structure Kp(ws ks:List (List Nat)):Prop where
 nd:ks.Nodup
 l1:∀x∈ks,1<=x.length
 lr:∀x∈ks,∀c∈x,El c
 n1:1<=ks.length
 n8:ks.length<=ws.length
 len:∀M,(∀w∈ws,w.length<=M)->∀x∈ks,x.length<=M
 gen:∀w∈ws,Pr ks w
 fst:∀hs,UD hs->(∀x∈ks,Pr hs x)->∀x∈ks,∀y,Fst hs x y->∃w∈nW ws,Fst hs w y
 Kk:ks.Perm (nW ws)\/∀hs,UD hs->(∀x∈ks,Pr hs x)->∃a∈nW ws,∃b∈nW ws,a≠b/\∃y,Fst hs a y/\Fst hs b y
theorem Kp.start{ws ks:List (List Nat)}(W:Wds ws)(p:ks.Perm (nW ws)):Kp ws ks:=by
 have N:=qh W;have mem:∀x,x∈ks↔x∈nW ws:=fun x=>p.mem_iff;refine⟨p.nodup_iff.mpr (cZ W.ok),fun x h=>N.l1 x ((mem x).mp h),fun x h=>N.lr x ((mem x).mp h),by rw[p.length_eq];exact N.n1,by rw[p.length_eq];exact iE ws,fun M hM x h=>hM x (cE W.ok ((mem x).mp h)),fun w hw=>?_,fun hs _ _ x hx y hy=>⟨x,(mem x).mp hx,hy⟩,.inl p⟩;have:=jX W.ok _ w rfl hw;exact this.mono fun x hx=>Pr.one ((mem x).mpr hx)
theorem Kp.wok{ws ks:List (List Nat)}(W:Wds ws)(h:Kp ws ks){z:List Nat}(z1:z≠[])(zl:z.length<=40):Wok (ks++[z]):=by
 refine⟨by rw[zW];have:=h.n8;have:=W.n8;show ks.length+1<=9;lia,fun x hx=>?_,fun x hx=>?_⟩
 ·rcases zZ.mp hx with hx|hx
  ·exact h.l1 x hx
  ·rw[zY.mp hx];exact Bb.mpr z1
 ·rcases zZ.mp hx with hx|hx
  ·exact h.len 40 W.l40 x hx
  ·rw[zY.mp hx];exact zl
theorem Kp.out{ws ks:List (List Nat)}(W:Wds ws)(h:Kp ws ks){v z:List Nat}(hv:v∈ks)(hvz:v++z∈ks)(z1:z≠[])(zl:z.length<=40):∀x∈nW (ks++[z]),x∈(ks.erase (v++z))++[z]:=fun x hx=>by
 obtain⟨h1,h2⟩:=(fW (h.wok W z1 zl) x).mp hx;have lv:=h.l1 v hv;have lz:0<z.length:=Bb.mpr z1;have ne:x≠v++z:=fun e=>by
  refine h2 ?_;rw[e];refine(Pr.one (Eg.mpr ⟨Aw _ hv,fun q=>?_⟩)).app (Pr.one (Eg.mpr ⟨Ab _ (zY.mpr rfl),fun q=>?_⟩))
  ·have:=congrArg List.length q;rw[zW] at this;lia
  ·have:=congrArg List.length q;rw[zW] at this;lia
 rcases zZ.mp h1 with h1|h1
 ·exact Aw _ ((Cf ne).mpr h1)
 ·exact Ab _ h1
theorem Kp.step{ws ks ks':List (List Nat)}(W:Wds ws)(h:Kp ws ks){i j:Nat}{s t z:List Nat}(hi:i<ks.length)(hj:j<ks.length)(hs:∀k∈s,k<ks.length)(ht:∀k∈t,k<ks.length)(e:bj ks (i::s)=bj ks (j::t))(ez:ks.getD j []=ks.getD i []++z)(z1:z≠[])(p:ks'.Perm (nW (ks++[z]))) :
  Kp ws ks'/\(ks'.map List.length).sum<(ks.map List.length).sum:=by
 have hv:=aw hi;have hvz:=aw hj;rw[ez] at hvz;generalize hgv:ks.getD i []=v at hv hvz ez;have lz:z.length<=40:=by
  have:=h.len 40 W.l40 _ hvz;rw[zW] at this;lia
 have lv:=h.l1 v hv;have K1:=h.wok W z1 lz;have mem:∀x,x∈ks'↔x∈nW (ks++[z]):=fun x=>p.mem_iff;have out:=h.out W hv hvz z1 lz;have nd':=cZ K1;have gen':∀x∈ks++[z],Pr ks' x:=fun x hx=>(jX K1 _ x rfl hx).mono fun y hy=>Pr.one ((mem y).mpr hy);have sub:∀x∈ks',x∈ks++[z]:=fun x hx=>cE K1 ((mem x).mp hx);have lrz:∀c∈z,El c:=fun c hc=>h.lr _ hvz c (Ab _ hc);have est:bj ks s=z++bj ks t:=by
  rw[aH,aH,hgv,ez,AF] at e;exact Bk e
 have gen:∀w∈ws,Pr ks' w:=fun w hw=>(h.gen w hw).mono fun x hx=>gen' x (Aw _ hx);have sne:s≠[]:=fun q=>by
  rw[q] at est;have:=congrArg List.length est;rw[zW] at this;have lz0:0<z.length:=Bb.mpr z1;have:(bj ks []).length=0:=rfl;lia
 have lenU:(ks.erase (v++z)++[z]).length=ks.length:=by
  rw[zW,CK hvz];have:=CL hvz;show ks.length-1+1=_;lia
 refine⟨⟨p.nodup_iff.mpr nd',fun x hx=>K1.l1 x (sub x hx),fun x hx=>?_,?_,?_,fun M hM x hx=>?_,gen,fun hs' ud hp x hx y hy=>?_,.inr fun hs' ud hp=>?_⟩,?_⟩
 ·rcases zZ.mp (sub x hx) with hx|hx
  ·exact h.lr x hx
  ·rw[zY.mp hx];exact lrz
 ·cases ek:ks' with
  |cons a b=>exact DA (Ag _)
  |nil=>
   exfalso;have hg:=gen' v (Aw _ hv);rw[ek] at hg;obtain⟨r,hr,e3⟩:=bK hg;cases r with
   |nil=>rw[<- e3] at lv;exact absurd lv (by decide)
   |cons a b=>exact absurd (hr a zX) (Bt _)
 ·refine Ak ?_ h.n8;rw[p.length_eq,<- lenU];exact sub_len _ nd' out
 ·rcases zZ.mp (sub x hx) with hx|hx
  ·exact h.len M hM x hx
  ·rw[zY.mp hx];have:=h.len M hM _ hvz;rw[zW] at this;lia
 ·have hp':∀x∈ks++[z],Pr hs' x:=fun x hx=>(gen' x hx).mono hp;have hpk:∀x∈ks,Pr hs' x:=fun x hx=>hp' x (Aw _ hx);rcases zZ.mp (sub x hx) with hx|hx
  ·exact h.fst hs' ud hpk x hx y hy
  ·rw[zY.mp hx] at hy;cases s with
   |nil=>exact absurd rfl sne
   |cons i2 s2=>
    have h2:=hs i2 zX;have m2:=aw h2;have ne2:ks.getD i2 []≠[]:=fun q=>by have:=h.l1 _ m2;rw[q] at this;exact absurd this (by decide)
    obtain⟨y2,_,f2⟩:=Fst.of (hpk _ m2) ne2;have f2':Fst hs' (bj ks (i2::s2)) y2:=by
     rw[aH];exact f2.app ((cL fun k hk=>hs k (Af _ hk)).mono hpk)
    rw[est] at f2';have f3:=hy.app ((cL ht).mono hpk);rw[f3.eq ud f2'];exact h.fst hs' ud hpk _ m2 y2 f2
 ·have hp':∀x∈ks++[z],Pr hs' x:=fun x hx=>(gen' x hx).mono hp;have hpk:∀x∈ks,Pr hs' x:=fun x hx=>hp' x (Aw _ hx);rcases h.Kk with q|q
  ·have ne:v≠[]:=fun q=>by rw[q] at lv;exact absurd lv (by decide)
   obtain⟨y,_,f⟩:=Fst.of (hpk v hv) ne;refine⟨v,q.mem_iff.mp hv,v++z,q.mem_iff.mp hvz,fun q=>?_,y,f,f.app (hp' z (Ab _ (zY.mpr rfl)))⟩;have:=congrArg List.length q;rw[zW] at this;have lz0:0<z.length:=Bb.mpr z1;lia
  ·exact q hs' ud hpk
 ·have h1:=my List.length _ nd' out;rw[<- (p.map List.length).sum_nat] at h1;rw[An,List.sum_append] at h1;have pe:ks.Perm ((v++z)::ks.erase (v++z)):=List.perm_cons_erase hvz;have h2:=(pe.map List.length).sum_nat;rw[Av,BN,zW] at h2;have h3:([z].map List.length).sum=z.length:=by simp
  lia
theorem vm{hs ws:List (List Nat)}(ud:UD hs)(nd:ws.Nodup)(h:∀w∈ws,w∈hs):UD ws:=by
 have ix:∀i,i<ws.length->∃k,k<hs.length/\hs.getD k []=ws.getD i []:=fun i hi=>km (h _ (aw hi));have go:∀t:List Nat,(∀i∈t,i<ws.length)->∃r:List Nat,(∀k∈r,k<hs.length)/\bj hs r=bj ws t/\r.map (fun k=>hs.getD k [])=t.map fun i=>ws.getD i []:=fun t=>by
  induction t with
  |nil=>exact fun _=>⟨[],fun k hk=>absurd hk (by simp),rfl,rfl⟩
  |cons i t ih=>
   intro ht;obtain⟨r,h1,h2,h3⟩:=ih fun j hj=>ht j (Af _ hj);obtain⟨k,hk,e⟩:=ix i (ht i zX);refine⟨k::r,fun a ha=>(Ad.mp ha).elim (fun q=>q▸hk) (h1 a),by rw[aH,aH,e,h2],by rw[Av,Av,e,h3]⟩
 have inj:∀(s t:List Nat),(∀i∈s,i<ws.length)->(∀i∈t,i<ws.length)->s.map (fun i=>ws.getD i [])=t.map (fun i=>ws.getD i [])->s=t:=fun s=>by
  induction s with
  |nil=>
   intro t _ _ e;cases t with
   |nil=>rfl
   |cons a b=>cases e
  |cons i s ih=>
   intro t hs' ht e;cases t with
   |nil=>cases e
   |cons j t=>
    rw[Av,Av] at e;obtain⟨e1,e2⟩:=List.cons.inj e;have hi:=hs' i zX;have hj:=ht j zX;have eij:i=j:=by
     rw[Am,Am,Ac hi,Ac hj] at e1;exact(Bz nd).mp e1
    rw[eij,ih t (fun k hk=>hs' k (Af _ hk)) (fun k hk=>ht k (Af _ hk)) e2]
 intro s t hs' ht e;obtain⟨r1,a1,a2,a3⟩:=go s hs';obtain⟨r2,b1,b2,b3⟩:=go t ht;have er:=ud r1 r2 a1 b1 (a2.trans (e.trans b2.symm));rw[er] at a3;exact inj s t hs' ht (a3.symm.trans b3)
structure GC(ws hs:List (List Nat)):Prop where
 kp:Kp ws hs
 ud:UD hs
theorem GC.wds{ws hs:List (List Nat)}(W:Wds ws)(h:GC ws hs):Wds hs:=⟨h.kp.n1,Ak h.kp.n8 W.n8,h.kp.lr,h.kp.l1,h.kp.len 40 W.l40⟩
def Uni (ws ks:List (List Nat)):Prop:=∀hs,UD hs->(∀w∈ws,Pr hs w)->∀x∈ks,Pr hs x
theorem vn{hs:List (List Nat)}(ud:UD hs){v z S T:List Nat}(hv:Pr hs v)(hz:Pr hs (v++z))(hS:Pr hs S)(hT:Pr hs T)(e:S=z++T)(z1:z≠[]):Pr hs z:=by
 obtain⟨a,a1,a2⟩:=bK hv;obtain⟨b,b1,b2⟩:=bK hz;obtain⟨c,c1,c2⟩:=bK hS;obtain⟨d,d1,d2⟩:=bK hT;have q:=ud (a++c) (b++d) (fun i hi=>(zZ.mp hi).elim (a1 i) (c1 i)) (fun i hi=>(zZ.mp hi).elim (b1 i) (d1 i)) (by rw[da,da,a2,b2,c2,d2,e,AF]);rcases List.append_eq_append_iff.mp q with ⟨r,r1,r2⟩|⟨r,r1,r2⟩
 ·rw[r1,da,a2] at b2;rw[<- Bk b2];refine cL fun i hi=>b1 i ?_;rw[r1];exact Ab _ hi
 ·rw[r1,da,b2] at a2;have:=congrArg List.length a2;rw[zW,zW] at this;have:=Bb.mpr z1;lia
theorem Uni.step{ws ks ks':List (List Nat)}(h:Uni ws ks){i j:Nat}{s t z:List Nat}(hi:i<ks.length)(hj:j<ks.length)(hs:∀k∈s,k<ks.length)(ht:∀k∈t,k<ks.length)(e:bj ks (i::s)=bj ks (j::t))(ez:ks.getD j []=ks.getD i []++z)(z1:z≠[])(sub:∀x∈ks',x∈ks++[z]):Uni ws ks':=fun gs ud hp x hx=>by
 have hk:=h gs ud hp;rcases zZ.mp (sub x hx) with m|m
 ·exact hk x m
 ·rw[zY.mp m];refine vn ud (hk _ (aw hi)) (by rw[<- ez];exact hk _ (aw hj)) ((cL hs).mono hk) ((cL ht).mono hk) ?_ z1;rw[aH,aH,ez,AF] at e;exact Bk e
theorem sr{gs:List (List Nat)}(v:UD gs){k:Nat}(hk:k<gs.length):gs.getD k []≠[]:=fun q=>by
 have:=v [k] [] (fun i hi=>by rw[zY.mp hi];exact hk) (fun i hi=>absurd hi (by simp)) (by rw[cc,q];rfl);cases this
theorem eZ{hs gs:List (List Nat)}(u:UD hs)(v:UD gs)(a:∀x∈hs,Pr gs x)(b:∀x∈gs,Pr hs x):∀x∈hs,x∈gs:=fun x hx=>by
 obtain⟨i,hi,ei⟩:=km hx;obtain⟨t,ht,et⟩:=bK (a x hx);cases t with
 |nil=>exact absurd (ei.trans et.symm) (sr u hi)
 |cons k t=>
  have hk:=ht k zX;cases t with
  |nil=>rw[cc] at et;rw[<- et];exact aw hk
  |cons l r=>
   exfalso;obtain⟨p,p1,p2⟩:=bK (b _ (aw hk));have hr:∀m∈l::r,m<gs.length:=fun m hm=>ht m (Af _ hm);obtain⟨q,q1,q2⟩:=bK ((cL hr).mono b);have e:=u [i] (p++q) (fun m hm=>by rw[zY.mp hm];exact hi) (fun m hm=>(zZ.mp hm).elim (p1 m) (q1 m)) (by rw[cc,ei,da,p2,q2,<- aH,et]);have n1:p≠[]:=fun z=>by rw[z] at p2;exact sr v hk p2.symm
   have n2:q≠[]:=fun z=>by
    rw[z,aH] at q2;exact sr v (hr l zX) (BL.mp q2.symm).1
   have:=congrArg List.length e;rw[zW] at this;have:=Bb.mpr n1;have:=Bb.mpr n2;have:[i].length=1:=rfl;lia
theorem qi{V:List (List Nat)}{y p:List Nat}(h:Pr V p)(l:p.length<y.length):Pr (oth V y) p:=by
 induction h with
 |nil=>exact .nil
 |snoc _ hw ih=>
  rw[zW] at l;refine .snoc (ih (by lia)) (Eg.mpr ⟨hw,fun q=>?_⟩);rw[q] at l;lia
theorem atom{V:List (List Nat)}(W:Wok V){y p q:List Nat}(hy:y∈nW V)(e:y=p++q)(p1:p≠[])(q1:q≠[])(hp:Pr V p)(hq:Pr V q):False:=by
 have a:=Bb.mpr p1;have b:=Bb.mpr q1;have l:=congrArg List.length e;rw[zW] at l;refine((fW W y).mp hy).2 ?_;have h:=(qi (y:=y) hp (by lia)).app (qi (y:=y) hq (by lia));rw[<- e] at h;exact h
theorem oh{us vs:List (List Nat)}(U:Wok us)(V:Wok vs)(a:∀x∈us,Pr vs x)(b:∀x∈vs,Pr us x):∀x∈nW us,x∈nW vs:=fun x hx=>by
 have hm:=((fW U x).mp hx).1;have hg:Pr (nW vs) x:=(a x hm).mono fun y hy=>jX V _ y rfl hy;have N:∀y∈nW vs,y≠[]:=fun y hy q=>by
  have:=V.l1 y (cE V hy);rw[q] at this;exact absurd this (by decide)
 have B:∀y∈nW vs,Pr us y:=fun y hy=>b y (cE V hy);obtain⟨t,ht,et⟩:=bK hg;cases t with
 |nil=>
  have:=U.l1 x hm;rw[<- et] at this;exact absurd this (Nat.not_succ_le_zero 0)
 |cons k t=>
  have hk:=ht k zX;cases t with
  |nil=>rw[cc] at et;rw[<- et];exact aw hk
  |cons l r=>
   have hr:∀m∈l::r,m<(nW vs).length:=fun m hm=>ht m (Af _ hm);refine(atom U hx (et.symm.trans (aH _ _ _)) (N _ (aw hk)) (fun z=>?_) (B _ (aw hk)) ((cL hr).mono B)).elim;rw[aH] at z;exact N _ (aw (hr l zX)) (BL.mp z).1
theorem rF{us vs:List (List Nat)}(U:Wok us)(V:Wok vs)(a:∀x∈us,Pr vs x)(b:∀x∈vs,Pr us x):(nW us).Perm (nW vs):=
 (Cg (cZ U) (cZ V)).mpr fun x=>⟨oh U V a b x,oh V U b a x⟩
theorem qE{ks:List (List Nat)}{v z:List Nat}(U:Wok (ks++[z]))(V:Wok (oth ks (v++z)++[z]))(hv:v∈ks)(v1:v≠[])(z1:z≠[]):(nW (oth ks (v++z)++[z])).Perm (nW (ks++[z])):=by
 have hv':v∈oth ks (v++z):=Eg.mpr ⟨hv,fun q=>z1 (Bk ((AA v).trans q)).symm⟩;have hz:z∈oth ks (v++z)++[z]:=Ab _ (zY.mpr rfl);refine rF V U (fun x hx=>Pr.one ?_) (fun x hx=>?_)
 ·rcases zZ.mp hx with m|m
  ·exact Aw _ (Eg.mp m).1
  ·exact Ab _ m
 ·by_cases q:x=v++z
  ·rw[q];exact(Pr.one (Aw _ hv')).app (Pr.one hz)
  ·refine Pr.one ?_;rcases zZ.mp hx with m|m
   ·exact Aw _ (Eg.mpr ⟨m,q⟩)
   ·exact Ab _ m
theorem iw{ws hs gs:List (List Nat)}(a:GC ws hs)(b:GC ws gs)(ua:Uni ws hs)(ub:Uni ws gs):hs.Perm gs:=
 (Cg a.kp.nd b.kp.nd).mpr fun x=>⟨eZ a.ud b.ud (ua gs b.ud b.kp.gen) (ub hs a.ud a.kp.gen) x,eZ b.ud a.ud (ub hs a.ud a.kp.gen) (ua gs b.ud b.kp.gen) x⟩
theorem ny{ws hs gs:List (List Nat)}(a:GC ws hs)(b:GC hs gs)(ub:Uni hs gs):gs.Perm hs:=
 (Cg b.kp.nd a.kp.nd).mpr fun x=>⟨eZ b.ud a.ud (ub hs a.ud fun w hw=>Pr.one hw) (b.kp.gen) x,eZ a.ud b.ud b.kp.gen (ub hs a.ud fun w hw=>Pr.one hw) x⟩
end K3
namespace K3
open PySem PySem.Spec PyProof.Rows L2
section
variable {P:Program}{w:World}{K:PySem.W.Frag}{mg:Str->Option Value}{base:Heap}
theorem si{d:DD}(D:Def K mg "product" (top 10) ["one","other"] d):(fk 1 d ["one","other"] (iS K)):=by
 exists["one","other","a","b","c","d","e","f","g","h"]
 obtain⟨u,v,s,t,n,m,rfl,⟨p,rfl,hp⟩,⟨r,rfl,hr'⟩,hs,ht,hn,hm,q⟩:=h;refine⟨_,(ag (du (0) (dq hc (av (aj (i:=2) nd rfl (Or.inl rfl)) (av (aj (i:=3) nd rfl (Or.inl rfl)) (av (aj (i:=4) nd rfl (Or.inl rfl)) (av (aj (i:=5) nd rfl (Or.inl rfl)) DW)))))) (ag (du (1) (dq hc (av (aj (i:=6) nd rfl (Or.inl rfl)) (av (aj (i:=7) nd rfl (Or.inl rfl)) (av (aj (i:=8) nd rfl (Or.inl rfl)) (av (aj (i:=9) nd rfl (Or.inl rfl)) DW)))))) (ai (aC (aN (DJ (aA DV (aA bD (2) (6)) (aA bD (3) (8))) (DJ (aA DV (aA bD (2) (7)) (aA bD (3) (9))) (DJ (aA DV (aA bD (4) (6)) (aA bD (5) (8))) (DJ (aA DV (aA bD (4) (7)) (aA bD (5) (9))) DT))))))))),?_⟩
 walk_at "d"
 refine⟨_,rfl,p,_,rfl,hp,rfl,_,_,rfl,_,_,rfl,_,_,rfl,_,_,rfl,rfl,?_⟩;refine⟨_,rfl,r,_,rfl,hr',rfl,_,_,rfl,_,_,rfl,_,_,rfl,_,_,rfl,rfl,?_⟩;refine⟨_,rfl,_,rfl,_,_,rfl,rfl,hs.a.big ht.a hn hm,_,rfl,_,rfl,_,_,rfl,rfl,hs.b.big ht.c hn hm,_,_,rfl,rfl,?_⟩;refine⟨_,rfl,_,rfl,_,_,rfl,rfl,hs.a.big ht.b hn hm,_,rfl,_,rfl,_,_,rfl,rfl,hs.b.big ht.d hn hm,_,_,rfl,rfl,?_⟩;refine⟨_,rfl,_,rfl,_,_,rfl,rfl,hs.c.big ht.a hn hm,_,rfl,_,rfl,_,_,rfl,rfl,hs.d.big ht.c hn hm,_,_,rfl,rfl,?_⟩;refine⟨_,rfl,_,rfl,_,_,rfl,rfl,hs.c.big ht.b hn hm,_,rfl,_,rfl,_,_,rfl,rfl,hs.d.big ht.d hn hm,_,_,rfl,rfl,?_⟩;refine⟨au (by show 4<=1000000;decide),fun z hz=>?_⟩;exact q _ _ (af hz _) ⟨z,rfl,ae⟩
theorem Jp:DK ["text"] ["text"] (aq (top 17)):=by walk_at "s"
theorem uj{d:DD}{lets l1 l2:Addr}{lt:Tok}(m_lw:mg "LONGEST_WORD"=some (.int 400 lt))(yB:mg "LETTERS"=some (.ref lets))(M_lets:sL P w K lets (lkv l1 l2))(D:Def K mg "is_word" (top 17) ["text"] d)(xg:mg "isinstance"=none)(zG:mg "str"=none)(xf:mg "len"=none)(yg:mg "all"=none):(fk 1 d ["text"] Gf):=by
 refine D.fn.ok Jp (fun vs H Q E h=>?_) (fun cdv A outer s H vs Q E hr h=>?_)
 ·obtain⟨z,rfl,_⟩:=h;rfl
 obtain⟨z,rfl,⟨hz,hl⟩,q⟩:=h;have hc:=hr.calm;refine⟨_,(ag (br (@PW.pt _ _ _ (jc (dQ (bH (aP Ez xg DY (DJ (0) (aG (eG (.ty "str") zG Jy) ax) ax)))) (fU (aB IG (aM DM xf (0) ax) (cy (.int 400) m_lw ⟨_,rfl⟩) (aE _))))) (ai (aC (fM _))) (DR _)) (ai (aC (aP (kD hc) yg Iq (aG (aO (ak (ts:=["letter"]) (cap:=[]) (js:=[]) rfl rfl rfl rfl rfl rfl (by decide +kernel)) (mH (0)) (ad 0 (nd ["letter"])) (@aR _) (@tR _ _ _ _ _ _ (@qZ _ _ _ _ _ _ _ M_lets (0) (cy (.ref lets) yB rfl)) rfl)) (by rfl)))))),?_⟩
 walk_at "d"
 refine⟨_,rfl,.str z,.ty "str",_,_,true,rfl,rfl,.str z,rfl,true,rfl,?_⟩;refine⟨_,rfl,z,rfl,au (by lia),_,_,rfl,rfl,_,rfl,rO (fun h1=>?_) (fun h1=>?_)⟩
 ·have h1':(z.length:Int)>400:=Dh h1;have e:false=gg z:=by
   unfold gg;rw[De (by lia)];rfl
  have y:=q H (DN.refl H);rw[<- e] at y;exact y
 ·have h1':¬(z.length:Int)>400:=of_decide_eq_false (Bs.mpr h1);refine⟨_,rfl,z,rfl,hz,?_⟩;refine qJ (z:=z) (fun i ys H'=>H'=H/\ys=((z.cps.toList.take i).map lrB).map V.bl) ⟨rfl,rfl⟩ (fun i ys H' hi y=>by rw[y.2,zV,zV,Az];lia) (au (by have:z.cps.size=z.length:=rfl;lia)) (fun i c ys H' hc' y=>?_) (fun ys H' y p hp=>?_)
  ·obtain⟨rfl,rfl⟩:=y;have hi:i<z.cps.size:=(By.mp hc').1;have hc2:z.cps.toList[i]?=some c:=by rw[AO];exact hc'
   refine⟨_,rfl,.inr ⟨#[c]⟩,rfl,rfl,Nx.mk hi ⟨rfl,?_⟩⟩;rw[tS,Au,hc2,An,An];rfl
  ·obtain⟨rfl,rfl⟩:=y;refine⟨p,(z.cps.toList.map lrB),rfl,?_,?_⟩
   ·have e1:z.cps.toList.take z.cps.size=z.cps.toList:=Ap (by rw[AD];exact zU _);rw[e1];exact SqL.of ae
   ·have e:((z.cps.toList.map lrB).all id)=gg z:=by
     unfold gg;rw[Dd (show z.length<=400 by lia),Bool.true_and,List.all_map];rfl
    rw[e];exact q _ (af hp _)
def ur (K:W.Frag):Sp:=fun vs H Q _=>∃l xs ts n,vs=[.ref l]/\ts≠[]/\SqL K H l xs/\TL K H xs ts/\(∀t∈ts,Bd n t)/\(n+1)*ts.length+1<=1048576/\n<=1048576/\∀r H',DN H H'->T4o H' r (cK ts)->Q r H'
theorem uI{dp d:DD}{one:Addr}(zJ:mg "ONE"=some (.ref one))(k_one:∀H,SqT K H one Tb.one.vs)(xF:(dg "product" 10 ["one","other"] dp 1 (iS K)))(D:Def K mg "product_of" (top 11) ["tables"] d):(fk 2 d ["tables"] (ur K)):=by
 exists["tables","made","table"]
 obtain⟨l,xs,ts,n,rfl,hne,hl,ht,hb,hz,hn,q⟩:=h;refine⟨_,(ag (ay (i:=1) nd rfl (Or.inl rfl) (cy (v:=.ref one) rfl zJ rfl)) (ag (bV PassesOwn.never hc (aJ (0)) (aj (i:=2) nd rfl (Or.inl rfl)) (ai (ay (i:=1) nd rfl (Or.inl rfl) (jJ (xF.2.mono (by decide)) hr rfl xF.1.m xF.1.fn.kp xF.1.b .nil qT (DJ (1) (DJ (2) DT)))))) (ai (aC (1))))),?_⟩
 walk_at "d"
 have main:∀(v:V)(H1:Hp),DN H H1->T4 K H1 v Tb.one->sM (xa (sY K (sH 0)) (kE 2) (wI (nG (iS K) [] E0 (fF (sH 1) (fF (sH 2) Hz))) (kE 1))) (wW (sH 1)) {nx:=fun _ H'=>Q .non H',rt:=Q} [some (.ref l),some v,none] H1:=by
  intro v H1 S1 h1;refine⟨_,rfl,l,rfl,⟨xs,S1.seq hl⟩,?_⟩;refine cu (K:=K) (xs:=xs) (fun i σ H'=>∃v o,σ=[some (.ref l),some v,o]/\DN H H'/\T4 K H' v (cK (ts.take i))/\(i=0\/T4o H' v (cK (ts.take i)))) ⟨v,none,rfl,S1,h1,.inl rfl⟩ (fun i σ H' hi z=>by obtain⟨_,_,_,e,_⟩:=z;exact e.seq hl) (fun i x σ H' hx z=>?_) (fun σ H' z=>?_)
  ·obtain⟨v,o,rfl,e1,e2,e5⟩:=z;obtain⟨t,et,h4⟩:=ht.get hx;have hi:i<ts.length:=(Ai.mp et).1;have bl:(n+1)*i+1<=1048576:=by
    have:(n+1)*i<=(n+1)*ts.length:=Nat.mul_le_mul_left _ (by lia);lia
   refine⟨_,rfl,_,rfl,v,x,cK (ts.take i),t,(n+1)*i+1,n,rfl,e2,h4.mono e1,gY hb i,hb t (Aq et),bl,hn,fun r H2 S2 h2=>?_⟩;have es:cK (ts.take (i+1))=(cK (ts.take i)).mul t:=by
    rw[Au,et];exact eB _ _
   rw[<- es] at h2;exact⟨r,_,rfl,e1.trans S2,h2.t4,.inr h2⟩
  ·obtain⟨v,o,rfl,e1,e2,e5⟩:=z;rw[ht.length] at e2 e5;rw[Bg] at e2 e5;refine⟨v,rfl,q v H' e1 ?_⟩;rcases e5 with e5|e5
   ·exact absurd (AR.mp e5) hne
   ·exact e5
 exact main (.ref one) H (DN.refl H) ⟨one,rfl,k_one H⟩
def Ih:Sp:=fun vs H Q _=>∃cs,vs=[.str (txt cs)]/\(∀c∈cs,El c)/\1<=cs.length/\cs.length<=400/\∀r H',DN H H'->T4o H' r (wt cs)->Q r H'
theorem rN{di dp d:DD}{lets l1 l2:Addr}(yB:mg "LETTERS"=some (.ref lets))(M_lets:sL P w K lets (lkv l1 l2))(k_l:∀H,SqT K H l1 (cG 108).vs)(k_r:∀H,SqT K H l2 (cG 114).vs)(yF:(dg "is_word" 17 ["text"] di 1 Gf))(D_po:(dg "product_of" 11 ["tables"] dp 2 (ur K)))(D:Def K mg "table_of" (top 18) ["word"] d):(fk 3 d ["word"] Ih):=by
 exists["word"]
 obtain⟨cs,rfl,hlr,l1',l400,q⟩:=h;refine⟨_,(ag (br (dQ (bH (bb yF.1 yF.2 (0) ax))) (ai (Ey _)) (DR _)) (ai (aC (bb D_po.1 D_po.2 (aO (ak (ts:=["letter"]) (cap:=[]) (js:=[]) rfl rfl rfl rfl rfl rfl (by decide +kernel)) (mH (0)) (ad 0 (nd ["letter"])) (@aR _) (om M_lets (cy (.ref lets) yB rfl) (0))) (by rfl))))),?_⟩
 walk_at "d"
 have hz:asc (txt cs):=⟨by rw[<- CF,AZ];intro c hc;exact Dd (by rcases hlr c hc with rfl|rfl<;>decide),by show cs.toArray.size<=100000;rw[Aj];lia⟩
 have hwb:gg (txt cs)=true:=Hl.mpr ⟨by show cs.toArray.size<=400;rw[Aj];exact l400,hlr⟩;refine⟨_,rfl,txt cs,rfl,hz,fun H1 S1=>⟨gg (txt cs),rfl,?_⟩⟩;rw[hwb];refine⟨_,rfl,txt cs,rfl,hz.1,?_⟩;have sz:(txt cs).cps.size=cs.length:=by show cs.toArray.size=_;simp
 refine qJ (z:=txt cs) (fun i ys H'=>H'=H1/\ys=(cs.take i).map fun c=>V.ref (if c=108 then l1 else l2)) ⟨rfl,rfl⟩ (fun i ys H' hi y=>by rw[y.2,zV,Az];lia) (au (by lia)) (fun i c ys H' hc' y=>?_) (fun ys H' y p hp=>?_)
 ·obtain⟨rfl,rfl⟩:=y;have hi:i<(txt cs).cps.size:=(By.mp hc').1;have hc2:cs[i]?=some c:=by
   have:(txt cs).cps.toList[i]?=some c:=by rw[AO];exact hc'
   exact this
  have lc:=hlr c (Aq hc2);refine⟨_,rfl,.inr ⟨#[c]⟩,_,rfl,rfl,uR l1 l2 c lc,Nx.mk hi ⟨rfl,?_⟩⟩;rw[Au,hc2,An];rfl
 ·obtain⟨rfl,rfl⟩:=y;rw[sz,Bg];refine⟨p,_,cs.map cG,1,rfl,fun z=>?_,SqL.of ae,vv hlr fun c hc=>?_,fun t ht=>?_,?_,by decide,fun r H2 S h4=>q r H2 (S1.trans ((af hp _).trans S)) ?_⟩
  ·have:=List.map_eq_nil_iff.mp z;rw[this] at l1';exact absurd l1' (by decide)
  ·rcases hc with rfl|rfl
   ·exact⟨l1,rfl,k_l _⟩
   ·exact⟨l2,rfl,k_r _⟩
  ·obtain⟨c,hc,rfl⟩:=Ae.mp ht;exact tH (hlr c hc)
  ·rw[zV];lia
  ·rw[gc] at h4;exact h4
open KM
theorem uv{x y:List Nat}{z:List Nat}(e:y=x++z)(ne:z≠[]):x<y:=by
 subst e;induction x with
 |nil=>
  cases z with
  |nil=>exact absurd rfl ne
  |cons a b=>exact List.Lex.nil
 |cons a x ih=>exact List.Lex.cons ih
theorem sD{ks:List (List Nat)}(h:sortedS (ks.map txt)=true){i j:Nat}(hij:i<j)(hj:j<ks.length):¬ks.getD j []<ks.getD i []:=by
 have p:=BK.mp (EK h);have hi:i<ks.length:=by lia
 have:=CQ.mp p i j hi hj hij;rw[Am,Am,Ac hi,Ac hj];exact this
theorem kM{ks:List (List Nat)}(hn:ks.Nodup)(hs:sortedS (ks.map txt)=true){i j:Nat}{s t:List Nat}(hij:i<j)(hj:j<ks.length)(e:bj ks (i::s)=bj ks (j::t)):∃z,z≠[]/\ks.getD j []=ks.getD i []++z:=by
 rw[aH,aH] at e;have hi:i<ks.length:=by lia
 have ne:ks.getD i []≠ks.getD j []:=fun q=>by
  rw[Am,Am,Ac hi,Ac hj] at q;have:=(Bz hn).mp q;lia
 rcases Fo e with ⟨z,h1,_⟩|⟨z,h1,_⟩
 ·exfalso;have zn:z≠[]:=fun q=>ne (by rw[h1,q,AA]);exact sD hs hij hj (uv h1 zn)
 ·exact⟨z,fun q=>ne (by rw[h1,q,AA]),h1⟩
def Km:Sp:=fun vs H Q _=>∃l ws,vs=[.ref l]/\H l=some (.lst (ao ws))/\Wok ws/\∀p ks H',DN H H'->H' p=some (.lst (ao ks))->ks.Perm (nW ws)->sortedS (ks.map txt)=true->Q (.ref p) H'
theorem wK{dn d:DD}(xO:(dg "needed_of" 41 ["words"] dn 4 IC))(D:Def K mg "needed_words" (top 44) ["words"] d)(xm:mg "sorted"=none):(fk 5 d ["words"] Km):=by
 exists["words"]
 obtain⟨l,ws,rfl,hl,hw,q⟩:=h;refine⟨_,(ai (aC (aP GF xm ED (aG (aO (ak (ts:=["number"]) (cap:=["words"]) (js:=[0]) rfl rfl rfl rfl rfl rfl (by decide +kernel)) (aJ (bb xO.1 xO.2 (0) ax)) (ad 0 (nd ["number","words"])) (@aR _) (aK (show IxR _ (iQ K) from DO) (1) (0))) (by rfl))))),?_⟩
 walk_at "d"
 refine⟨_,rfl,l,ws,rfl,hl,hw,fun p0 H1 S1 n0 g0=>⟨p0,rfl,⟨_,SqL.of g0⟩,?_⟩⟩;have nl:=mi ws;have n9:=hw.n8;refine bZ (K:=K) (a:=p0) (xs:=nvs (nIx ws)) (fun i ys H'=>H'=H1/\ys=ao (((nIx ws).take i).map fun k=>ws.getD k [])) ⟨rfl,rfl⟩ (fun i ys H' hi z=>by rw[z.2,aI,zV,Az];lia) (au (by show((nIx ws).map _).length<=_;rw[zV];lia)) (fun i ys H' hi z=>by rw[z.1];exact SqL.of g0) (fun i v ys H' hv z=>?_) (fun ys H' z p1 hp1=>?_)
 ·obtain⟨rfl,rfl⟩:=z;have hi:i<(nvs (nIx ws)).length:=(Ai.mp hv).1;rw[Ao] at hv;obtain⟨n,hn,rfl⟩:=Be.mp hv;have hn':=uf (Aq hn);refine⟨_,rfl,_,rfl,l,_,_,_,rfl,rfl,SqL.of (S1 _ _ hl),bq hn',Nx.mk hi ⟨rfl,?_⟩⟩;rw[Au,An,hn];exact(bO _ _).symm
 obtain⟨rfl,rfl⟩:=z;have el:(nvs (nIx ws)).length=(nIx ws).length:=zV ..;rw[el,Bg];have et:ao ((nIx ws).map fun k=>ws.getD k [])=((nW ws).map txt).map V.str:=by unfold nW;rw[AJ,AJ];show List.map _ (List.map _ _)=_;rw[AJ];rfl
 rw[et];refine⟨p1,(nW ws).map txt,rfl,SqL.of ae,by rw[zV];have:=iE ws;lia,fun l2 zs pz sz nl2=>?_⟩;have S2:=af hp1 (.lst (((nW ws).map txt).map V.str));have S3:=af nl2 (.lst (zs.map V.str));obtain⟨ks,rfl⟩:∃ks:List (List Nat),zs=ks.map txt:=by
  refine⟨zs.map fun z=>z.cps.toList,?_⟩;rw[AJ]
  conv=>lhs;rw[<- BX zs]
  exact BG fun z _=>qx z
 refine q l2 ks _ (S1.trans (S2.trans S3)) (by rw[ae,AJ];rfl) ?_ sz;exact(sx (ws:=ks) (os:=nW ws)).mp pz
def Je:Sp:=fun vs H Q _=>∃l ks t la lb i j s1 s2 z,vs=[.ref l,.ref t]/\H l=some (.lst (ao ks))/\H t=some (.tup [.ref la,.ref lb])/\H la=some (.lst (iv (i::s1)))/\H lb=some (.lst (iv (j::s2)))/\i<ks.length/\j<ks.length/\ks.getD j []=ks.getD i []++z/\(∀x∈ks,x.length<=40)/\Q (.str (txt z)) H
theorem vg{d:DD}(D:Def K mg "left_between" (top 45) ["words","twins"] d)(xf:mg "len"=none):(fk 1 d ["words","twins"] Je):=by
 exists["words","twins","one","other"]
 obtain⟨l,ks,t,la,lb,i,j,s1,s2,z,rfl,hl,ht,ha,hb,hi,hj,ez,h40,q⟩:=h;refine⟨_,(ag (du (1) (dq (av (aj 2) (av (aj 3) (DW _))))) (ai (aC (aV Ei (aK DO (0) (aK DO (3) (ah _))) (bo (aM DM xf (aK DO (0) (aK DO (2) (ah _))) (by rfl))) (Ea _))))),?_⟩
 walk_at "d"
 have l1:=h40 _ (aw hi);have l2:=h40 _ (aw hj);have a1:atI (iv (i::s1)) 0=some (.int ((i:Nat):Int)):=aW (j:=0) rfl;have a2:atI (iv (j::s2)) 0=some (.int ((j:Nat):Int)):=aW (j:=0) rfl;refine⟨_,rfl,t,_,rfl,SqT.of ht,rfl,_,_,rfl,_,_,rfl,rfl,?_⟩;refine⟨_,rfl,_,rfl,lb,_,0,_,rfl,rfl,SqL.of hb,a2,l,_,_,_,rfl,rfl,SqL.of hl,bq hj,?_⟩;refine⟨_,rfl,_,rfl,la,_,0,_,rfl,rfl,SqL.of ha,a1,l,_,_,_,rfl,rfl,SqL.of hl,bq hi,txt (ks.getD i []),rfl,au (by show(ks.getD i []).length<=1000000;lia),_,rfl,txt (ks.getD j []),rfl,au (by show(ks.getD j []).length<=1000000;lia),?_⟩;rw[show Txt.slice (txt (ks.getD j [])) (some (((txt (ks.getD i [])).length:Nat):Int)) none=txt ((ks.getD j []).drop (ks.getD i []).length) from bw _ _,ez,AU];exact q
open KM
theorem bL{T:Addr}{H H':Hp}{ps:Array Value}(S:SmB T H H')(hT:H T=some (.tbl ps)){b:Addr}{o:HO}(e:H b=some o)(ne:∀q,o≠.tbl q):H' b=some o:=S b o (dg e hT (ne _)) e
def xc (T:Addr):Sp:=fun vs H Q _=>∃l ws,vs=[.ref l]/\H l=some (.lst (ao ws))/\Wds ws/\Ep Fx Fn T H/\∀p hs H',SmB T H H'->Ep Fx Fn T H'->H' p=some (.lst (ao hs))->GC ws hs->Uni ws hs->sortedS (hs.map txt)=true->Q (.ref p) H'
structure Hst(T:Addr)(ws:List (List Nat))(H0:Hp)(Kp_:Addr)(ks:List (List Nat))(H:Hp):Prop where
 sm:SmB T H0 H
 lt:Ep Fx Fn T H
 g:H Kp_=some (.lst (ao ks))
 kp:Kp ws ks
 un:Uni ws ks
 so:sortedS (ks.map txt)=true
def TwR (T:Addr)(ks:List (List Nat))(H:Hp)(v:V):Prop:=(v=.non/\∃dn,Dij ks dn [])\/∃p la lb a b dn E f,v=.ref p/\Dij ks dn E/\([],f)∈E/\(f.2=(a,b)\/f.2=(b,a))/\a.headD 0<b.headD 0/\H p=some (.tup [.ref la,.ref lb])/\H la=some (.lst (iv a))/\H lb=some (.lst (iv b))
theorem TwR.rows{T:Addr}{ks:List (List Nat)}{H:Hp}{p:Addr}(h:TwR T ks H (.ref p)):∃la lb i j s t,H p=some (.tup [.ref la,.ref lb])/\H la=some (.lst (iv (i::s)))/\H lb=some (.lst (iv (j::t)))/\i<j/\i<ks.length/\j<ks.length/\(∀k∈s,k<ks.length)/\(∀k∈t,k<ks.length)/\bj ks (i::s)=bj ks (j::t):=by
 rcases h with ⟨h,_⟩|⟨p',la,lb,a,b,dn,E,f,e,hd,hf,hab,hlt,h1,h2,h3⟩
 ·cases h
 cases e;obtain⟨tr,_⟩:=hd.wt.trk _ hf;obtain⟨i,j,s,t,ea,eb,ne⟩:=tr.ne;have eq:bj ks f.2.1=bj ks f.2.2:=by have:=tr.eq;rw[AA] at this;exact this
 have ha:=tr.a;have hb:=tr.b;rw[ea] at eq ha;rw[eb] at eq hb;rcases hab with e|e
 ·have e1:a=i::s:=by rw[<- ea,e]
  have e2:b=j::t:=by rw[<- eb,e]
  rw[e1] at h2 hlt;rw[e2] at h3 hlt;exact⟨la,lb,i,j,s,t,h1,h2,h3,hlt,ha i zX,hb j zX,fun k hk=>ha k (Af _ hk),fun k hk=>hb k (Af _ hk),eq⟩
 ·have e1:b=i::s:=by rw[<- ea,e]
  have e2:a=j::t:=by rw[<- eb,e]
  rw[e1] at h3 hlt;rw[e2] at h2 hlt;exact⟨la,lb,j,i,t,s,h1,h2,h3,hlt,hb j zX,ha i zX,fun k hk=>hb k (Af _ hk),fun k hk=>ha k (Af _ hk),eq.symm⟩
theorem Kp.ud{ws ks:List (List Nat)}(h:Kp ws ks){dn:List (List Nat×Nat)}(hd:Dij ks dn []):UD ks:=hd.closed.ud fun i hi z=>by
 have:=h.l1 _ (aw hi);rw[z] at this;exact absurd this (by decide)
theorem wF{dn dt db d:DD}{T:Addr}(D_nw:(dg "needed_words" 44 ["words"] dn 5 Km))(D_to:(dg "twins_of" 38 ["words"] dt 4 (vz T)))(yG:(dg "left_between" 45 ["words","twins"] db 1 Je))(D:Def K mg "hull_words" (top 46) ["words"] d):(fk 6 d ["words"] (xc T)):=by
 exists["words","kept","twins"]
 obtain⟨l,ws,rfl,hl,hw,hT,q⟩:=h;refine⟨_,(ag (ay 1 (Or.inl rfl) (bb D_nw.1 D_nw.2 (0) ax)) (ag (ay 2 (Or.inl rfl) (iB (bb D_to.1 D_to.2 (1) ax))) (ag (dP (aB EI (2) (bU _) (aE _)) (ag (ay 1 (Or.inl rfl) (bb D_nw.1 D_nw.2 (aA Ff (1) (aS (aG (aY yG.1 yG.2 (DJ (1) (aG (2) ax) ax)) eW))) (by rfl))) (ai (ay 2 (Or.inl rfl) (iB (bb D_to.1 D_to.2 (1) ax)))))) (ai (aC (1)))))),?_⟩
 walk_at "d"
 have wds:∀ks,Kp ws ks->Wds ks:=fun ks h=>⟨h.n1,Ak h.n8 hw.n8,h.lr,h.l1,h.len 40 hw.l40⟩
 refine⟨_,rfl,l,ws,rfl,hl,hw.ok,fun p1 ks1 H1 S1 g1 pr1 so1=>?_⟩;have K1:=Kp.start hw pr1;have T1:=hT.same S1;have go:∀(pk:Addr)(ks:List (List Nat))(Hx:Hp),Hst T ws H pk ks Hx->vz T [.ref pk] Hx (fun v H'=>Hst T ws H pk ks H'/\TwR T ks H' v) E0:=fun pk ks Hx h=>by
  obtain⟨psx,gx,_⟩:=h.lt.ex;refine⟨pk,ks,rfl,h.g,wds ks h.kp,h.lt,fun dn H' hd Sx Lx=>⟨⟨h.sm.trans Sx,Lx,bL Sx gx h.g (fun _ z=>by cases z),h.kp,h.un,h.so⟩,.inl ⟨rfl,dn,hd⟩⟩,fun p la lb a b dn E f H' hd hf _ hab hlt e1 e2 e3 Sx Lx=>⟨⟨h.sm.trans Sx,Lx,bL Sx gx h.g (fun _ z=>by cases z),h.kp,h.un,h.so⟩,.inr ⟨p,la,lb,a,b,dn,E,f,rfl,hd,hf,hab,hlt,e1,e2,e3⟩⟩⟩
 refine⟨fun v H'=>Hst T ws H p1 ks1 H'/\TwR T ks1 H' v,⟨_,rfl,go p1 ks1 H1 ⟨SmB.of S1,T1,g1,K1,fun hs ud hp x hx=>hp x (cE hw.ok (pr1.mem_iff.mp hx)),so1⟩⟩,fun v1 H2 z2=>?_⟩;obtain⟨h2,w2⟩:=z2;refine⟨fun m σ H'=>∃pk ks v,σ=[some (.ref l),some (.ref pk),some v]/\Hst T ws H pk ks H'/\TwR T ks H' v/\m=(ks.map List.length).sum,⟨_,p1,ks1,v1,rfl,h2,w2,rfl⟩,?_⟩;rintro m σ H3 ⟨pk,ks,v,rfl,h3,w3,rfl⟩;refine⟨_,rfl,rfl,_,rfl,?_⟩;cases v with
 |non=>
  obtain⟨dn,hd⟩:∃dn,Dij ks dn []:=by
   rcases w3 with ⟨_,h⟩|⟨p,_,_,_,_,_,_,_,e,_⟩
   ·exact h
   ·cases e
  exact⟨_,rfl,q pk ks H3 h3.sm h3.lt h3.g ⟨h3.kp,h3.kp.ud hd⟩ h3.un h3.so⟩
 |ref p=>
  obtain⟨la,lb,i,j,s1,t1,gp,ga,gb,hij,hi,hj,hs,ht,e⟩:=w3.rows;obtain⟨z,z1,ez⟩:=kM h3.kp.nd h3.so hij hj e;have h40:=h3.kp.len 40 hw.l40;have zl:z.length<=40:=by
   have:=h40 _ (aw hj);rw[ez,zW] at this;lia
  refine⟨_,fun σ' H' z=>z,?_⟩;refine⟨_,rfl,_,rfl,_,rfl,pk,ks,p,la,lb,i,j,s1,t1,z,rfl,h3.g,gp,ga,gb,hi,hj,ez,h40,au (by show 1<=1000000;decide),fun B nB=>?_⟩;have S4:=af nB (.lst (ao [z]));have k8:=h3.kp.n8;have w8:=hw.n8;refine⟨pk,B,_,ao [z],rfl,rfl,S4 _ _ h3.g,ae,au (by rw[aI,aI];show ks.length+1<=1000000;lia),fun C nC=>?_⟩;have S5:=af nC (.lst (ao ks++ao [z]));refine⟨C,ks++[z],rfl,by rw[ae,bO];rfl,h3.kp.wok hw z1 zl,fun p6 ks6 H6 S6 g6 pr6 so6=>?_⟩;obtain⟨K6,dec⟩:=h3.kp.step hw hi hj hs ht e ez z1 pr6;have S36:=S4.trans (S5.trans S6);refine⟨fun v H'=>Hst T ws H p6 ks6 H'/\TwR T ks6 H' v,⟨_,rfl,go p6 ks6 H6 ⟨h3.sm.trans (SmB.of S36),h3.lt.same S36,g6,K6,h3.un.step hi hj hs ht e ez z1 (fun x hx=>cE (h3.kp.wok hw z1 zl) (pr6.mem_iff.mp hx)),so6⟩⟩,fun v7 H7 z7=>?_⟩;exact⟨_,dec,p6,ks6,v7,rfl,z7.1,z7.2,rfl⟩
 |_=>
  exfalso;rcases w3 with ⟨h,_⟩|⟨p,_,_,_,_,_,_,_,e,_⟩
  ·cases h
  ·cases e
def qg (T:Addr):Sp:=fun vs H Q _=>∃l us ws,vs=[.ref l]/\H l=some (.lst us)/\Mks H us ws/\Wds ws/\Ep Fx Fn T H/\∀p vs' hs H',SmB T H H'->Ep Fx Fn T H'->H' p=some (.lst vs')->Mks H' vs' hs->GC ws hs->Uni ws hs->sortedS (hs.map txt)=true->Q (.ref p) H'
theorem su{dm dh dt d:DD}{T:Addr}(xx:(dg "maker_words" 25 ["makers"] dm 5 Hh))(D_hw:(dg "hull_words" 46 ["words"] dh 6 (xc T)))(yM:(dg "table_of" 18 ["word"] dt 3 Ih))(D:Def K mg "hull" (top 47) ["makers"] d):(fk 7 d ["makers"] (qg T)):=by
 exists["makers"]
 obtain⟨l,us,ws,rfl,hl,hm,hw,hT,q⟩:=h;refine⟨_,(ai (aC (aO (ak (ts:=["word"]) (cap:=[]) (js:=[]) rfl rfl rfl rfl rfl rfl (by decide +kernel)) (aJ (bb D_hw.1 D_hw.2 (bb xx.1 xx.2 (0) ax) eW)) (ad 0 (nd ["word"])) (@aR _) (bb yM.1 yM.2 (0) ax)))),?_⟩
 walk_at "d"
 refine⟨_,rfl,l,us,ws,rfl,hl,hm,hw,fun p1 H1 S1 g1=>?_⟩;refine⟨p1,ws,rfl,g1,hw,hT.same S1,fun p2 hs H2 S2 L2' g2 hh hu so=>⟨p2,rfl,⟨_,SqL.of g2⟩,?_⟩⟩;have wh:=hh.wds hw;have el:=aI hs;have h8:=wh.n8;refine bZ (K:=K) (a:=p2) (xs:=ao hs) (fun i ys H'=>DN H2 H'/\ys.length<=i/\Mks H' ys (hs.take i)) ⟨DN.refl _,zU _,.nil⟩ (fun i ys H' hi z=>z.2.1) (au (by lia)) (fun i ys H' hi z=>SqL.of (z.1 _ _ g2)) (fun i v ys H' hv z=>?_) (fun ys H' z p3 hp3=>?_)
 ·obtain⟨z1,z2,z3⟩:=z;have hi:i<(ao hs).length:=(Ai.mp hv).1;have hi':i<hs.length:=by lia
  rw[cb hi'] at hv;cases hv;have hmem:=aw hi';have et:hs.take (i+1)=hs.take i++[hs.getD i []]:=by rw[Au,Am,Ac hi'];rfl
  refine⟨_,rfl,hs.getD i [],rfl,wh.lr _ hmem,wh.l1 _ hmem,by have:=wh.l40 _ hmem;lia,fun r H3 S3 h3=>Nx.mk hi ⟨z1.trans S3,by rw[zW];exact DA z2,?_⟩⟩;rw[et];exact Paired.snoc (Mks.mono S3 z3) h3
 obtain⟨z1,z2,z3⟩:=z;rw[el,Ap (zU _)] at z3;have S4:=z1.trans (af hp3 (.lst ys));exact q p3 ys hs _ ((SmB.of S1).trans (S2.trans (SmB.of S4))) (L2'.same S4) ae (Mks.mono (af hp3 (.lst ys)) z3) hh hu so
theorem qG{α:Type}{xs:List α}{n:Nat}{v:α}(hl:xs.length=n+1)(h:xs[n]?=some v):atI xs (-1)=some v:=by
 have e:ixN xs.length (-1)=some n:=by
  unfold ixN;rw[hl,CZ (by decide),Dc (by lia)]
  congr 1
  lia
 unfold atI;rw[e];exact h
theorem ik{ws:List (List Nat)}(h:∀cs∈ws,∀c∈cs,El c):(PyData.list ((jP ws).map PyData.str)).canLay0=true:=pP (List.Perm.refl _) h
theorem ky(ws:List (List Nat)):(jP ws).isEmpty=ws.isEmpty:=by cases ws<;>rfl
theorem oz(x:List Nat):Pr [] x↔x=[]:=by
 constructor
 ·intro h;cases h with
  |nil=>rfl
  |snoc _ h=>cases h
 ·rintro rfl;exact .nil
def IF:Sp:=fun vs H Q _=>∃l ws x,vs=[.ref l,.str (txt x)]/\H l=some (.lst (ao ws))/\Wok ws/\(∀cs∈ws,∀c∈cs,El c)/\x.length<=400/\∀b H',DN H H'->(b=true↔Pr ws x)->Q (.bl b) H'
theorem tX{dy d:DD}(yH:(dg "_law_counts" 49 ["words","text"] dy 1 Jw))(D:Def K mg "_law_can" (top 57) ["words","text"] d):(fk 2 d ["words","text"] IF):=by
 exists["words","text"]
 obtain⟨l,ws,x,rfl,hl,hw,hlr,h400,q⟩:=h;refine⟨_,(ai (aC (hX (aB (cF hr.units) (0) (aS (DT _)) (aE _)) (cM EI (aK Ek (aK DO (aY yH.1 yH.2 (DJ (0) (aG (1) ax) ax)) (sq Hb (ah _))) (ah _)) (bU _) (aE _)) (cM Fb (1) (bQ _) (aE _))))),?_⟩
 walk_at "d"
 refine⟨_,rfl,Ag _,fun e1 ne1=>?_⟩;have S1:=af ne1 (.lst []);refine⟨.list ((jP ws).map PyData.str),.list [],.lst (SqL.of (S1 _ _ hl)) (eN ws▸DatAll.strs _),.lst (SqL.of ae) .nil,ik hlr,rfl,dD _,!(jP ws).isEmpty,(by show V.bl (!PyData.eqv _ _)=_;rw[FT]),?_⟩;rw[ky];cases hE:ws.isEmpty with
 |true=>
  obtain rfl:ws=[]:=List.isEmpty_iff.mp hE;refine⟨_,rfl,rfl,q _ _ S1 ?_⟩;rw[oz,decide_eq_true_iff];constructor
  ·intro h;have h1:V.str (txt x)=V.str (txt []):=h;exact cz (by injection h1)
  ·rintro rfl;rfl
 |false=>
  refine⟨_,rfl,_,rfl,l,ws,x,rfl,S1 _ _ hl,hw,h400,fun pC uC H2 S2 nC gC CC=>?_⟩;have cl:=cf ws x x.length;have lC:uC.length=x.length+1:=(Paired.length CC).trans cl;obtain⟨ac,eC,gac⟩:=CC.at (i:=x.length) (by lia);refine⟨1,rfl,pC,uC,-1,_,rfl,rfl,SqL.of gC,qG lC eC,ac,_,0,_,rfl,rfl,SqT.of gac,rfl,rfl,?_⟩;refine q _ _ (S1.trans S2) ?_;rw[<- qB hw x];cases ((cj ws x x.length).getD x.length (none,0)).1 with
  |none=>exact⟨fun h=>(by cases h),fun h=>absurd rfl h⟩
  |some n=>exact⟨fun _ h=>(by cases h),fun _=>rfl⟩
theorem jh(os:List (List Nat)):(os.map txt).map V.str=ao os:=by rw[AJ];rfl
theorem rY{zs':List Str}{zz:List (List Nat)}(h:zs'.Perm (ddS (zz.map txt).reverse)):∃os:List (List Nat),zs'=os.map txt/\os.Nodup/\∀z,z∈os↔z∈zz:=by
 have e:zs'=(zs'.map fun z=>z.cps.toList).map txt:=by
  rw[AJ];exact(List.map_id' zs').symm
 have nd:zs'.Nodup:=h.nodup_iff.mpr (GR _);refine⟨_,e,?_,fun z=>?_⟩
 ·rw[e] at nd;exact List.Pairwise.of_map txt (fun a b h e=>h (by rw[e])) nd
 ·have m:∀u:Str,u∈zs'↔∃y∈zz,txt y=u:=fun u=>by rw[h.mem_iff,EA,List.mem_reverse,Ae]
  rw[Ae];constructor
  ·rintro⟨u,hu,rfl⟩;obtain⟨y,hy,ey⟩:=(m u).mp hu;rw[<- ey];exact hy
  ·intro hz;exact⟨txt z,(m _).mpr ⟨z,hz,rfl⟩,rfl⟩
def ndB (ws:List (List Nat))(x:List Nat):Bool:=decide (Wn (oth ws x) x=0)
theorem jt{ws:List (List Nat)}(W:Wok ws)(x:List Nat):ndB ws x=true↔¬Pr (oth ws x) x:=by
 have h0:=qk (W.oth x) x;unfold ndB;rw[decide_eq_true_iff,<- h0.2];lia
theorem qM{ws os:List (List Nat)}(W:Wok ws)(nd:os.Nodup)(m:∀z,z∈os↔z∈ws):(os.filter (ndB ws)).Perm (nW ws):=
 (Cg (nd.filter _) (cZ W)).mpr fun x=>by rw[AK,m,jt W,fW W]
def JH:Sp:=fun vs H Q _=>∃l ws,vs=[.ref l]/\H l=some (.lst (ao ws))/\Wok ws/\(∀cs∈ws,∀c∈cs,El c)/\∀p ks H',DN H H'->H p=none->H' p=some (.lst (ao ks))->ks.Perm (nW ws)->ks.Pairwise (fun a b=>¬b<a)->Q (.ref p) H'
theorem vw{dc d:DD}(xN:(dg "_law_can" 57 ["words","text"] dc 2 IF))(D:Def K mg "_law_needed" (top 58) ["words"] d)(zF:mg "set"=none)(xm:mg "sorted"=none):(fk 3 d ["words"] JH):=by
 exists["words","found","word"]
 obtain⟨l,ws,rfl,hl,hw,hlr,q⟩:=h;have hh:=hr.hd;refine⟨_,(ag (ay 1 (Or.inl rfl) (aS (DT _))) (ag (bV (aJ (kS hh (rJ hh (0) zF) xm ED)) (al 2) (ai (br (dQ (bH (aY xN.1 xN.2 (DJ (aO (ak (ts:=["other"]) (cap:=["word"]) (js:=[2]) rfl rfl rfl rfl rfl rfl (by decide +kernel)) (aJ (0)) (ad 0 (nd ["other","word"])) (@bz _ _ _ (aB GL (0) (1) (aE _))) (0)) (aG (2) ax) (by rfl))))) (ai (bu (cR (1) (2) ax))) (DR _)))) (ai (aC (1))))),?_⟩
 walk_at "d"
 have n9:ws.length<=9:=hw.n8;have el:(ao ws).length=ws.length:=zV ..;refine⟨Ag _,fun L nL=>?_⟩;have F0:=(Hs.start H).new nL (.lst []);refine⟨_,rfl,l,ws.map txt,rfl,by rw[jh];exact SqL.of (F0.all _ _ hl),by rw[zV];lia,by have:=Ft (ws.map txt).reverse;rw[List.length_reverse,zV] at this;lia,fun A0 zs hp0 hs0 nA0=>?_⟩;obtain⟨os,rfl,nd0,m0⟩:=rY hp0;rw[jh];have S1:=af nA0 (.lst (ao os));have F1:=F0.mono S1;have gA:upd (upd H L (.lst [])) A0 (.lst (ao os)) A0=some (.lst (ao os)):=ae;have nLA:A0≠L:=fun q=>by rw[q,ae] at nA0;cases nA0
 generalize upd (upd H L (.lst [])) A0 (.lst (ao os))=H1 at S1 F1 gA ⊢;have ol:(ao os).length=os.length:=zV ..;have o9:os.length<=9:=by
  have:=KM.sub_len ws nd0 fun x hx=>(m0 x).mp hx;lia
 refine⟨A0,rfl,⟨_,SqL.of gA⟩,?_⟩;refine cu (K:=K) (a:=A0) (xs:=ao os) (fun i σ H'=>(∃e1,σ=[some (.ref l),some (.ref L),e1])/\Hs H [(L,.lst (ao ((os.take i).filter (ndB ws))))] H'/\H' A0=some (.lst (ao os))) ⟨⟨_,rfl⟩,F1,gA⟩ (fun i σ H' hi z=>SqL.of z.2.2) (fun i v σ H' hv z=>?_) (fun σ H' z=>?_)
 rotate_left
 ·obtain⟨⟨e1,rfl⟩,F,_⟩:=z;rw[ol,Ap (zU _)] at F;refine⟨_,rfl,q L _ H' F.all nL (F.get 0) (qM hw nd0 m0) ?_⟩;exact List.Pairwise.sublist List.filter_sublist (BK.mp (EK hs0))
 obtain⟨⟨e1,rfl⟩,F,gA'⟩:=z;have hi:i<(ao os).length:=(Ai.mp hv).1;obtain⟨hi',rfl⟩:=dO hv;have hl1:=F.all _ _ hl;have hm:os[i]∈ws:=(m0 _).mp (Ay hi');have et:os.take (i+1)=os.take i++[os[i]]:=dX hi';have h40:=hw.l40 _ hm;generalize os[i]=x at hm h40 et;refine⟨_,rfl,l,rfl,⟨_,SqL.of hl1⟩,?_⟩;refine bZ (K:=K) (a:=l) (xs:=ao ws) (fun k ys H2=>H2=H'/\ys.length<=k/\ys=ao (oth (ws.take k) x)) ⟨rfl,zU _,rfl⟩ (fun k ys H2 hk z=>z.2.1) (au (by lia)) (fun k ys H2 hk z=>by rw[z.1];exact SqL.of hl1) (fun k v ys H2 hv z=>?_) (fun ys H2 z p' hp'=>?_)
 ·obtain⟨rfl,z2,rfl⟩:=z;have hk:k<(ao ws).length:=(Ai.mp hv).1;obtain⟨hk',rfl⟩:=dO hv;have e1:oth (ws.take (k+1)) x=oth (ws.take k) x++(if decide (ws[k]≠x)=true then [ws[k]] else []):=by
   unfold oth;rw[dX hk',Bc,AQ];rfl
  refine⟨_,rfl,_,rfl,rfl,decide (ws[k]≠x),?_,?_⟩
  ·show V.bl (!decide (V.str (txt ws[k])=V.str (txt x)))=_;rw[ni,decide_not]
  cases hB:decide (ws[k]≠x) with
  |false=>
   show Nx (ao ws).length k (fun k ys H2'=>H2'=H2/\ys.length<=k/\ys=ao (oth (ws.take k) x)) _ _;refine Nx.mk hk ⟨rfl,by lia,?_⟩;rw[e1,hB,CZ (by decide),AA]
  |true=>
   refine⟨_,rfl,Nx.mk hk ⟨rfl,by rw[zW];exact DA z2,?_⟩⟩;rw[e1,hB,Dc rfl];exact(bO _ _).symm
 obtain⟨rfl,z2,rfl⟩:=z;rw[el,Ap (zU _)];have S2:=af hp' (.lst (ao (oth ws x)));have g2:upd H2 p' (.lst (ao (oth ws x))) p'=some (.lst (ao (oth ws x))):=ae;generalize upd H2 p' (.lst (ao (oth ws x)))=H3 at S2 g2;refine⟨_,rfl,p',oth ws x,x,rfl,g2,hw.oth x,(fun cs h=>hlr cs (Eg.mp h).1),by lia,fun b H5 S5 hb=>⟨b,rfl,?_⟩⟩;have S3:=S2.trans S5;have F5:=F.mono S3;have gA5:=S3 _ _ gA';have hN:ndB ws x=!b:=by
  cases b with
  |true=>exact Bs.mpr fun h=>(jt hw x).mp h (hb.mp rfl)
  |false=>exact(jt hw x).mpr fun h=>absurd (hb.mpr h) (by decide)
 have e5:(os.take (i+1)).filter (ndB ws)=(os.take i).filter (ndB ws)++(if ndB ws x=true then [x] else []):=by
  rw[et,Bc,AQ];rfl
 cases b with
 |true=>
  refine⟨⟨_,rfl⟩,?_,gA5⟩;rw[e5,hN];show Hs H [(L,.lst (ao (_++[])))] H5;rw[AA];exact F5
 |false=>
  refine⟨_,rfl,.inl ⟨rfl,_,SqL.of (F5.get 0)⟩,_,rfl,L,_,_,rfl,rfl,F5.get 0,?_,⟨_,rfl⟩,?_,?_⟩
  ·refine Ah (show _<1000000 from ?_) (au (zU _));rw[aI];have:=AX (ndB ws) (os.take i);rw[Az] at this;lia
  ·have F6:=F5.put 0 (.lst (ao ((os.take (i+1)).filter (ndB ws))));rw[e5,hN] at F6 ⊢;rw[Dc (by rfl),bO] at F6 ⊢;exact F6
  ·rw[ar nLA];exact gA5
open KM
def P3 (H:Hp)(v:V)(e:T3):Prop:=∃k,v=.ref k/\H k=some (.tup [.str (txt e.1),.str (txt e.2.1),.str (txt e.2.2)])
theorem P3.mono{H H':Hp}{v:V}{e:T3}(S:DN H H'):P3 H v e->P3 H' v e:=fun hq96=>by obtain⟨k,a,b⟩:=hq96;exact⟨k,a,S _ _ b⟩
abbrev P3s(H:Hp)(vs:List V)(ps:List T3):Prop:=Paired (P3 H) vs ps
theorem P3s.put{H:Hp}{vs:List V}{ps:List T3}{a:Addr}{o u:HO}(ha:H a=some u)(hn:∀xs,u≠.tup xs)(h:P3s H vs ps):P3s (upd H a o) vs ps:=
 Paired.EF h fun v e hq97=>by obtain⟨k,e1,e2⟩:=hq97;exact⟨k,e1,by rw[ar (fun z=>by rw[z,ha] at e2;exact hn _ (Dj e2))];exact e2⟩
def k3 (x:T3):List Key:=[.inr (txt x.1),.inr (txt x.2.1),.inr (txt x.2.2)]
theorem qu{x y:T3}(h:k3 x=k3 y):x=y:=by
 obtain⟨a,b,c⟩:=x;obtain⟨a',b',c'⟩:=y;unfold k3 at h;simp only[List.cons.injEq,Sum.inr.injEq,and_true] at h;obtain⟨h1,h2,h3⟩:=h;rw[cz h1,cz h2,cz h3]
def snK (sn:List T3):List (List Key×V):=sn.map fun e=>(k3 e,.bl true)
theorem ql(x:T3):∀B:List T3,(dZ (snK B) (k3 x)).isSome=decide (x∈B)
 |[]=>by rfl
 |y::r=>by
  have ih:=ql x r;show(dZ ((k3 y,.bl true)::snK r) (k3 x)).isSome=_;by_cases c:y=x
  ·rw[bF (by rw[c]),<- c];simp
  ·rw[bE (fun z=>c (qu z)),ih];refine decide_eq_decide.mpr ⟨fun z=>Af _ z,fun z=>(Ad.mp z).elim (fun q=>absurd q.symm c) id⟩
theorem vo{x:T3}{B:List T3}(h:x∉B):fL (snK B) (k3 x) (.bl true)=snK (B++[x]):=by
 have e:((snK B).any fun kv=>decide (kv.1=k3 x))=false:=by
  rw[Cj];intro kv hk;obtain⟨y,hy,rfl⟩:=Ae.mp hk;intro z;have:y=x:=qu (Dh z);exact h (this▸hy)
 unfold fL;rw[e];show snK B++[_]=_;unfold snK;rw[An];rfl
def p3D (e:T3):PyData:=.tuple [.str (txt e.1),.str (txt e.2.1),.str (txt e.2.2)]
theorem qD{H:Hp}:∀{vs:List V}{ps:List T3},P3s H vs ps->DatAll K H vs (ps.map p3D)
 |_,_,.nil=>.nil
 |_,_,.cons ⟨k,e1,e2⟩ r=>by rw[e1];exact .cons (.tup (SqT.of e2) (.cons (.str _) (.cons (.str _) (.cons (.str _) .nil)))) (qD r)
theorem rX{cs:List Nat}(h:∀c∈cs,El c):PyData.strOk (txt cs)=true:=sA fun c hc=>by
 rcases h c hc with h|h<;>rw[h]<;>decide
theorem sj{e:T3}(h:(∀c∈e.1,El c)/\(∀c∈e.2.1,El c)/\∀c∈e.2.2,El c):(p3D e).canLay0=true:=by
 have h1:(PyData.str (txt e.1)).canLay0=true:=rX h.1;have h2:(PyData.str (txt e.2.1)).canLay0=true:=rX h.2.1;have h3:(PyData.str (txt e.2.2)).canLay0=true:=rX h.2.2;show PyData.canLayAll0 [.str _,.str _,.str _]=true;simp only[PyData.canLayAll0,h1,h2,h3];rfl
theorem HU:∀{ps:List T3},(∀e∈ps,(∀c∈e.1,El c)/\(∀c∈e.2.1,El c)/\∀c∈e.2.2,El c)->PyData.canLayAll0 (ps.map p3D)=true
 |[],_=>rfl
 |e::r,h=>by
  show PyData.canLayAll0 (p3D e::r.map p3D)=true;simp only[PyData.canLayAll0,sj (h e zX),HU fun d hd=>h d (Af _ hd)];rfl
theorem Hc:∀ps:List T3,PyData.depthAll (ps.map p3D)<=1
 |[]=>Ag _
 |e::r=>by
  show max (p3D e).depth (PyData.depthAll (r.map p3D))<=1;exact Nat.max_le.mpr ⟨zU _,Hc r⟩
theorem pH(ps:List T3):(PyData.list (ps.map p3D)).depth<=60:=by
 have e:(PyData.list (ps.map p3D)).depth=PyData.depthAll (ps.map p3D)+1:=by simp[PyData.depth]
 have:=Hc ps;lia
theorem sR(ps:List T3):PyData.eqv (.list (ps.map p3D)) (.list [])=ps.isEmpty:=by
 cases ps<;>rfl
def F3 (ks:List (List Nat))(i j:Nat)(e:T3):Prop:=∃a b,(a<i\/a=i/\b<j)/\a<ks.length/\b<ks.length/\ks.getD a []≠ks.getD b []/\ks.getD a []=ks.getD b []++e.1/\e.2.1=ks.getD a []/\e.2.2=ks.getD b []
theorem rR{ks:List (List Nat)}{e:T3}:¬F3 ks 0 0 e:=fun⟨a,b,h,_⟩=>by rcases h with h|⟨_,h⟩<;>exact absurd h (Bt _)
theorem tL{ks:List (List Nat)}{i:Nat}{e:T3}:F3 ks i ks.length e↔F3 ks (i+1) 0 e:=by
 constructor
 ·rintro⟨a,b,h,h1,h2,r⟩;exact⟨a,b,.inl (by rcases h with h|⟨h,_⟩<;>lia),h1,h2,r⟩
 ·rintro⟨a,b,h,h1,h2,r⟩;refine⟨a,b,?_,h1,h2,r⟩;rcases h with h|⟨_,h⟩
  ·by_cases c:a=i
   ·exact .inr ⟨c,h2⟩
   ·exact .inl (by lia)
  ·exact absurd h (Bt _)
theorem rd{ks:List (List Nat)}{i j:Nat}{e:T3}(hi:i<ks.length)(hj:j<ks.length):F3 ks i (j+1) e↔F3 ks i j e\/ks.getD i []≠ks.getD j []/\ks.getD i []=ks.getD j []++e.1/\e.2.1=ks.getD i []/\e.2.2=ks.getD j []:=by
 constructor
 ·rintro⟨a,b,h,h1,h2,r⟩;by_cases c:a=i/\b=j
  ·obtain⟨rfl,rfl⟩:=c;exact .inr r
  ·exact .inl ⟨a,b,by rcases h with h|⟨h,h'⟩<;>lia,h1,h2,r⟩
 ·rintro (⟨a,b,h,h1,h2,r⟩|r)
  ·exact⟨a,b,by rcases h with h|⟨h,h'⟩<;>lia,h1,h2,r⟩
  ·exact⟨i,j,.inr ⟨rfl,AI _⟩,hi,hj,r⟩
theorem Wk.start{ks:List (List Nat)}{wt:List T3}(nd:ks.Nodup)(m:∀e,e∈wt↔F3 ks ks.length 0 e):Wk ks [] wt:=by
 refine⟨fun x hx=>?_,fun x hx=>absurd hx (by simp),List.nodup_nil,fun i j x hi hj ne e=>⟨_,_,.inr ((m (x,ks.getD i [],ks.getD j [])).mpr ⟨i,j,.inl hi,hi,hj,fun q=>?_,e,rfl,rfl⟩)⟩,fun x hx=>absurd hx (by simp)⟩
 ·obtain⟨a,b,_,h1,h2,h3,h4,h5,h6⟩:=(m x).mp hx;refine⟨?_,⟨_,aw h1,_,h4⟩,by rw[h5];exact aw h1,by rw[h6];exact aw h2⟩;rw[h5,h6];exact Tb.first h1 h2 h4 fun q=>h3 (by rw[h4,q,AA])
 ·rw[Am,Am,Ac hi,Ac hj] at q;exact ne ((Bz nd).mp q)
theorem e_mt:(txt []:Str)="":=by decide +kernel
theorem uN(x:List Nat):decide (V.str (txt x)=V.str "")=decide (x=[]):=by
 refine decide_eq_decide.mpr ⟨fun h=>?_,fun h=>by rw[h];decide +kernel⟩;injection h with h;exact cz (h.trans e_mt.symm)
theorem qQ{H H':Hp}(S:DN H H'){p:Addr}(h:H' p=none):H p=none:=by
 cases e:H p with
 |none=>rfl
 |some o=>rw[S _ _ e] at h;cases h
theorem dE{α β:Type}{R:α->β->Prop}{xs:List α}{ys:List β}{x:α}{y:β}(h:Paired R xs ys)(r:R x y):Paired R (xs++[x]) (ys++[y]):=cW h (.cons r .nil)
def Z3 (ks:List (List Nat))(x:T3)(i:Nat)(e:T3):Prop:=∃k,k<i/\k<ks.length/\(x.1=ks.getD k []++e.1\/ks.getD k []=x.1++e.1)/\e.2=x.2
theorem rL{ks:List (List Nat)}{x:T3}{i:Nat}{e:T3}(hi:i<ks.length):Z3 ks x (i+1) e↔(Z3 ks x i e\/x.1=ks.getD i []++e.1/\e.2=x.2)\/ks.getD i []=x.1++e.1/\e.2=x.2:=by
 constructor
 ·rintro⟨k,h1,h2,h3,h4⟩;by_cases c:k=i
  ·subst c;rcases h3 with h3|h3
   ·exact .inl (.inr ⟨h3,h4⟩)
   ·exact .inr ⟨h3,h4⟩
  ·exact .inl (.inl ⟨k,by lia,h2,h3,h4⟩)
 ·rintro ((⟨k,h1,h2,h3⟩|h)|h)
  ·exact⟨k,by lia,h2,h3⟩
  ·exact⟨i,AI _,hi,.inl h.1,h.2⟩
  ·exact⟨i,AI _,hi,.inr h.1,h.2⟩
theorem ve{ks:List (List Nat)}{x e:T3}:Z3 ks x ks.length e↔∃z,Nx1 ks x.1 z/\e=(z,x.2.1,x.2.2):=by
 constructor
 ·rintro⟨k,_,h2,h3,h4⟩;exact⟨e.1,⟨k,h2,h3⟩,Prod.ext rfl h4⟩
 ·rintro⟨z,⟨k,h2,h3⟩,rfl⟩;exact⟨k,h2,h2,h3,rfl⟩
def Ke:Sp:=fun vs H Q _=>∃l ks,vs=[.ref l]/\H l=some (.lst (ao ks))/\Wds ks/\ks.Nodup/\(∀H',DN H H'->UD ks->Q .non H')/\∀p o z i j s t H',DN H H'->H' p=some (.tup [.str (txt (o++z)),.str (txt o)])->i<ks.length->j<ks.length->(∀k∈s,k<ks.length)->(∀k∈t,k<ks.length)->ks.getD i []=o->ks.getD j []=o++z->z≠[]->bj ks (i::s)=bj ks (j::t)->Q (.ref p) H'
theorem uG{d:DD}(D:Def K mg "_law_twin_begins" (top 59) ["words"] d)(xf:mg "len"=none):(fk 1 d ["words"] Ke):=by
 exists["words","waiting","one","other","seen","rest","word"]
 obtain⟨l,ks,rfl,hl,hw,kd,q0,q1⟩:=h;have hh:=hr.hd;refine⟨_,(ag (ay 1 (Or.inl rfl) (aS (DT _))) (ag (bV (aJ (0)) (aj 2) (ai (bV (aJ (0)) (aj 3) (ai (br (@PW.pt _ _ _ (kB (aB GL (2) (3) (aE _)) (gm (bH (gu Dl PySem.F.slot_str_startswith PySem.F.type_str_startswith Eo (2) (aG (3) ax)))))) (ai (bu (cR (1) (aN (DJ (aV Ei (2) (bo (aM DM xf (3) ax)) (Ea _)) (DJ (2) (aG (3) ax) ax) (by rfl))) (by rfl)))) (DR _)))))) (ag (ay 4 (Or.inl rfl) (@HK _ _)) (ag (dP (aB (cF hr.units) (1) (aS (DT _)) (aE _)) (ag (du (gu Dk PySem.F.slot_list_pop PySem.F.type_list_pop HJ (1) (aG (ah _) bp)) (dq (av (aj 5) (av (aj 2) (av (aj 3) (DW _)))))) (ag (br (aB Fb (5) (bQ _) (aE _)) (ai (aC (aN (DJ (2) (aG (3) ax) ax)))) (DR _)) (ai (br (nU (fA (ie hr) (aN (DJ (5) (DJ (2) (aG (3) ax) ax) ax)) (4)) (by first|exact dU _ (by decide) (by decide)|rfl)) (ag (jE (ie hr) (4) (aN (DJ (5) (DJ (2) (aG (3) ax) ax) ax)) (fM _)) (ai (bV (aJ (0)) (aj 6) (ag (kr (br (bH (gu Dl PySem.F.slot_str_startswith PySem.F.type_str_startswith Eo (5) (aG (6) ax))) (ai (bu (cR (1) (aN (DJ (aV Ei (5) (bo (aM DM xf (6) ax)) (Ea _)) (DJ (2) (aG (3) ax) ax) (by rfl))) (by rfl)))) (DR _))) (ai (br (bH (gu Dl PySem.F.slot_str_startswith PySem.F.type_str_startswith Eo (6) (aG (5) ax))) (ai (bu (cR (1) (aN (DJ (aV Ei (6) (bo (aM DM xf (5) ax)) (Ea _)) (DJ (2) (aG (3) ax) ax) (by rfl))) (by rfl)))) (DR _))))))) (DR _)))))) (ai (aC (bU _))))))),?_⟩
 walk_at "d"
 have h8:=hw.n8;have tl:=aI ks;refine⟨Ag _,fun W nW=>?_⟩;have S0:=af nW (.lst []);have gW0:upd H W (.lst []) W=some (.lst []):=ae;generalize upd H W (.lst [])=H0 at S0 gW0 ⊢;have neW:l≠W:=az hl nW;have put:∀{H':Hp}{o:HO},DN H H'->DN H (upd H' W o):=fun S b o e=>by rw[ar (az e nW)];exact S _ _ e
 refine⟨_,rfl,l,rfl,⟨_,SqL.of (S0 _ _ hl)⟩,?_⟩;refine cu (K:=K) (a:=l) (xs:=ao ks) (fun i σ H'=>∃vs ps e2 e3,σ=[some (.ref l),some (.ref W),e2,e3,none,none,none]/\DN H H'/\H' W=some (.lst vs)/\P3s H' vs ps/\ps.length<=8*i/\∀e,e∈ps↔F3 ks i 0 e) ⟨[],[],_,_,rfl,S0,gW0,.nil,Ag _,fun e=>⟨fun h=>absurd h (by simp),fun h=>absurd h rR⟩⟩ (fun i σ H1 hi z=>by obtain⟨_,_,_,_,_,S1,_⟩:=z;exact SqL.of (S1 _ _ hl)) (fun i v σ H1 hv z=>?_) (fun σ H1 z=>?_)
 ·obtain⟨vs,ps,e2,e3,rfl,S1,gW1,pq1,ln1,mem1⟩:=z;have hi:i<ks.length:=by have:=(Ai.mp hv).1;rw[tl] at this;exact this
  rw[cb hi] at hv;cases hv;refine⟨_,rfl,l,rfl,⟨_,SqL.of (S1 _ _ hl)⟩,?_⟩;refine cu (K:=K) (a:=l) (xs:=ao ks) (fun j σ H'=>∃vs ps e3,σ=[some (.ref l),some (.ref W),some (.str (txt (ks.getD i []))),e3,none,none,none]/\DN H H'/\H' W=some (.lst vs)/\P3s H' vs ps/\ps.length<=8*i+j/\∀e,e∈ps↔F3 ks i j e) ⟨vs,ps,_,rfl,S1,gW1,pq1,ln1,mem1⟩ (fun j σ H2 hj z=>by obtain⟨_,_,_,_,S2,_⟩:=z;exact SqL.of (S2 _ _ hl)) (fun j v σ H2 hv z=>?_) (fun σ H2 z=>?_)
  ·obtain⟨vs,ps,e3,rfl,S2,gW2,pq2,ln2,mem2⟩:=z;have hj:j<ks.length:=by have:=(Ai.mp hv).1;rw[tl] at this;exact this
   rw[cb hj] at hv;cases hv;have li:(ks.getD i []).length<=40:=hw.l40 _ (aw hi);have lj:(ks.getD j []).length<=40:=hw.l40 _ (aw hj);have f3n:=fun e=>rd (e:=e) hi hj;generalize ks.getD i []=o at li f3n ⊢;generalize ks.getD j []=p at lj f3n ⊢;have sk:(∀e:T3,¬(o≠p/\o=p++e.1/\e.2.1=o/\e.2.2=p))->∀e,e∈ps↔F3 ks i (j+1) e:=fun no e=>by
    rw[mem2,f3n];exact⟨.inl,fun h=>h.elim id fun h=>absurd h (no e)⟩
   by_cases c:o=p
   ·refine⟨_,rfl,_,rfl,rfl,false,(by rw[c,Dd rfl];rfl),?_⟩;exact⟨vs,ps,_,rfl,S2,gW2,pq2,by lia,sk fun e h=>h.1 c⟩
   refine⟨_,rfl,_,rfl,rfl,true,(by rw[De (fun z=>c (cz (by injection z)))];rfl),?_⟩;refine⟨_,rfl,rfl,_,rfl,_,_,rfl,rfl,?_⟩;refine⟨_,rfl,?_⟩;cases hB:Txt.startswith (txt o) (txt p) with
   |false=>
    refine⟨vs,ps,_,rfl,S2,gW2,pq2,by lia,sk fun e h=>?_⟩;rw[(aX _ _).mpr ⟨_,h.2.1⟩] at hB;cases hB
   |true=>
    obtain⟨x,ex⟩:=(aX _ _).mp hB;refine⟨_,rfl,.inl ⟨rfl,_,SqL.of gW2⟩,_,rfl,_,rfl,txt p,rfl,au (by show p.length<=1000000;lia),_,rfl,txt o,rfl,au (by show o.length<=1000000;lia),?_⟩;rw[show Txt.slice (txt o) (some (((txt p).length:Nat):Int)) none=txt (o.drop p.length) from bw _ _];rw[show o.drop p.length=x by rw[ex,AU]];refine⟨_,rfl,_,rfl,au (by show 3<=1000000;decide),fun tp ntp=>?_⟩;have T1:=af ntp (.tup [.str (txt x),.str (txt o),.str (txt p)]);have lv:=Paired.length pq2;refine⟨W,_,_,rfl,rfl,T1 _ _ gW2,Ah (show vs.length<1000000 by lia) (au (zU _)),?_⟩;refine⟨vs++[.ref tp],ps++[(x,o,p)],_,rfl,put (S2.trans T1),ae,P3s.put (T1 _ _ gW2) (fun _ z=>by cases z) (dE (Paired.EF pq2 fun v e h=>h.mono T1) ⟨tp,rfl,ae⟩),by rw[zW];show _+1<=_;lia,fun e=>?_⟩;rw[zZ,mem2,f3n,zY];refine or_congr Iff.rfl ⟨fun h=>by rw[h];exact⟨c,ex,rfl,rfl⟩,fun hq98=>?_⟩;obtain⟨_,h2,h3,h4⟩:=hq98;refine Prod.ext ?_ (Prod.ext h3 h4);rw[ex] at h2;exact(Bk h2).symm
  obtain⟨vs,ps,e3,rfl,S2,gW2,pq2,ln2,mem2⟩:=z;rw[tl] at ln2 mem2;exact⟨vs,ps,_,_,rfl,S2,gW2,pq2,by lia,fun e=>(mem2 e).trans tL⟩
 obtain⟨vs,ps,e2,e3,rfl,S1,gW1,pq1,ln1,mem1⟩:=z;rw[tl] at ln1 mem1;have wk1:=Wk.start kd mem1;intro F nF;have S2:=af nF (.dT []);have gF:upd H1 F (.dT []) F=some (.dT (snK [])):=ae;have nF0:H F=none:=qQ S1 nF;have neF:W≠F:=az gW1 nF;have gW2:=S2 _ _ gW1;have pq2:P3s (upd H1 F (.dT [])) vs ps:=Paired.EF pq1 fun v e h=>h.mono S2;have S12:=S1.trans S2;generalize upd H1 F (.dT [])=H2 at gF gW2 pq2 S12 ⊢;have wo:∀{H':Hp}{o:HO},DN H H'->DN H (upd H' F o):=fun S b o e=>by rw[ar (az e nF0)];exact S _ _ e
 refine⟨fun m σ H'=>∃vs ps B e2 e3 e5 e6,σ=[some (.ref l),some (.ref W),e2,e3,some (.ref F),e5,e6]/\DN H H'/\H' W=some (.lst vs)/\H' F=some (.dT (snK B))/\P3s H' vs ps/\Wk ks B ps/\ps.length<=64+16*B.length/\m=(21000-B.length)*20+ps.length,⟨_,vs,ps,[],_,_,_,_,rfl,S12,gW2,gF,pq2,wk1,by show ps.length<=64+16*0;lia,rfl⟩,?_⟩;rintro m σ H3 ⟨vs,ps,B,e2,e3,e5,e6,rfl,S3,gW3,gF3,pq3,wk,lnp,rfl⟩;clear pq1 pq2 mem1 wk1 ln1;have ld:=wk.few h8 hw.l40;have lv:=Paired.length pq3;have sfl:∀x,Sfx ks x->x.length<=40/\∀c∈x,El c:=fun x hq99=>by
  obtain⟨w0,hw0,y,ey⟩:=hq99;have:=hw.l40 _ hw0;rw[ey,zW] at this;exact⟨by lia,fun c hc=>hw.lr _ hw0 c (by rw[ey];exact Ab _ hc)⟩
 have lrs:∀e∈ps,(∀c∈e.1,El c)/\(∀c∈e.2.1,El c)/\∀c∈e.2.2,El c:=fun e he=>⟨(sfl _ (wk.tr e he).sf).2,hw.lr _ (wk.tr e he).o,hw.lr _ (wk.tr e he).p⟩
 refine⟨_,rfl,Ag _,fun e ne=>?_⟩;have U:=af ne (.lst []);have gW4:=U _ _ gW3;have gF4:=U _ _ gF3;have pq4:P3s (upd H3 e (.lst [])) vs ps:=Paired.EF pq3 fun v e h=>h.mono U;have S4:=S3.trans U;refine⟨.list (ps.map p3D),.list [],.lst (SqL.of gW4) (qD pq4),.lst (SqL.of ae) .nil,HU lrs,rfl,pH ps,!ps.isEmpty,(by rw[<- sR];rfl),?_⟩;generalize upd H3 e (.lst [])=H4 at gW4 gF4 pq4 S4 ⊢;clear U ne S3 gW3 gF3 pq3;cases pq4 with
 |nil=>
  refine q0 _ S4 (wk.closed.ud fun i hi z=>?_);have:=hw.l1 _ (aw hi);rw[z] at this;exact absurd this (by decide)
 |@cons v x us Vv hx0 pq5=>
  obtain⟨k,rfl,hk⟩:=hx0;refine⟨_,fun σ' H' z=>z,?_⟩;refine⟨_,rfl,.inl ⟨rfl,_,SqL.of gW4⟩,W,.ref k::us,0,0,.ref k,rfl,rfl,gW4,by decide,by decide,by simp[seqIndex?],rfl,?_⟩;have nkW:k≠W:=fun z=>by rw[z,gW4] at hk;cases hk
  have S6:=put (o:=.lst us) S4;have gW6:upd H4 W (.lst us) W=some (.lst us):=ae;have gF6:upd H4 W (.lst us) F=some (.dT (snK B)):=by rw[ar (Dw neF)];exact gF4
  have pq6:P3s (upd H4 W (.lst us)) us Vv:=P3s.put gW4 (fun _ z=>by cases z) pq5;have hk6:upd H4 W (.lst us) k=some (.tup [.str (txt x.1),.str (txt x.2.1),.str (txt x.2.2)]):=by rw[ar nkW];exact hk
  show wb _ _ _ _ _ (upd H4 W (.lst us)) _;generalize upd H4 W (.lst us)=H6 at S6 gW6 gF6 pq6 hk6 ⊢;clear gW4 gF4 pq5 S4 hk;refine⟨k,_,rfl,SqT.of hk6,rfl,_,_,rfl,_,_,rfl,_,_,rfl,rfl,?_⟩;obtain⟨r0,o,p⟩:=x;dsimp only at hk6 ⊢;have tx:=wk.tr _ zX;have lr0:=(sfl _ tx.sf).1;have lx:r0.length<=40:=lr0;refine⟨_,rfl,rfl,decide (r0=[]),(by rw[<- uN]),?_⟩;by_cases hx0:r0=[]
  ·rw[Dd hx0];subst hx0;obtain⟨i,j,s1,t1,z,hi,hj,hs,ht,eo,ep,ez,z1,e⟩:=tx.tb.JQ;refine⟨_,rfl,_,rfl,au (by show 2<=1000000;decide),fun tp ntp=>?_⟩;have T1:=af ntp (.tup [.str (txt o),.str (txt p)]);have ez:o=p++z:=ez;have eo:ks.getD i []=o:=eo;have ep:ks.getD j []=p:=ep;refine q1 tp p z j i t1 s1 _ (S6.trans T1) (by rw[<- ez];exact ae) hj hi ht hs ep (by rw[eo];exact ez) z1 e
  rw[De hx0];refine⟨_,rfl,_,rfl,_,rfl,au (by show 3<=1000000;decide),fun tp ntp=>?_⟩;have T1:=af ntp (.tup [.str (txt r0),.str (txt o),.str (txt p)]);have S7:=S6.trans T1;have gW7:=T1 _ _ gW6;have gF7:=T1 _ _ gF6;have pq7:P3s (upd H6 tp (.tup [.str (txt r0),.str (txt o),.str (txt p)])) us Vv:=Paired.EF pq6 fun v e h=>h.mono T1;refine⟨_,rfl,F,_,rfl,FP.t (k:=k3 (r0,o,p)) gF7 ae,?_⟩;generalize upd H6 tp (.tup [.str (txt r0),.str (txt o),.str (txt p)])=H7 at S7 gW7 gF7 pq7 ⊢;clear T1 ntp gW6 gF6 pq6 S6 hk6;refine⟨_,rfl,?_⟩;rw[ql (r0,o,p) B];have lps:((r0,o,p)::Vv).length=Vv.length+1:=rfl;rw[lps] at lnp;by_cases hx:(r0,o,p)∈B
  ·rw[Dd hx];exact⟨_,by show(21000-B.length)*20+Vv.length<(21000-B.length)*20+(Vv.length+1);lia,us,Vv,B,_,_,_,_,rfl,S7,gW7,gF7,pq7,wk.drop hx,by lia,rfl⟩
  rw[De hx];refine⟨_,rfl,_,rfl,_,rfl,_,rfl,au (by show 3<=1000000;decide),fun tp ntp=>?_⟩;have T1:=af ntp (.tup [.str (txt r0),.str (txt o),.str (txt p)]);have S8:=S7.trans T1;have gW8:=T1 _ _ gW7;have gF8:=T1 _ _ gF7;have pq8:P3s (upd H7 tp (.tup [.str (txt r0),.str (txt o),.str (txt p)])) us Vv:=Paired.EF pq7 fun v e h=>h.mono T1;refine⟨F,_,rfl,Hy.t (k:=k3 (r0,o,p)) gF8 ae (Ah (show(snK B).length<1000000 by unfold snK;rw[zV];lia) (au (zU _))),?_⟩;generalize upd H7 tp (.tup [.str (txt r0),.str (txt o),.str (txt p)])=H8 at S8 gW8 gF8 pq8 ⊢;clear T1 ntp S7 gW7 gF7 pq7;rw[vo hx];have S9:=wo (o:=.dT (snK (B++[(r0,o,p)]))) S8;have gW9:upd H8 F (.dT (snK (B++[(r0,o,p)]))) W=some (.lst us):=by rw[ar neF];exact gW8
  have gF9:upd H8 F (.dT (snK (B++[(r0,o,p)]))) F=some (.dT (snK (B++[(r0,o,p)]))):=ae;have pq9:P3s (upd H8 F (.dT (snK (B++[(r0,o,p)])))) us Vv:=P3s.put gF8 (fun _ z=>by cases z) pq8;generalize upd H8 F (.dT (snK (B++[(r0,o,p)])))=H9 at S9 gW9 gF9 pq9 ⊢;clear S8 gW8 gF8 pq8;refine⟨_,rfl,l,rfl,⟨_,SqL.of (S9 _ _ hl)⟩,?_⟩;refine cu (K:=K) (a:=l) (xs:=ao ks) (fun i σ' H'=>∃us Z e6,σ'=[some (.ref l),some (.ref W),some (.str (txt o)),some (.str (txt p)),some (.ref F),some (.str (txt r0)),e6]/\DN H H'/\H' W=some (.lst us)/\H' F=some (.dT (snK (B++[(r0,o,p)])))/\P3s H' us (Vv++Z)/\Z.length<=2*i/\∀e,e∈Z↔Z3 ks (r0,o,p) i e) ⟨us,[],_,rfl,S9,gW9,gF9,by rw[AA];exact pq9,Ag _,fun e=>⟨fun h=>absurd h (by simp),fun hq100=>by obtain⟨k,h,_⟩:=hq100;exact absurd h (Bt _)⟩⟩ (fun i σ H1 hi z=>by obtain⟨_,_,_,_,S1,_⟩:=z;exact SqL.of (S1 _ _ hl)) (fun i v σ H1 hv z=>?_) (fun σ H1 z=>?_)
  ·obtain⟨us,Z,e6,rfl,S1,gW1,gF1,pq1,lZ,mZ⟩:=z;have hi:i<ks.length:=by have:=(Ai.mp hv).1;rw[tl] at this;exact this
   rw[cb hi] at hv;cases hv;have li:(ks.getD i []).length<=40:=hw.l40 _ (aw hi);have zn:=fun e=>rL (x:=(r0,o,p)) (e:=e) hi;generalize ks.getD i []=u at li zn ⊢;dsimp only at zn;refine⟨fun σ' H'=>∃us Z,σ'=[some (.ref l),some (.ref W),some (.str (txt o)),some (.str (txt p)),some (.ref F),some (.str (txt r0)),some (.str (txt u))]/\DN H H'/\H' W=some (.lst us)/\H' F=some (.dT (snK (B++[(r0,o,p)])))/\P3s H' us (Vv++Z)/\Z.length<=2*i+1/\∀e,e∈Z↔Z3 ks (r0,o,p) i e\/r0=u++e.1/\e.2=(o,p),?_,?_⟩
   ·refine⟨_,rfl,rfl,_,rfl,_,_,rfl,rfl,?_⟩;refine⟨_,rfl,?_⟩;cases hB:Txt.startswith (txt r0) (txt u) with
    |false=>
     refine⟨us,Z,rfl,S1,gW1,gF1,pq1,by lia,fun e=>?_⟩;rw[mZ];refine⟨.inl,fun h=>h.elim id fun h=>?_⟩;rw[(aX _ _).mpr ⟨_,h.1⟩] at hB;cases hB
    |true=>
     obtain⟨y,ey⟩:=(aX _ _).mp hB;refine⟨_,rfl,.inl ⟨rfl,_,SqL.of gW1⟩,_,rfl,_,rfl,txt u,rfl,au (by show u.length<=1000000;lia),_,rfl,txt r0,rfl,au (by show r0.length<=1000000;lia),?_⟩;rw[show Txt.slice (txt r0) (some (((txt u).length:Nat):Int)) none=txt (r0.drop u.length) from bw _ _];rw[show r0.drop u.length=y by rw[ey,AU]];refine⟨_,rfl,_,rfl,au (by show 3<=1000000;decide),fun tp ntp=>?_⟩;have T1:=af ntp (.tup [.str (txt y),.str (txt o),.str (txt p)]);have lv:=Paired.length pq1;rw[zW] at lv;refine⟨W,_,_,rfl,rfl,T1 _ _ gW1,Ah (show us.length<1000000 by lia) (au (zU _)),?_⟩;refine⟨us++[.ref tp],Z++[(y,o,p)],rfl,put (S1.trans T1),ae,by rw[ar (Dw neF)];exact T1 _ _ gF1,by rw[<- AF];exact P3s.put (T1 _ _ gW1) (fun _ z=>by cases z) (dE (Paired.EF pq1 fun v e h=>h.mono T1) ⟨tp,rfl,ae⟩),by rw[zW];show _+1<=_;lia,fun e=>?_⟩;rw[zZ,mZ,zY];refine or_congr Iff.rfl ⟨fun h=>by rw[h];exact⟨ey,rfl⟩,fun hq101=>?_⟩;obtain⟨h2,h3⟩:=hq101;refine Prod.ext ?_ h3;rw[ey] at h2;exact(Bk h2).symm
   rintro _ H2 ⟨us,Z,rfl,S2,gW2,gF2,pq2,lZ,mZ⟩;clear S1 gW1 gF1 pq1;have fin:∀{Z':List T3},(∀e,e∈Z'↔e∈Z\/u=r0++e.1/\e.2=(o,p))->∀e,e∈Z'↔Z3 ks (r0,o,p) (i+1) e:=fun h e=>by
    rw[h,mZ,zn]
   refine⟨_,rfl,rfl,_,rfl,_,_,rfl,rfl,?_⟩;refine⟨_,rfl,?_⟩;cases hB:Txt.startswith (txt u) (txt r0) with
   |false=>
    refine⟨us,Z,_,rfl,S2,gW2,gF2,pq2,by lia,fin fun e=>⟨.inl,fun h=>h.elim id fun h=>?_⟩⟩;rw[(aX _ _).mpr ⟨_,h.1⟩] at hB;cases hB
   |true=>
    obtain⟨y,ey⟩:=(aX _ _).mp hB;refine⟨_,rfl,.inl ⟨rfl,_,SqL.of gW2⟩,_,rfl,_,rfl,txt r0,rfl,au (by show r0.length<=1000000;lia),_,rfl,txt u,rfl,au (by show u.length<=1000000;lia),?_⟩;rw[show Txt.slice (txt u) (some (((txt r0).length:Nat):Int)) none=txt (u.drop r0.length) from bw _ _];rw[show u.drop r0.length=y by rw[ey,AU]];refine⟨_,rfl,_,rfl,au (by show 3<=1000000;decide),fun tp ntp=>?_⟩;have T1:=af ntp (.tup [.str (txt y),.str (txt o),.str (txt p)]);have lv:=Paired.length pq2;rw[zW] at lv;refine⟨W,_,_,rfl,rfl,T1 _ _ gW2,Ah (show us.length<1000000 by lia) (au (zU _)),?_⟩;refine⟨us++[.ref tp],Z++[(y,o,p)],_,rfl,put (S2.trans T1),ae,by rw[ar (Dw neF)];exact T1 _ _ gF2,by rw[<- AF];exact P3s.put (T1 _ _ gW2) (fun _ z=>by cases z) (dE (Paired.EF pq2 fun v e h=>h.mono T1) ⟨tp,rfl,ae⟩),by rw[zW];show _+1<=_;lia,fin fun e=>?_⟩;rw[zZ,zY];refine or_congr Iff.rfl ⟨fun h=>by rw[h];exact⟨ey,rfl⟩,fun hq102=>?_⟩;obtain⟨h2,h3⟩:=hq102;refine Prod.ext ?_ h3;rw[ey] at h2;exact(Bk h2).symm
  obtain⟨us,Z,e6,rfl,S1,gW1,gF1,pq1,lZ,mZ⟩:=z;rw[tl] at lZ mZ;have wk':=wk.more hx hx0 (nw:=Z) fun e=>(mZ e).trans ve;have lB:(B++[(r0,o,p)]).length=B.length+1:=by rw[zW];rfl
  have lVZ:(Vv++Z).length=Vv.length+Z.length:=zW;exact⟨_,by show(21000-(B++[(r0,o,p)]).length)*20+(Vv++Z).length<(21000-B.length)*20+(Vv.length+1);lia,us,Vv++Z,B++[(r0,o,p)],_,_,_,_,rfl,S1,gW1,gF1,pq1,wk',by lia,rfl⟩
open KM
def Ku:Sp:=fun vs H Q _=>∃l ws,vs=[.ref l]/\H l=some (.lst (ao ws))/\Wds ws/\∀p hs H',DN H H'->H' p=some (.lst (ao hs))->GC ws hs->Uni ws hs->hs.Pairwise (fun a b=>¬b<a)->Q (.ref p) H'
structure Lht(ws:List (List Nat))(H0:Hp)(l:Addr)(ks:List (List Nat))(H:Hp):Prop where
 sm:DN H0 H
 g:H l=some (.lst (ao ks))
 kp:Kp ws ks
 un:Uni ws ks
 so:ks.Pairwise (fun a b=>¬b<a)
def TbR (ks:List (List Nat))(H:Hp)(v:V):Prop:=(v=.non/\UD ks)\/∃p o z i j s t,v=.ref p/\H p=some (.tup [.str (txt (o++z)),.str (txt o)])/\i<ks.length/\j<ks.length/\(∀k∈s,k<ks.length)/\(∀k∈t,k<ks.length)/\ks.getD i []=o/\ks.getD j []=o++z/\z≠[]/\bj ks (i::s)=bj ks (j::t)
theorem wD{dn dt d:DD}(yj:(dg "_law_needed" 58 ["words"] dn 3 JH))(ym:(dg "_law_twin_begins" 59 ["words"] dt 1 Ke))(D:Def K mg "_law_hull" (top 60) ["words"] d)(xf:mg "len"=none):(fk 4 d ["words"] Ku):=by
 exists["words","pair","rest"]
 obtain⟨l,ws,rfl,hl,hw,q⟩:=h;have hh:=hr.hd;refine⟨_,(ag (ay 0 (Or.inl rfl) (bb yj.1 yj.2 (0) ax)) (ag (ay 1 (Or.inr rfl) (iB (bb ym.1 ym.2 (0) ax))) (ag (dP (aB EI (1) (bU _) (aE _)) (ag (ay 2 (Or.inl rfl) (aV Ei (aK Ek (1) (ah _)) (bo (aM DM xf (aK Ek (1) (ah _)) (by rfl))) (Ea _))) (ag (ay 0 (Or.inl rfl) (bb yj.1 yj.2 (aA Ff (aO (ak (ts:=["word"]) (cap:=["pair"]) (js:=[1]) rfl rfl rfl rfl rfl rfl (by decide +kernel)) (aJ (0)) (ad 0 (nd ["word","pair"])) (@bz _ _ _ (aB GL (0) (aK (show IxR _ (sJ K) from Ek) (1) (ah _)) (aE _))) (0)) (aS (aG (2) ax))) (by rfl))) (ai (ay 1 (Or.inr rfl) (iB (bb ym.1 ym.2 (0) ax))))))) (ai (aC (0)))))),?_⟩
 walk_at "d"
 have wds:∀ks,Kp ws ks->Wds ks:=fun ks h=>⟨h.n1,Ak h.n8 hw.n8,h.lr,h.l1,h.len 40 hw.l40⟩
 refine⟨_,rfl,l,ws,rfl,hl,hw.ok,hw.lr,fun p1 ks1 H1 S1 n1 g1 pr1 so1=>?_⟩;have K1:=Kp.start hw pr1;have go:∀(pk:Addr)(ks:List (List Nat))(Hx:Hp),Lht ws H pk ks Hx->Ke [.ref pk] Hx (fun v H'=>Lht ws H pk ks H'/\TbR ks H' v) E0:=fun pk ks Hx h=>
  ⟨pk,ks,rfl,h.g,wds ks h.kp,h.kp.nd,fun H' S ud=>⟨⟨h.sm.trans S,S _ _ h.g,h.kp,h.un,h.so⟩,.inl ⟨rfl,ud⟩⟩,fun p o z i j s t H' S gp hi hj hs ht eo eoz z1 e=>⟨⟨h.sm.trans S,S _ _ h.g,h.kp,h.un,h.so⟩,.inr ⟨p,o,z,i,j,s,t,rfl,gp,hi,hj,hs,ht,eo,eoz,z1,e⟩⟩⟩
 refine⟨fun v H'=>Lht ws H p1 ks1 H'/\TbR ks1 H' v,⟨_,rfl,go p1 ks1 H1 ⟨S1,g1,K1,fun hs ud hp x hx=>hp x (cE hw.ok (pr1.mem_iff.mp hx)),so1⟩⟩,fun v1 H2 z2=>?_⟩;obtain⟨h2,w2⟩:=z2;refine⟨fun m σ H'=>∃pk ks v e2,σ=[some (.ref pk),some v,e2]/\Lht ws H pk ks H'/\TbR ks H' v/\m=(ks.map List.length).sum,⟨_,p1,ks1,v1,_,rfl,h2,w2,rfl⟩,?_⟩;rintro m σ H3 ⟨pk,ks,v,e2,rfl,h3,w3,rfl⟩;refine⟨_,rfl,rfl,_,rfl,?_⟩;rcases w3 with ⟨rfl,ud⟩|⟨p,o,z,i,j,s1,t1,rfl,gp,hi,hj,hs,ht,eo,eoz,z1,e⟩
 ·exact⟨_,rfl,q pk ks H3 h3.sm h3.g ⟨h3.kp,ud⟩ h3.un h3.so⟩
 refine⟨_,fun σ' H' z=>z,?_⟩;have h40:=h3.kp.len 40 hw.l40;have mo:o∈ks:=by rw[<- eo];exact aw hi
 have moz:o++z∈ks:=by rw[<- eoz];exact aw hj
 have loz:=h40 _ moz;have lo:=h40 _ mo;have zl:z.length<=40:=by rw[zW] at loz;lia
 have o1:o≠[]:=fun q=>by have:=h3.kp.l1 _ mo;rw[q] at this;exact absurd this (by decide)
 have k8:=h3.kp.n8;have w8:=hw.n8;have el:=aI ks;refine⟨_,rfl,p,_,0,_,rfl,rfl,SqT.of gp,rfl,_,rfl,p,_,1,_,rfl,rfl,SqT.of gp,rfl,txt o,rfl,au (by show o.length<=1000000;lia),_,rfl,txt (o++z),rfl,au (by show(o++z).length<=1000000;lia),?_⟩;rw[show Txt.slice (txt (o++z)) (some (((txt o).length:Nat):Int)) none=txt ((o++z).drop o.length) from bw _ _,AU];refine⟨_,rfl,pk,rfl,⟨_,SqL.of h3.g⟩,?_⟩;refine bZ (K:=K) (a:=pk) (xs:=ao ks) (fun k ys H2=>H2=H3/\ys.length<=k/\ys=ao (oth (ks.take k) (o++z))) ⟨rfl,zU _,rfl⟩ (fun k ys H2 hk z=>z.2.1) (au (by lia)) (fun k ys H2 hk z=>by rw[z.1];exact SqL.of h3.g) (fun k v ys H2 hv z'=>?_) (fun ys H2 z' p' hp'=>?_)
 ·obtain⟨rfl,z2,rfl⟩:=z';have hk:k<(ao ks).length:=(Ai.mp hv).1;obtain⟨hk',rfl⟩:=dO hv;have e1:oth (ks.take (k+1)) (o++z)=oth (ks.take k) (o++z)++(if decide (ks[k]≠o++z)=true then [ks[k]] else []):=by
   unfold oth;rw[dX hk',Bc,AQ];rfl
  refine⟨_,rfl,_,rfl,p,_,0,_,rfl,rfl,SqT.of gp,rfl,rfl,decide (ks[k]≠o++z),?_,?_⟩
  ·show V.bl (!decide (V.str (txt ks[k])=V.str (txt (o++z))))=_;rw[ni,decide_not]
  cases hB:decide (ks[k]≠o++z) with
  |false=>
   show Nx (ao ks).length k (fun k ys H2'=>H2'=H2/\ys.length<=k/\ys=ao (oth (ks.take k) (o++z))) _ _;refine Nx.mk hk ⟨rfl,by lia,?_⟩;rw[e1,hB,CZ (by decide),AA]
  |true=>
   refine⟨_,rfl,Nx.mk hk ⟨rfl,by rw[zW];exact DA z2,?_⟩⟩;rw[e1,hB,Dc rfl];exact(bO _ _).symm
 obtain⟨rfl,z2,rfl⟩:=z';rw[el,Ap (zU _)];have lo8:(oth ks (o++z)).length<=ks.length:=AX _ _;have S4:=af hp' (.lst (ao (oth ks (o++z))));have g4:upd H2 p' (.lst (ao (oth ks (o++z)))) p'=some (.lst (ao (oth ks (o++z)))):=ae;generalize upd H2 p' (.lst (ao (oth ks (o++z))))=H4 at S4 g4 ⊢;refine⟨_,rfl,au (by show 1<=1000000;decide),fun B nB=>?_⟩;have S5:=af nB (.lst (ao [z]));refine⟨p',B,_,ao [z],rfl,rfl,S5 _ _ g4,ae,au (by rw[aI,aI];show _+1<=1000000;lia),fun C nC=>?_⟩;have S6:=af nC (.lst (ao (oth ks (o++z))++ao [z]));have W1:=h3.kp.wok hw z1 zl;have sub:∀x∈oth ks (o++z)++[z],x∈ks++[z]:=fun x hx=>(zZ.mp hx).elim (fun m=>Aw _ (Eg.mp m).1) fun m=>Ab _ m;have W2:Wok (oth ks (o++z)++[z]):=⟨by rw[zW];show _+1<=9;lia,fun x hx=>W1.l1 x (sub x hx),fun x hx=>W1.l40 x (sub x hx)⟩
 have lr2:∀cs∈oth ks (o++z)++[z],∀c∈cs,El c:=fun cs hc=>(zZ.mp hc).elim (fun m=>h3.kp.lr cs (Eg.mp m).1) fun m c hc'=>by rw[zY.mp m] at hc';exact h3.kp.lr _ moz c (Ab _ hc')
 refine⟨C,oth ks (o++z)++[z],rfl,by rw[ae,bO];rfl,W2,lr2,fun p6 ks6 H6 S7 n6 g6 pr6 so6=>?_⟩;have pr:=pr6.trans (qE W1 W2 mo o1 z1);have ez:ks.getD j []=ks.getD i []++z:=by rw[eo];exact eoz
 obtain⟨K6,dec⟩:=h3.kp.step hw hi hj hs ht e ez z1 pr;have S36:=S4.trans (S5.trans (S6.trans S7));refine⟨fun v H'=>Lht ws H p6 ks6 H'/\TbR ks6 H' v,⟨_,rfl,go p6 ks6 H6 ⟨h3.sm.trans S36,g6,K6,h3.un.step hi hj hs ht e ez z1 (fun x hx=>cE W1 (pr.mem_iff.mp hx)),so6⟩⟩,fun v7 H7 z7=>?_⟩;exact⟨_,dec,p6,ks6,v7,_,rfl,z7.1,z7.2,rfl⟩
theorem GX:∀ts:List Tb,PyData.canLayAll0 (ts.map Tb.dat)=true
 |[]=>rfl
 |t::r=>by
  have ih:=GX r;rw[Av];show(t.dat.canLay0&&PyData.canLayAll0 (r.map Tb.dat))=true;rw[ih];rfl
theorem bN(ts:List Tb):(PyData.list (ts.map Tb.dat)).canLay0=true:=by
 show PyData.canLayAll0 (ts.map Tb.dat)=true;exact GX ts
theorem FE:∀ts:List Tb,PyData.depthAll (ts.map Tb.dat)<=1
 |[]=>by show 0<=1;decide
 |t::r=>by
  have ih:=FE r;rw[Av];show max t.dat.depth (PyData.depthAll (r.map Tb.dat))<=1;have:t.dat.depth=1:=rfl;lia
theorem cX(ts:List Tb):(PyData.list (ts.map Tb.dat)).depth<=60:=by
 have:=FE ts;have e:(PyData.list (ts.map Tb.dat)).depth=PyData.depthAll (ts.map Tb.dat)+1:=by
  simp[PyData.depth]
 lia
theorem gv(ts:List Tb):V.bl (if true=true then !PyData.eqv (.list (ts.map Tb.dat)) (.list (ts.map Tb.dat)) else PyData.eqv (.list (ts.map Tb.dat)) (.list (ts.map Tb.dat)))=.bl false:=by
 rw[SeqAt.eqv_refl _ (bN ts)];rfl
theorem dB{H:Hp}:∀{vs:List V}{ws:List (List Nat)},Mks H vs ws->DatAll K H vs ((ws.map wt).map Tb.dat)
 |_,_,.nil=>.nil
 |_,_,.cons h r=>.cons (h.t4 (K:=K)).dat (dB r)
theorem ju{H:Hp}:∀{vs:List V}{ws:List (List Nat)}{j:Nat},Mks H vs ws->j<ws.length->∃v,vs[j]?=some v/\∃cs,ws[j]?=some cs/\T4o H v (wt cs)
 |_,_,_,.nil,h=>absurd h (by simp)
 |_,_,0,.cons h _,_=>⟨_,rfl,_,rfl,h⟩
 |_,_,j+1,.cons _ r,h=>by
  obtain⟨v,h1,cs,h2,h3⟩:=ju (j:=j) r (by simpa using h);exact⟨v,by simpa using h1,cs,by simpa using h2,h3⟩
open KM
theorem nZ{H H':Hp}(S:DN H H'){vs:List V}{ws:List (List Nat)}(h:Mks H vs ws):Mks H' vs ws:=Paired.EF h fun v s g=>g.mono S
theorem SqL.smb{H H':Hp}{T a:Addr}{ps:Array Value}{xs:List V}(hT:H T=some (.tbl ps))(h:SqL K H a xs)(S:SmB T H H'):SqL K H' a xs:=by
 rcases h with h|h
 ·rcases h with h|⟨o,h⟩
  ·exact .inl (.inl (S _ _ (dg h hT (fun z=>by cases z)) h))
  ·exact .inl (.inr ⟨o,S _ _ (dg h hT (fun z=>by cases z)) h⟩)
 ·exact .inr h
theorem tV{T l:Addr}{Hi H1 H2:Hp}(S:SmB T Hi H1)(n:Hi l=none)(d:Dr l H1 H2):SmB T Hi H2:=fun b o nT e=>by
 have z:b≠l:=az e n;exact aZ l _ _ _ (d.same b o (by rw[fZ z];exact S b o nT e))
theorem Ep.dr{pos:Pos}{q:Str}{T l:Addr}{H H':Hp}(h:Ep pos q T H)(ds:Ds H l)(d:Dr l H H'):Ep pos q T H':=by
 obtain⟨ps,h1,h2,h3⟩:=h.ex;obtain⟨x,y,z,e,_⟩:=ds;have tr:∀b o,H b=some o->o≠.lst [.int x,.int y,.int z]->H' b=some o:=fun b o hb ne=>aZ l _ _ _ (d.same b o (by rw[fZ (dg hb e ne)];exact hb));refine⟨ps,tr _ _ h1 (fun z=>by cases z),h2,?_⟩;rcases h3 with h3|⟨c,h3,h4⟩
 ·exact .inl h3
 ·exact .inr ⟨c,h3,tr _ _ h4 (fun z=>by cases z)⟩
structure Ks where
 draws:DD
 draw:DD
 IJ:DD
 lmk:DD
 ofl:DD
 can:DD
 lh:DD
 lr:DD
 ned:DD
 twn:DD
 JS:DD
structure All(T:Addr)(P:Program)(w:World)(K:W.Frag)(mg:Str->Option Value)(base:Heap)(d:Ks):Prop where
 xH:Def K mg "_law_draws" (top 50) ["script","k"] d.draws
 xj:Def K mg "_law_draw" (top 51) ["draws","many"] d.draw
 xo:Def K mg "_law_piece" (top 52) ["draws","most"] d.IJ
 yI:Def K mg "_law_makers" (top 53) ["draws"] d.lmk
 yk:Def K mg "_law_of_letters" (top 56) ["word"] d.ofl
 xN:Def K mg "_law_can" (top 57) ["words","text"] d.can
 Jb:Def K mg "_law_hull" (top 60) ["words"] d.lh
 JN:Def K mg "least_row" (top 30) ["makers","table"] d.lr
 yL:Def K mg "needed" (top 42) ["makers"] d.ned
 yn:Def K mg "twins" (top 39) ["makers"] d.twn
 xM:Def K mg "hull" (top 47) ["makers"] d.JS
 xP:(fk 1 d.draws ["script","k"] (mT K))
 xk:(fk 1 d.draw ["draws","many"] Gr)
 xr:(fk 2 d.IJ ["draws","most"] Ga)
 yZ:(fk 3 d.lmk ["draws"] JD)
 yR:(fk 3 d.ofl ["word"] (se K))
 ye:(fk 2 d.can ["words","text"] IF)
 JO:(fk 4 d.lh ["words"] Ku)
 Kh:(fk 6 d.lr ["makers","table"] Kj)
 zc:(fk 6 d.ned ["makers"] Kv)
 yT:(fk 6 d.twn ["makers"] (tI T))
 yd:(fk 7 d.JS ["makers"] (qg T))
 xh:mg "range"=none
 zE:mg "max"=none
 xu:mg "min"=none
 xf:mg "len"=none
 xn:mg "list"=none
 xg:mg "isinstance"=none
 xm:mg "sorted"=none
theorem Ik:DK ["script","k","draws","words","free","piece","j","row","makers","handed","due","found","least"] ["script"] (aq (top 61)):=by walk_at "s"
theorem jb(m:Int)(h:0<=m):-(2^62)<=(if (if m<8 then m else 8)>1 then (if m<8 then m else 8) else 1)/\(if (if m<8 then m else 8)>1 then (if m<8 then m else 8) else 1)<2^62/\(if (if m<8 then m else 8)>1 then (if m<8 then m else 8) else 1).toNat<=8:=by
 split<;>split<;>lia
theorem rh{x y:List Nat}(h1:¬y<x)(h2:¬x<y):x=y:=CB h1 h2
theorem oC{x y:List Int}(h1:¬y<x)(h2:¬x<y):x=y:=CB h1 h2
theorem mq{a b:List (List Nat)}(p:a.Perm b)(ha:a.Pairwise (fun x y=>¬y<x))(hb:b.Pairwise (fun x y=>¬y<x)):a=b:=List.Perm.eq_of_pairwise (le:=fun x y=>¬y<x) (fun x y _ _ h1 h2=>rh h1 h2) ha hb p
theorem rE{hs:List (List Nat)}(h:sortedS (hs.map txt)=true):hs.Pairwise (fun a b=>¬b<a):=(BK.mp (EK h)).imp fun {a b} z=>z
theorem GC.Kb{ws hs:List (List Nat)}(W:Wds ws)(h:GC ws hs)(nu:¬UD (nW ws)):hs.length<(nW ws).length:=by
 have hp:∀x∈hs,Pr hs x:=fun x hx=>Pr.one hx;rcases h.kp.Kk with p|b
 ·exact absurd (vm h.ud (cZ W.ok) fun w hw=>p.mem_iff.mpr hw) nu
 ·obtain⟨a,ha,c,hc,ne,y,f1,f2⟩:=b hs h.ud hp;have h1:=kz (R:=fun x y=>Fst hs x y) (fun x y z p q=>p.eq h.ud q) hs ((nW ws).erase c) h.kp.nd fun y' hy'=>by
   obtain⟨w,hw,fw⟩:=h.kp.fst hs h.ud hp y' hy' y' (Fst.self hy');by_cases q:w=c
   ·refine⟨a,(Cf ne).mpr ha,?_⟩;rw[q] at fw;rw[fw.eq h.ud f2];exact f1
   ·exact⟨w,(Cf q).mpr hw,fw⟩
  rw[CK hc] at h1;have:=CL hc;lia
theorem GC.Ki{ws hs:List (List Nat)}(W:Wds ws)(h:GC ws hs)(u:Uni ws hs)(ud:UD (nW ws)):(nW ws).Perm hs:=
 iw ⟨Kp.start W (List.Perm.refl _),ud⟩ h (fun gs _ hp x hx=>hp x (cE W.ok hx)) u
theorem fB{α β:Type}{R:α->β->Prop}{as' as:List α}(p:as'.Perm as):∀{bs:List β},Paired R as bs->∃bs',bs'.Perm bs/\Paired R as' bs':=by
 induction p with
 |nil=>intro bs h;exact⟨bs,.refl _,h⟩
 |cons x _ ih=>
  intro bs h;cases h with
  |cons h1 h2=>
   obtain⟨r,r1,r2⟩:=ih h2;exact⟨_::r,r1.cons _,.cons h1 r2⟩
 |swap x y l=>
  intro bs h;cases h with
  |cons h1 h2=>
   cases h2 with
   |cons h3 h4=>exact⟨_,.swap _ _ _,.cons h3 (.cons h1 h4)⟩
 |trans _ _ ih1 ih2=>
  intro bs h;obtain⟨r,r1,r2⟩:=ih2 h;obtain⟨q,q1,q2⟩:=ih1 r2;exact⟨q,q1.trans r1,q2⟩
theorem fC{α β:Type}{R:α->β->Prop}{S:α->α->Prop}{U:β->β->Prop}(f:∀a b x y,R a x->R b y->S a b->U x y):∀{as:List α}{bs:List β},Paired R as bs->as.Pairwise S->bs.Pairwise U
 |[],_,h,_=>by cases h;exact .nil
 |a::as,_,h,p=>by
  cases h with
  |cons h1 h2=>
   cases p with
   |cons p1 p2=>
    refine .cons (fun y hy=>?_) (fC f h2 p2);have:∀{cs:List α}{ds:List β},Paired R cs ds->∀y∈ds,∃c∈cs,R c y:=fun {cs}=>by
     induction cs with
     |nil=>intro ds h y hy;cases h;cases hy
     |cons c cs ih=>
      intro ds h y hy;cases h with
      |cons h1 h2=>
       rcases Ad.mp hy with rfl|hy
       ·exact⟨c,zX,h1⟩
       ·obtain⟨d,hd,r⟩:=ih h2 y hy;exact⟨d,Af _ hd,r⟩
    obtain⟨c,hc,rc⟩:=this h2 y hy;exact f _ _ _ _ h1 rc (p1 c hc)
def nsT (t:Tb):List Int:=[t.a,t.b,t.c,t.d]
theorem qI{t u:Tb}(h:(nsT t)=(nsT u)):t=u:=by
 cases t;cases u;unfold nsT at h;simp only[List.cons.injEq] at h;obtain⟨rfl,rfl,rfl,rfl,_⟩:=h;rfl
theorem gH{H:Hp}:∀{vs:List V}{ws:List (List Nat)},Mks H vs ws->∃ks:List Addr,vs=ks.map V.ref/\Paired (fun k t=>H k=some (.tup ((nsT t).map V.int))) ks (ws.map wt)
 |_,_,.nil=>⟨[],rfl,.nil⟩
 |_,_,.cons h r=>by
  obtain⟨a,rfl,ha⟩:=h;obtain⟨ks,rfl,p⟩:=gH r;exact⟨a::ks,rfl,.cons ha p⟩
theorem mK{a b:List Tb}(p:a.Perm b)(ha:a.Pairwise (fun x y=>¬(nsT y)<(nsT x)))(hb:b.Pairwise (fun x y=>¬(nsT y)<(nsT x))):a=b:=List.Perm.eq_of_pairwise (le:=fun x y=>¬(nsT y)<(nsT x)) (fun x y _ _ h1 h2=>qI (oC h1 h2)) ha hb p
theorem hV{H:Hp}:∀{ks:List Addr}{ts:List Tb},Paired (fun k t=>H k=some (.tup ((nsT t).map V.int))) ks ts->DatAll K H (ks.map V.ref) (ts.map Tb.dat)
 |_,_,.nil=>.nil
 |_,_,.cons h r=>.cons (T4.dat ⟨_,rfl,SqT.of h⟩) (hV r)
theorem eL{α β:Type}{R:α->β->Prop}:∀{as:List α}{bs:List β},Paired R as bs->∀a∈as,∃b,R a b
 |_,_,.nil,_,h=>by cases h
 |_,_,.cons h r,a,m=>by
  rcases Ad.mp m with rfl|m
  ·exact⟨_,h⟩
  ·exact eL r a m
theorem qq{fs:List (List Nat)}:∀{row:List (List Nat)},(∀x∈row,x∈fs)->Pr fs row.flatten
 |[],_=>.nil
 |x::r,h=>by
  rw[Bw];exact(Pr.one (h x zX)).app (qq fun y hy=>h y (Af _ hy))
theorem jH{fs:List (List Nat)}(h4:∀x∈fs,x.length<=4):∀{row:List (List Nat)},(∀x∈row,x∈fs)->((row.map txt).map (·.length)).sum<=4*row.length/\row.flatten.length<=4*row.length
 |[],_=>⟨zU _,zU _⟩
 |x::r,h=>by
  have ih:=jH h4 (row:=r) fun y hy=>h y (Af _ hy);have:=h4 x (h x zX);have e:(txt x).length=x.length:=by show x.toArray.size=_;simp
  rw[Av,Av,BN,Bw,zW,AE,e];lia
theorem vt{fs row:List (List Nat)}(hf:Wds fs)(h4:∀x∈fs,x.length<=4)(hr:∀x∈row,x∈fs)(n1:1<=row.length)(n4:row.length<=4):Gw row.flatten:=by
 refine⟨fun c hc=>?_,?_,?_⟩
 ·obtain⟨x,hx,hc⟩:=List.mem_flatten.mp hc;exact hf.lr x (hr x hx) c hc
 ·cases row with
  |nil=>exact absurd n1 (by decide)
  |cons x r=>
   have:=hf.l1 x (hr x zX);rw[Bw,zW];lia
 ·have:=(jH h4 hr).2;lia
theorem qc(row:List (List Nat)):(Txt.join "" (row.map txt)).cps.toList=row.flatten:=by
 rw[kh,AJ];exact congrArg List.flatten (BX row)
theorem pd{hs:List (List Nat)}(W:Wds hs){row:List Nat}(hr:∀i∈row,i<hs.length){L:List (Option (List Int))}(hL:Lst hs (bj hs row) (bj hs row).length L):L.getD (bj hs row).length none≠none:=fun e=>by
 have ok:=sW W.ok hL (zU _) (bj hs row).length (zU _);have mk:Mk hs (bj hs row) (bj hs row).length (rI row):=by
  have:=vG row hr [];rw[AA] at this;exact this
 exact absurd mk (ok.1 e _)
theorem vb{T:Addr}{H H':Hp}{ps:Array Value}(hT:H T=some (.tbl ps))(S:SmB T H H'){vs:List V}{ws:List (List Nat)}(h:Mks H vs ws):Mks H' vs ws:=Paired.EF h fun v s g=>by
 obtain⟨a,e,h⟩:=g;exact⟨a,e,S _ _ (dg h hT (fun z=>by cases z)) h⟩
theorem iA{W:Addr}{ws:List (List Nat)}{σ:L2.St}{H:Hp}{Q:VK}(hw:Wds ws)(g:H W=some (.lst (ao ws)))(q:∀ys p H',DN H H'->H' p=some (.lst ys)->Mks H' ys ws->Q (.ref p) H'):ig (Itl K W) 1 [] (kE 0) Jc (nG (se K) [] E0 (fF (sH 0) Hz)) σ H Q:=by
 have el:=aI ws;have w8:=hw.n8;refine bZ (K:=K) (a:=W) (xs:=ao ws) (fun k ys H'=>DN H H'/\ys.length<=k/\Mks H' ys (ws.take k)) ⟨DN.refl _,zU _,.nil⟩ (fun k ys H' hk z=>z.2.1) (au (by lia)) (fun k ys H' hk z=>SqL.of (z.1 _ _ g)) (fun k v ys H' hv z=>?_) (fun ys H' z M hM=>?_)
 ·obtain⟨z1,z2,z3⟩:=z;have hk:k<(ao ws).length:=(Ai.mp hv).1;have hk':k<ws.length:=by lia
  have ev:v=.str (txt ws[k]):=by
   rw[Ao,Ac hk'] at hv;exact(Dj hv).symm
  subst ev;have hm:ws[k]∈ws:=Ay hk';have h40:=hw.l40 _ hm;have et:ws.take (k+1)=ws.take k++[ws[k]]:=by rw[Au,Ac hk'];rfl
  refine⟨_,rfl,txt ws[k],rfl,(by show ws[k].length<=1000;lia),fun c hc=>(hw.lr _ hm c hc).lt,fun r H2 S2 h2=>Nx.mk hk ⟨z1.trans S2,by rw[zW];exact DA z2,?_⟩⟩;rw[et];refine Paired.snoc (nZ S2 z3) ?_;have:=gc ws[k];rw[<- this];exact h2
 ·obtain⟨z1,z2,z3⟩:=z;rw[el,Ap (zU _)] at z3;exact q ys M _ (z1.trans (af hM _)) ae (nZ (af hM (.lst ys)) z3)
structure Sh(T:Addr)(Hi:Hp)(M U Fd F:Addr)(ws hs fs:List (List Nat))(ys vs:List V)(H:Hp):Prop where
 fi:SmB T Hi H
 lt:Ep Fx Fn T H
 m:H M=some (.lst ys)
 ms:Mks H ys ws
 u:H U=some (.lst (ao hs))
 f:H Fd=some (.lst vs)
 fm:Mks H vs hs
 fr:H F=some (.lst (ao fs))
theorem Sh.same{T:Addr}{Hi:Hp}{M U Fd F:Addr}{ws hs fs:List (List Nat)}{ys vs:List V}{H H':Hp}(s:Sh T Hi M U Fd F ws hs fs ys vs H)(S:DN H H'):Sh T Hi M U Fd F ws hs fs ys vs H':=
 ⟨s.fi.trans (SmB.of S),s.lt.same S,S _ _ s.m,nZ S s.ms,S _ _ s.u,S _ _ s.f,nZ S s.fm,S _ _ s.fr⟩
theorem Sh.smb{T:Addr}{Hi:Hp}{M U Fd F:Addr}{ws hs fs:List (List Nat)}{ys vs:List V}{H H':Hp}(s:Sh T Hi M U Fd F ws hs fs ys vs H)(S:SmB T H H')(L:Ep Fx Fn T H'):Sh T Hi M U Fd F ws hs fs ys vs H':=by
 obtain⟨ps,hT,_⟩:=s.lt.ex;exact⟨s.fi.trans S,L,bL S hT s.m (fun _ z=>by cases z),vb hT S s.ms,bL S hT s.u (fun _ z=>by cases z),bL S hT s.f (fun _ z=>by cases z),vb hT S s.fm,bL S hT s.fr (fun _ z=>by cases z)⟩
theorem vd{ws:List (List Nat)}{a b:List Nat}{dn:List (List Nat×Nat)}{E:List (List Nat×(Nat×(List Nat×List Nat)))}{f:Nat×(List Nat×List Nat)}(hd:Dij ws dn E)(hf:([],f)∈E)(hab:f.2=(a,b)\/f.2=(b,a))(hlt:a.headD 0<b.headD 0):¬UD ws:=fun u=>by
 obtain⟨tr,_⟩:=hd.wt.trk _ hf;have eq:bj ws f.2.1=bj ws f.2.2:=by have:=tr.eq;rw[AA] at this;exact this
 have e:=u _ _ tr.a tr.b eq;have:a=b:=by
  rcases hab with q|q
  ·rw[q] at e;exact e
  ·rw[q] at e;exact e.symm
 rw[this] at hlt;lia
theorem tU{ks:List (List Nat)}(h:Wds ks){dn:List (List Nat×Nat)}(hd:Dij ks dn []):UD ks:=hd.closed.ud fun i hi z=>by
 have:=h.l1 _ (aw hi);rw[z] at this;exact absurd this (by decide)
theorem pL{ns:List Nat}{j n:Nat}(h:ns[j]?=some n):ns.take (j+1)=ns.take j++[n]:=by rw[Au,h];rfl
def oY (T:Addr)(K:W.Frag):Sp:=fun vs H Q _=>∃(a:Addr)(ns:List Int),vs=[.ref a]/\SqL K H a (ns.map V.int)/\ns.length<=63/\Ep Fx Fn T H/\∀H',Q (.bl true) H'
theorem va{T:Addr}{d:DD}{D:Ks}(A:All T P w K mg base D)(DL:Def K mg "law" (top 61) ["script"] d):(fk 8 d ["script"] (oY T K)):=by
 refine DL.fn.ok Ik (fun vs H Q E h=>?_) (fun cdv Ar outer s H vs Q E hr h=>?_)
 ·obtain⟨a,ns,rfl,_⟩:=h;rfl
 obtain⟨a,ns,rfl,hS,h63,hT,q⟩:=h;have hc:=hr.calm;have nd:=Ik.nd;refine⟨_,(ag (bV (bh A.xh (aG (aP (mU hc) A.zE JG (DJ (ah _) (aG (aP (nX hc) A.xu FN (DJ (ah _) (aG (aM DP A.xf (0) ax) eW) bp)) eW) bp)) eW)) (aj 1) (ag (ay 2 (Or.inr rfl) (aY A.xH A.xP (DJ (0) (aG (1) ax) ax))) (ag (bY 3 (ak (ts:=["word"]) (cap:=[]) (js:=[]) rfl rfl rfl rfl rfl rfl (by decide +kernel)) (aJ (bb A.yI A.yZ (2) ax)) (ad 0 (nd ["word"])) (@aR _) (aV Ei (0) (Ea _) (bo (ah _)))) (ag (ay 4 (Or.inr rfl) (aS (DT _))) (ag (kr (br (aB Fb (aY A.xj A.xk (DJ (2) (aG (ah _) bp) ax)) (ah _) (aE _)) (ag (ay 5 (Or.inr rfl) (aY A.xo A.xr (DJ (2) (aG (ah _) bp) ax))) (ai (bY 3 (ak (ts:=["j"]) (cap:=["draws","piece"]) (js:=[2,5]) rfl rfl rfl rfl rfl rfl (by decide +kernel)) (bh A.xh (aG (aA DV (ah _) (aY A.xj A.xk (DJ (2) (aG (ah _) bp) ax))) (by rfl))) (ad 0 (nd ["j","draws","piece"])) (@aR _) (aA Fq (2) (aA DV (ah _) (aY A.xj A.xk (DJ (1) (aG (aA kq (ah _) (aM DM A.xf (2) ax)) (by rfl)) ax))))))) (DR _))) (ag (kr (br (aB Fb (aY A.xj A.xk (DJ (2) (aG (ah _) bp) ax)) (ah _) (aE _)) (ag (ay 4 (Or.inr rfl) (bb A.Jb A.JO (aO (ak (ts:=["j"]) (cap:=["draws"]) (js:=[2]) rfl rfl rfl rfl rfl rfl (by decide +kernel)) (bh A.xh (aG (aA DV (ah _) (aY A.xj A.xk (DJ (2) (aG (ah _) bp) ax))) (by rfl))) (ad 0 (nd ["j","draws"])) (@aR _) (aY A.xo A.xr (DJ (1) (aG (ah _) bp) ax))) (by rfl))) (ag (ay 3 (Or.inl rfl) (aS (DT _))) (ai (bV (bh A.xh (aG (aA DV (ah _) (aY A.xj A.xk (DJ (2) (aG (ah _) bp) ax))) (by rfl))) (aj 6) (ag (bY 7 (ak (ts:=["turn"]) (cap:=["draws","free"]) (js:=[2,4]) rfl rfl rfl rfl rfl rfl (by decide +kernel)) (bh A.xh (aG (aA DV (ah _) (aY A.xj A.xk (DJ (2) (aG (ah _) bp) ax))) (by rfl))) (ad 0 (nd ["turn","draws","free"])) (@aR _) (aK (show IxR _ (iQ K) from DO) (2) (aY A.xj A.xk (DJ (1) (aG (aM (show cg _ _ (vf K) from lR) A.xf (2) ax) eW) ax)))) (ai (bu (cR (3) (jB (7) ax) eW)))))))) (DR _))) (ag (ay 8 (Or.inr rfl) (aO (ak (ts:=["word"]) (cap:=[]) (js:=[]) rfl rfl rfl rfl rfl rfl (by decide +kernel)) (aJ (3)) (ad 0 (nd ["word"])) (@aR _) (bb A.yk A.yR (0) ax))) (ag (ay 9 (Or.inl rfl) (bI Ed A.xn Ex (aG (8) ax))) (ag (ay 10 (Or.inl rfl) (bb A.Jb A.JO (3) ax)) (ag (ay 11 (Or.inr rfl) (bb A.xM A.yd (9) ax)) (ag (br (@PW.pt _ _ _ (jc (dQ (bH (aP Ez A.xg DY (DJ (11) (aG (eG (.ty "list") A.xn Ex) ax) ax)))) (jc (aB (cF hr.units) (11) (aO (ak (ts:=["word"]) (cap:=[]) (js:=[]) rfl rfl rfl rfl rfl rfl (by decide +kernel)) (aJ (10)) (ad 0 (nd ["word"])) (@aR _) (bb A.yk A.yR (0) ax)) (aE _)) (fU (aB (cF hr.units) (9) (8) (aE _)))))) (ai (aC (fM _))) (DR _)) (ag (br (@PW.pt _ _ _ (jc (aB EI (bb A.yn A.yT (bI Ed A.xn Ex (aG (11) ax)) eW) (bU _) (aE _)) (fU (aB (cF hr.units) (aO (ak (ts:=["one"]) (cap:=["found"]) (js:=[11]) rfl rfl rfl rfl rfl rfl (by decide +kernel)) (aJ (8)) (ad 0 (nd ["one","found"])) (@bz _ _ _ (aB GA (aY A.JN A.Kh (DJ (bI (show cg _ _ (qy K) from kL) A.xn Ex (aG (1) ax)) (aG (0) ax) eW)) (bU _) (aE _))) (0)) (aS (DT _)) (aE _))))) (ai (aC (fM _))) (DR _)) (ag (br (aB (cF hr.units) (aO (ak (ts:=["word"]) (cap:=["free"]) (js:=[4]) rfl rfl rfl rfl rfl rfl (by decide +kernel)) (aJ (10)) (ad 0 (nd ["word","free"])) (@bz _ _ _ (@PW.pt _ _ _ (kB (aB (show OpR _ _ (wY K true) from cF hr.units) (1) (aS (DT _)) (aE _)) (gm (dQ (bH (aY A.xN A.ye (DJ (1) (aG (0) ax) ax)))))))) (0)) (aS (DT _)) (aE _)) (ai (aC (fM _))) (DR _)) (ag (bY 12 (ak (ts:=["number"]) (cap:=["makers"]) (js:=[8]) rfl rfl rfl rfl rfl rfl (by decide +kernel)) (aJ (bb A.yL A.zc (bI Ed A.xn Ex (aG (8) ax)) eW)) (ad 0 (nd ["number","makers"])) (@aR _) (aK (show IxR _ (iQ K) from DO) (1) (0))) (ag (kr (br (aB GA (iB (bb A.yn A.yT (bI Ed A.xn Ex (aG (12) ax)) eW)) (bU _) (aE _)) (ai (br (aB (cF hr.units) (aP (fQ (L:=4) (by decide)) A.xm ED (aG (12) ax)) (aP (fQ (L:=4) (by decide)) A.xm ED (aG (11) ax)) (aE _)) (ai (aC (fM _))) (DR _))) (ai (br (aB GI (aM DP A.xf (11) ax) (aM DP A.xf (12) ax) (aE _)) (ai (aC (fM _))) (DR _))))) (ai (br (aB (cF hr.units) (bb A.xM A.yd (bI Ed A.xn Ex (aG (11) ax)) eW) (11) (aE _)) (ai (aC (fM _))) (DR _)))))))))))))))))) (ai (aC (fM _)))),?_⟩
 walk_at "d"
 have hl:(ns.map V.int).length=ns.length:=zV _;refine⟨_,rfl,a,_,rfl,.inl hS,_,_,rfl,_,_,rfl,_,rfl,(jb _ (DB _)).1,(jb _ (DB _)).2.1,?_⟩;have j16:=(jb (((ns.map V.int).length:Nat):Int) (DB _)).2.2;obtain⟨ps0,gT0,_⟩:=hT.ex;refine fD (lo:=0) (n:=_) (fun i σ H'=>∃x1 x2 x3 x4 x5 x6 x7 x8 x9 x10 x11 x12,σ=[some (.ref a),x1,x2,x3,x4,x5,x6,x7,x8,x9,x10,x11,x12]/\SmB T H H'/\Ep Fx Fn T H') ⟨none,none,none,none,none,none,none,none,none,none,none,none,rfl,SmB.of (DN.refl H),hT⟩ (fun i σ Hi hi z=>?_) (fun σ H' z=>?_)
 rotate_left
 ·obtain⟨x1,x2,x3,x4,x5,x6,x7,x8,x9,x10,x11,x12,rfl,S,_⟩:=z;exact q H'
 obtain⟨x1,x2,x3,x4,x5,x6,x7,x8,x9,x10,x11,x12,rfl,Si,Li⟩:=z;have hi':i<8:=Ah hi j16;refine⟨_,rfl,_,rfl,a,ns,0+(i:Int),rfl,SqL.smb gT0 hS Si,by lia,by lia,fun l H1 S1 nl ds=>?_⟩;have L1:=Li.same S1;have A1:SmB T Hi H1:=SmB.of S1;refine⟨_,rfl,l,rfl,ds,fun Wa wa H2 dr2 nWa gWa hwa=>?_⟩;have gW0:=aZ l _ _ _ gWa;have el:=aI wa;have w8:=hwa.n8;refine⟨Wa,rfl,⟨_,SqL.of gW0⟩,?_⟩;refine bZ (K:=K) (a:=Wa) (xs:=ao wa) (fun i ys H'=>H'=H2/\ys=ao ((wa.take i).map fun w=>w.take 16)) ⟨rfl,rfl⟩ (fun i ys H' hi z=>by rw[z.2,aI,zV,Az];lia) (au (by lia)) (fun i ys H' hi z=>by rw[z.1];exact SqL.of gW0) (fun i v ys H' hv z=>?_) (fun ys H' z W0 nW0=>?_)
 ·obtain⟨rfl,rfl⟩:=z;have hi:i<(ao wa).length:=(Ai.mp hv).1;have hi':i<wa.length:=by lia
  rw[cb hi'] at hv;cases hv;have:=hwa.l40 _ (aw hi');refine⟨_,rfl,_,rfl,_,rfl,au (by show(wa.getD i []).length<=1000000;lia),Nx.mk hi ⟨rfl,?_⟩⟩;rw[show Txt.slice (txt (wa.getD i [])) none (some 16)=txt ((wa.getD i []).take 16) from eJ _ 16,show wa.take (i+1)=wa.take i++[wa.getD i []] by rw[Au (i:=i),Am,Ac hi'];rfl,An,<- bO];rfl
 obtain⟨rfl,rfl⟩:=z;rw[el,Bg]
 have hw0:Wds (wa.map fun w=>w.take 16):=⟨by rw[zV]; exact hwa.n1,by rw[zV]; exact hwa.n8,fun cs h c hc=>by
   obtain⟨y,hy,rfl⟩:=Ae.mp h;exact hwa.lr y hy c (List.mem_of_mem_take hc),fun cs h=>by
   obtain⟨y,hy,rfl⟩:=Ae.mp h;have:=hwa.l1 y hy;rw[Az];lia,fun cs h=>by
   obtain⟨y,hy,rfl⟩:=Ae.mp h
   rw[Az];lia⟩
 clear gWa gW0 el w8 hwa;generalize wa.map (fun w=>w.take 16)=w0 at hw0 ⊢;have d3:=dr2.trans (Dr.new dr2.ds nW0 (.lst (ao w0)));have g3:=cN dr2.ds nW0 (.lst (ao w0));generalize upd H' W0 (.lst (ao w0))=H3 at d3 g3 ⊢;clear dr2 nW0 nWa;refine⟨Ag _,fun F0 nF0=>?_⟩;have d4:=d3.trans (Dr.new d3.ds nF0 (.lst []));have gF4:=cN d3.ds nF0 (.lst []);have gW4:=(Dr.new d3.ds nF0 (.lst [])).same _ _ g3;generalize upd H3 F0 (.lst [])=H4 at d4 gF4 gW4 ⊢;clear d3 g3 nF0;refine⟨fun σ H'=>∃W ws e5 e6,σ=[some (.ref a),some (.int (0+(i:Int))),some (.ref l),some (.ref W),some (.ref F0),e5,e6,x7,x8,x9,x10,x11,x12]/\Dr l H4 H'/\hid l H' W=some (.lst (ao ws))/\Wds ws,?_,fun σ H5 z=>?_⟩
 ·refine⟨_,rfl,l,4,rfl,d4.ds,by decide,by decide,fun r H5 r0 r1 d5=>?_⟩;refine⟨rfl,_,rfl,?_⟩;show if decide (V.int r=V.int 0)=true then _ else _;rw[gy];cases hr0:(r==0) with
  |false=>exact⟨W0,w0,_,_,rfl,d5,d5.same _ _ gW4,hw0⟩
  |true=>
   refine⟨_,rfl,l,3,rfl,by decide,by decide,d5.ds,fun pz H6 d6 lz z1 z3=>?_⟩;have zl:pz.length<=3:=by lia
   refine⟨_,rfl,l,7,rfl,d6.ds,by decide,by decide,fun r7 H7 q0 q1 d7=>⟨_,_,rfl,rfl,⟨2+r7,rfl,by lia,by lia,?_⟩⟩⟩;refine lW (lo:=0) (n:=(2+r7).toNat) (fun k ys H'=>Dr l H7 H'/\∃us,ys=ao us/\us.length=k/\∀cs∈us,Gw cs) ⟨Dr.refl d7.ds,[],rfl,rfl,fun cs h=>absurd h (by simp)⟩ (fun k ys H' hk z=>?_) (au (by lia)) (fun k ys H' hk z=>?_) (fun ys H' z W nW=>?_)
   ·obtain⟨_,us,rfl,e,_⟩:=z;rw[aI];lia
   ·obtain⟨y1,us,rfl,y2,y3⟩:=z;have hd1:(1:Int)<=40/(pz.length:Int):=by rw[Int.le_ediv_iff_mul_le (by lia)];lia
    have hd2:(40:Int)/(pz.length:Int)<=40:=Int.ediv_le_self _ (by decide);have hd3:(40:Int)/(pz.length:Int)*(pz.length:Int)<=40:=Int.ediv_mul_le _ (by lia);refine⟨_,rfl,_,rfl,_,rfl,pz,rfl,au (by lia),_,_,rfl,rfl,⟨by lia,by lia⟩,l,_,rfl,y1.ds,hd1,by lia,fun r8 H8 b0 b1 d8=>⟨_,_,rfl,rfl,?_⟩⟩;have le1:(1+r8)*(pz.length:Int)<=40:=Int.le_trans (Int.mul_le_mul_of_nonneg_right (by lia) (by lia)) hd3;have le2:(1+r8).toNat*pz.length<=40:=by
     have e8:(((1+r8).toNat:Nat):Int)=1+r8:=by lia
     have:(((1+r8).toNat*pz.length:Nat):Int)<=40:=by rw[Int.natCast_mul,e8];exact le1
     lia
    have ge2:1<=(1+r8).toNat*pz.length:=Nat.mul_pos (by lia) z1;refine⟨_,_,rfl,rfl,by lia,by lia,by rw[Nat.mul_comm];lia,Nx.mk hk ⟨y1.trans d8,us++[(Txt.mul pz (1+r8)).cps.toList],bC _ _,by rw[zW,y2];rfl,fun cs h=>?_⟩⟩;rcases zZ.mp h with h|h
    ·exact y3 cs h
    ·rw[zY.mp h];have e9:=eQ pz (1+r8);rw[cn] at e9;exact⟨fun c hc=>lz c (gE hc),by rw[e9];exact ge2,by rw[e9];exact le2⟩
   ·obtain⟨y1,us,rfl,y2,y3⟩:=z;exact⟨W,us,_,_,rfl,d5.trans (d6.trans (d7.trans (y1.trans (Dr.new y1.ds nW _)))),cN y1.ds nW _,by lia,by lia,fun cs h=>(y3 cs h).lr,fun cs h=>(y3 cs h).l1,fun cs h=>(y3 cs h).l40⟩
 obtain⟨W1,w1,e5,e6,rfl,d5,gW5,hw1⟩:=z;have D5:=d4.trans d5;have gF5:=d5.same _ _ gF4;clear d4 d5 gF4 gW4 hw0;refine⟨fun σ H'=>∃W ws F fs e5 e6 e7,σ=[some (.ref a),some (.int (0+(i:Int))),some (.ref l),some (.ref W),some (.ref F),e5,e6,e7,x8,x9,x10,x11,x12]/\Dr l H1 H'/\H' W=some (.lst (ao ws))/\H' F=some (.lst (ao fs))/\Wds ws/\(fs=[]\/Wds fs/\UD fs/\∀x∈ws,Pr fs x),?_,fun σ H6 z=>?_⟩
 ·refine⟨_,rfl,l,2,rfl,D5.ds,by decide,by decide,fun r H6 r0 r1 d6=>?_⟩;refine⟨rfl,_,rfl,?_⟩;show if decide (V.int r=V.int 0)=true then _ else _;rw[gy];cases hr0:(r==0) with
  |false=>exact⟨W1,w1,F0,[],_,_,_,rfl,D5.trans d6,aZ l _ _ _ (d6.same _ _ gW5),aZ l _ _ _ (d6.same _ _ gF5),hw1,.inl rfl⟩
  |true=>
   refine⟨_,rfl,l,3,rfl,d6.ds,by decide,by decide,fun r7 H7 q0 q1 d7=>⟨_,_,rfl,rfl,⟨1+r7,rfl,by lia,by lia,?_⟩⟩⟩;refine lW (lo:=0) (n:=(1+r7).toNat) (fun k ys H'=>Dr l H7 H'/\∃us,ys=ao us/\us.length=k/\∀cs∈us,Gw cs/\cs.length<=4) ⟨Dr.refl d7.ds,[],rfl,rfl,fun cs h=>absurd h (by simp)⟩ (fun k ys H' hk z=>?_) (au (by lia)) (fun k ys H' hk z=>?_) (fun ys H' z p np=>?_)
   ·obtain⟨_,us,rfl,e,_⟩:=z;rw[aI];lia
   ·obtain⟨y1,us,rfl,y2,y3⟩:=z;refine⟨_,rfl,l,4,rfl,by decide,by decide,y1.ds,fun pz H8 d8 lz z1 z4=>Nx.mk hk ⟨y1.trans d8,us++[pz.cps.toList],bC _ _,by rw[zW,y2];rfl,fun cs h=>?_⟩⟩;rcases zZ.mp h with h|h
    ·exact y3 cs h
    ·rw[zY.mp h];rw[cn] at z1 z4;exact⟨⟨lz,z1,by lia⟩,by lia⟩
   obtain⟨y1,us,rfl,y2,y3⟩:=z;have hus:Wds us:=⟨by lia,by lia,fun cs h=>(y3 cs h).1.lr,fun cs h=>(y3 cs h).1.l1,fun cs h=>(y3 cs h).1.l40⟩
   have d8:=d6.trans (d7.trans (y1.trans (Dr.new y1.ds np (.lst (ao us)))));have gp:upd H' p (.lst (ao us)) p=some (.lst (ao us)):=ae;generalize upd H' p (.lst (ao us))=H8 at d8 gp ⊢;clear y1 np d6 d7;refine⟨p,us,rfl,gp,hus,fun F fs H9 S9 gF hU uU sU=>?_⟩;have hf:=hU.wds hus;have f4:=hU.kp.len 4 fun x hx=>(y3 x hx).2;have d9:=d8.trans (Dr.of_same d8.ds S9);have nFl:F≠l:=by
    obtain⟨x,y,z,e,_⟩:=d9.ds;have f1:=hf.n1;refine dg gF e fun q=>?_;cases fs with
    |nil=>exact absurd f1 (by decide)
    |cons u v=>cases q
   have gF9:hid l H9 F=some (.lst (ao fs)):=by rw[fZ nFl];exact gF
   clear gp S9 d8;refine⟨Ag _,fun W nW=>?_⟩;have dW:=Dr.new d9.ds nW (.lst []);have nWl:W≠l:=Dw (d9.ds.ne nW);have gW:=cN d9.ds nW (.lst []);have gF10:=dW.same _ _ gF9;refine⟨_,rfl,l,6,rfl,dW.ds,by decide,by decide,fun r10 H10 t0 t1 d10=>⟨_,_,rfl,rfl,⟨1+r10,rfl,by lia,by lia,?_⟩⟩⟩;have dWt:=dW.trans d10;have gW10:=d10.same _ _ gW;have f8:=hf.n8;have f1:=hf.n1;have fl:=aI fs;refine fD (lo:=0) (n:=(1+r10).toNat) (fun k σ H'=>∃e6 e7 us,σ=[some (.ref a),some (.int (0+(i:Int))),some (.ref l),some (.ref W),some (.ref F),e5,e6,e7,x8,x9,x10,x11,x12]/\Dr l H9 H'/\hid l H' W=some (.lst (ao us))/\us.length=k/\∀cs∈us,Gw cs/\Pr fs cs) ⟨_,_,[],rfl,dWt,gW10,rfl,fun cs h=>absurd h (by simp)⟩ (fun k σ Hk hk z=>?_) (fun σ H' z=>?_)
   ·obtain⟨e6,e7,vs,rfl,dk,gWk,lk,hk3⟩:=z;refine⟨_,rfl,l,4,rfl,dk.ds,by decide,by decide,fun r11 H11 u0 u1 d11=>⟨_,_,rfl,rfl,⟨1+r11,rfl,by lia,by lia,?_⟩⟩⟩;refine lW (lo:=0) (n:=(1+r11).toNat) (fun j ys H'=>Dr l H11 H'/\∃row,ys=ao row/\row.length=j/\∀x∈row,x∈fs) ⟨Dr.refl d11.ds,[],rfl,rfl,fun x h=>absurd h (by simp)⟩ (fun j ys H' hj z=>?_) (au (by lia)) (fun j ys H' hj z=>?_) (fun ys H' z R nR=>?_)
    ·obtain⟨_,row,rfl,e,_⟩:=z;rw[aI];lia
    ·obtain⟨y1,row,rfl,y2,y4⟩:=z;have gFj:∀{H'},Dr l H' H'->hid l H9 F=some (.lst (ao fs)):=fun _=>gF9;have dj:=dk.trans (d11.trans y1);refine⟨_,rfl,_,rfl,_,rfl,F,ao fs,rfl,.inl (SqL.of (aZ l _ _ _ (dj.same _ _ gF9))),l,_,rfl,y1.ds,by lia,by lia,fun r12 H12 b0 b1 d12=>?_⟩;obtain⟨v,ev,mv⟩:=kH (l:=ao fs) b0 b1;obtain⟨x,hx,rfl⟩:=Ae.mp mv;refine⟨F,ao fs,r12,_,rfl,rfl,SqL.of (aZ l _ _ _ ((dj.trans d12).same _ _ gF9)),ev,Nx.mk hj ⟨y1.trans d12,row++[x],bC _ _,by rw[zW,y2];rfl,fun y hy=>?_⟩⟩;rcases zZ.mp hy with hy|hy
     ·exact y4 y hy
     ·rw[zY.mp hy];exact hx
    ·obtain⟨y1,row,rfl,y2,y4⟩:=z;have dR:=Dr.new y1.ds nR (.lst (ao row));have gR:=aZ l _ _ _ (cN y1.ds nR (.lst (ao row)));have dk2:=dk.trans (d11.trans (y1.trans dR));have gW2:=dR.same _ _ (y1.same _ _ (d11.same _ _ gWk));generalize upd H' R (.lst (ao row))=H13 at dR gR dk2 gW2 ⊢;have sm:=jH f4 y4;have g0:=vt hf f4 y4 (by lia) (by lia);have lw:(ao vs).length<sizeLine:=Ah (show _<1000000 by rw[aI];lia) (au (zU _));refine⟨_,rfl,.inl ⟨rfl,_,SqL.of (aZ l _ _ _ gW2)⟩,rfl,_,rfl,"",R,row.map txt,rfl,rfl,by rw[jh];exact SqL.of gR,?_,W,ao vs,_,rfl,rfl,aZ l _ _ _ gW2,lw,_,_,vs++[row.flatten],rfl,Dr.put dk2 nW nWl _,?_,by rw[zW,lk];rfl,fun cs h=>?_⟩
     ·show _+_*0<=_;lia
     ·rw[hG nWl,bC,qc]
     ·rcases zZ.mp h with h|h
      ·exact hk3 cs h
      ·rw[zY.mp h];exact⟨g0,qq y4⟩
   ·obtain⟨e6,e7,vs,rfl,dk,gWk,lk,hk3⟩:=z;exact⟨W,vs,F,fs,_,_,_,rfl,D5.trans (d9.trans dk),aZ l _ _ _ gWk,aZ l _ _ _ (dk.same _ _ gF9),⟨by lia,by lia,fun cs h=>(hk3 cs h).1.lr,fun cs h=>(hk3 cs h).1.l1,fun cs h=>(hk3 cs h).1.l40⟩,.inr ⟨hf,hU.ud,fun x hx=>(hk3 x hx).2⟩⟩
 obtain⟨W,ws,F,fs,e5',e6',e7',rfl,D6,gW,gF,hw,hf⟩:=z;have L6:=Ep.dr L1 ds D6;have A6:=tV A1 nl D6;clear D5 D6 gW5 gF5 hw1 L1 A1 S1 ds;refine⟨_,rfl,W,rfl,⟨_,SqL.of gW⟩,iA hw gW fun ys M H7 S7 gM mM=>?_⟩;refine⟨_,rfl,M,ys,rfl,.inl (SqL.of gM),fun hd nhd=>?_⟩;have S8:=af nhd (.lst ys);have gD:upd H7 hd (.lst ys) hd=some (.lst ys):=ae;generalize upd H7 hd (.lst ys)=H8 at S8 gD ⊢;refine⟨_,rfl,W,ws,rfl,S8 _ _ (S7 _ _ gW),hw,fun U us H9 S9 gU hU uU sU=>?_⟩;have S69:=S7.trans (S8.trans S9);have L9:=L6.same S69;obtain⟨ps9,gT9,_⟩:=L9.ex;refine⟨_,rfl,hd,ys,ws,rfl,S9 _ _ gD,nZ (S8.trans S9) mM,hw,L9,fun Fd vs hs H10 S10 L10 gFd mFd hh hu so=>?_⟩;have eu:us=hs:=mq (iw hU hh uU hu) sU (rE so);subst eu;have gD10:=bL S10 gT9 (S9 _ _ gD) (fun _ z=>by cases z);have s10:Sh T Hi M U Fd F ws us fs ys vs H10:=⟨A6.trans ((SmB.of S69).trans S10),L10,bL S10 gT9 (S9 _ _ (S8 _ _ gM)) (fun _ z=>by cases z),vb gT9 S10 (nZ (S8.trans S9) mM),bL S10 gT9 gU (fun _ z=>by cases z),gFd,mFd,bL S10 gT9 (S69 _ _ gF) (fun _ z=>by cases z)⟩
 have wh:=hh.wds hw;clear S7 S8 S9 S10 S69 L6 L9 L10 A6 gT9 gM mM gD gU gFd mFd gW gF nhd;refine⟨_,rfl,.ref Fd,.ty "list",.type "list",.type "list",true,rfl,rfl,.lst s10.f,rfl,true,rfl,?_⟩;refine⟨_,rfl,_,rfl,U,rfl,⟨_,SqL.of s10.u⟩,iA wh s10.u fun zs p H11 S11 gp mp=>?_⟩;have s11:=s10.same S11;refine⟨_,_,.lst (SqL.of s11.f) (dB s11.fm),.lst (SqL.of gp) (dB mp),bN _,bN _,cX _,false,gv _,?_⟩;refine⟨_,rfl,_,rfl,_,_,.lst (SqL.of (S11 _ _ gD10)) (dB s11.ms),.lst (SqL.of s11.m) (dB s11.ms),bN _,bN _,cX _,false,gv _,?_⟩;clear s10 S11 gp mp gD10;refine⟨_,rfl,Fd,vs,rfl,.inl (SqL.of s11.f),fun c nc=>?_⟩;have s12:=s11.same (af nc (.lst vs));refine⟨c,vs,us,rfl,ae,s12.fm,wh,s12.lt,fun dn H13 dj S13 L13=>?_,fun pp la lb a' b' dn E f H' dj hf' _ hab hlt _ _ _ _ _=>absurd hh.ud (vd dj hf' hab hlt)⟩;have s13:=s12.smb S13 L13;clear s11 s12 S13 L13 nc dj;refine⟨rfl,false,rfl,?_⟩;have yl:=Paired.length s13.ms;have w8:=hw.n8;refine⟨_,rfl,M,rfl,⟨_,SqL.of s13.m⟩,?_⟩;refine bZ (K:=K) (a:=M) (xs:=ys) (fun k zs H'=>zs=[]/\DN H13 H') ⟨rfl,DN.refl _⟩ (fun k zs H' hk z=>by rw[z.1];exact Ag _) (au (by lia)) (fun k zs H' hk z=>SqL.of (z.2 _ _ s13.m)) (fun k v zs H' hv z=>?_) (fun zs H' z p np=>?_)
 ·obtain⟨rfl,z2⟩:=z;have hk:k<ys.length:=(Ai.mp hv).1;have s':=s13.same z2;obtain⟨v',ev',cs,ec,t4⟩:=ju s'.ms (j:=k) (by lia);rw[hv] at ev';cases ev';have hcs:cs∈ws:=Aq ec;have h40:=hw.l40 _ hcs;obtain⟨t,ht,ft⟩:=bK (hh.kp.gen cs hcs);refine⟨_,rfl,Fd,vs,rfl,.inl (SqL.of s'.f),fun c nc=>?_⟩;have S3:=af nc (.lst vs);refine⟨_,rfl,us,cs,⟨c,vs,_,rfl,ae,nZ S3 s'.fm,wh,hw.lr _ hcs,by lia,t4.mono S3⟩,fun u L X H4 S4 hL hR=>?_⟩;have nn:u≠.non:=by
   subst ft;rcases hR with ⟨h,_⟩|⟨b,ns',_,rfl,_⟩
   ·exact absurd h (pd wh ht hL)
   ·exact fun z=>by cases z
  refine⟨rfl,false,by rw[De nn],?_⟩;show Nx ys.length k (fun k zs H'=>zs=[]/\DN H13 H') _ _;exact Nx.mk hk ⟨rfl,z2.trans (S3.trans S4)⟩
 obtain⟨rfl,z2⟩:=z;have S14:=z2.trans (af np (.lst []));have gp:upd H' p (.lst []) p=some (.lst []):=ae;generalize upd H' p (.lst [])=H14 at S14 gp ⊢;refine⟨Ag _,fun e ne=>?_⟩;have S15:=S14.trans (af ne (.lst []));refine⟨.list [],.list [],.lst (SqL.of (af ne (.lst []) _ _ gp)) .nil,.lst (SqL.of ae) .nil,rfl,rfl,by decide,false,rfl,?_⟩;have s15:=s13.same S15;generalize upd H14 e (.lst [])=H15 at s15 ⊢;clear s13 S14 S15 gp ne z2 np;have u8:=wh.n8;have el:=aI us;refine⟨_,rfl,U,rfl,⟨_,SqL.of s15.u⟩,?_⟩;refine bZ (K:=K) (a:=U) (xs:=ao us) (fun k zs H'=>zs=[]/\DN H15 H') ⟨rfl,DN.refl _⟩ (fun k zs H' hk z=>by rw[z.1];exact Ag _) (au (by lia)) (fun k zs H' hk z=>SqL.of (z.2 _ _ s15.u)) (fun k v zs H' hv z=>?_) (fun zs H' z p np=>?_)
 ·obtain⟨rfl,z2⟩:=z;have hk:k<(ao us).length:=(Ai.mp hv).1;obtain⟨hk',rfl⟩:=dO hv;have hm:us[k]∈us:=Ay hk';have s':=s15.same z2;refine⟨_,rfl,Ag _,fun e1 ne1=>?_⟩;have S1:=af ne1 (.lst []);have flr:∀cs∈fs,∀c∈cs,El c:=by
   rcases hf with rfl|⟨h,_⟩
   ·exact fun cs h=>absurd h (by simp)
   ·exact h.lr
  refine⟨.list ((jP fs).map PyData.str),.list [],.lst (SqL.of (S1 _ _ s'.fr)) (eN fs▸DatAll.strs _),.lst (SqL.of ae) .nil,ik flr,rfl,dD _,!(jP fs).isEmpty,(by show V.bl (!PyData.eqv _ _)=_;rw[FT]),?_⟩;rw[ky];cases hE:fs.isEmpty with
  |true=>
   show Nx (ao us).length k (fun k zs H'=>zs=[]/\DN H15 H') _ _;exact Nx.mk hk ⟨rfl,z2.trans S1⟩
  |false=>
   obtain⟨h1,h2,h3⟩:Wds fs/\UD fs/\∀x∈ws,Pr fs x:=by
    rcases hf with rfl|h
    ·cases hE
    ·exact h
   have h40:=wh.l40 _ hm;refine⟨_,rfl,_,rfl,F,fs,us[k],rfl,S1 _ _ s'.fr,h1.ok,h1.lr,by lia,fun b H4 S4 hb=>?_⟩;refine⟨b,rfl,?_⟩;rw[hb.mpr (hu fs h2 h3 _ hm)];show Nx (ao us).length k (fun k zs H'=>zs=[]/\DN H15 H') _ _;exact Nx.mk hk ⟨rfl,z2.trans (S1.trans S4)⟩
 obtain⟨rfl,z2⟩:=z;have S16:=z2.trans (af np (.lst []));have gp:upd H' p (.lst []) p=some (.lst []):=ae;generalize upd H' p (.lst [])=H16 at S16 gp ⊢;refine⟨Ag _,fun e ne=>?_⟩;have S17:=S16.trans (af ne (.lst []));refine⟨.list [],.list [],.lst (SqL.of (af ne (.lst []) _ _ gp)) .nil,.lst (SqL.of ae) .nil,rfl,rfl,by decide,false,rfl,?_⟩;have s17:=s15.same S17;generalize upd H16 e (.lst [])=H17 at s17 ⊢;clear s15 S16 S17 gp ne z2 np;refine⟨_,rfl,M,ys,rfl,.inl (SqL.of s17.m),fun c nc=>?_⟩;have s18:=s17.same (af nc (.lst ys));refine⟨c,ys,ws,rfl,ae,s18.ms,hw,fun pN H19 S19 nN gN=>?_⟩;have s19:=s18.same S19;clear s17 s18 S19 nc nN;have nl8:=iE ws;have enl:(nIx ws).length=(nW ws).length:=by unfold nW;rw[zV]
 have env:(nvs (nIx ws)).length=(nIx ws).length:=zV _;refine⟨pN,rfl,⟨_,SqL.of gN⟩,?_⟩;refine bZ (K:=K) (a:=pN) (xs:=nvs (nIx ws)) (fun k zs H'=>H'=H19/\zs.length<=k/\Mks H19 zs (((nIx ws).take k).map fun j=>ws.getD j [])) ⟨rfl,zU _,.nil⟩ (fun k zs H' hk z=>z.2.1) (au (by lia)) (fun k zs H' hk z=>by rw[z.1];exact SqL.of gN) (fun k v zs H' hv z=>?_) (fun zs H' z Le nLe=>?_)
 ·obtain⟨rfl,z2,z3⟩:=z;have hk:k<(nvs (nIx ws)).length:=(Ai.mp hv).1;rw[Ao] at hv;obtain⟨n,en,rfl⟩:=Be.mp hv;have hn:n<ws.length:=AY.mp (AK.mp (Aq en)).1;obtain⟨v',ev',cs,ec,t4⟩:=ju s19.ms (j:=n) hn;refine⟨_,rfl,_,rfl,M,ys,_,v',rfl,rfl,SqL.of s19.m,aW ev',Nx.mk hk ⟨rfl,by rw[zW];exact DA z2,?_⟩⟩;rw[pL en,An];refine Paired.snoc z3 ?_;show T4o _ v' (wt (ws.getD n []));rw[Am,ec];exact t4
 obtain⟨rfl,z2,z3⟩:=z;rw[env,Bg] at z3
 replace z3:Mks H' zs (nW ws):=z3
 have S20:=af nLe (.lst zs);have s20:=s19.same S20;have g20:upd H' Le (.lst zs) Le=some (.lst zs):=ae;have m20:=nZ S20 z3;generalize upd H' Le (.lst zs)=H20 at s20 g20 m20 ⊢;clear s19 S20 nLe z2 z3 gN;have zl:=Paired.length m20;have wn:=qh hw;have wn8:=wn.n8;refine⟨fun σ H'=>σ=[some (.ref a),some (.int (0+(i:Int))),some (.ref l),some (.ref W),some (.ref F),e5',e6',e7',some (.ref M),some (.ref hd),some (.ref U),some (.ref Fd),some (.ref Le)]/\Sh T Hi M U Fd F ws us fs ys vs H',?_,fun σ H23 z=>?_⟩
 ·refine⟨fun v H'=>Sh T Hi M U Fd F ws us fs ys vs H'/\H' Le=some (.lst zs)/\Mks H' zs (nW ws)/\((v=.non/\UD (nW ws))\/(v≠.non/\¬UD (nW ws))),?_,fun v H21 z=>?_⟩
  ·refine⟨_,rfl,Le,zs,rfl,.inl (SqL.of g20),fun c nc=>?_⟩;have S21:=af nc (.lst zs);have s21:=s20.same S21;obtain⟨ps21,gT21,_⟩:=s21.lt.ex;refine⟨c,zs,nW ws,rfl,ae,nZ S21 m20,wn,s21.lt,fun dn H' dj S' L'=>⟨s21.smb S' L',bL S' gT21 (S21 _ _ g20) (fun _ z=>by cases z),vb gT21 S' (nZ S21 m20),.inl ⟨rfl,tU wn dj⟩⟩,fun pp la lb a' b' dn E f H' dj hf' _ hab hlt _ _ _ S' L'=>⟨s21.smb S' L',bL S' gT21 (S21 _ _ g20) (fun _ z=>by cases z),vb gT21 S' (nZ S21 m20),.inr ⟨(fun z=>by cases z),vd dj hf' hab hlt⟩⟩⟩
  obtain⟨s21,g21,m21,ud⟩:=z;refine⟨rfl,decide (v=.non),rfl,?_⟩;rcases ud with ⟨rfl,ud⟩|⟨nn,nu⟩
  ·
   have pm:=hh.Ki hw hu ud;obtain⟨kl,rfl,pl⟩:=gH m21;obtain⟨kf,ef,pf⟩:=gH s21.fm;have ll:=Paired.length pl;have lf:=Paired.length pf;rw[zV] at ll lf;have g21':=s21.f;rw[ef] at g21';refine⟨_,rfl,Le,kl,rfl,SqL.of g21,by lia,fun k hk=>?_,fun L1 kl' p1 pw1 n1=>?_⟩
   ·obtain⟨t,ht⟩:=eL pl k hk;exact⟨nsT t,SqT.of ht,rfl⟩
   have T1:=af n1 (.lst (kl'.map V.ref));have pf1:=Paired.EF pf fun k t (h:H21 k=some (.tup ((nsT t).map V.int)))=>T1 _ _ h;refine⟨_,rfl,Fd,kf,rfl,SqL.of (T1 _ _ g21'),by lia,fun k hk=>?_,fun L2 kf' p2 pw2 n2=>?_⟩
   ·obtain⟨t,ht⟩:=eL pf1 k hk;exact⟨nsT t,SqT.of ht,rfl⟩
   have T2:=af n2 (.lst (kf'.map V.ref));obtain⟨tl,q1,r1⟩:=fB p1 pl;obtain⟨tf,q2,r2⟩:=fB p2 pf1;have o1:tl.Pairwise (fun x y=>¬(nsT y)<(nsT x)):=fC (fun a b x y h1 h2 h=>h (nsT x) (nsT y) (SqT.of h1) (SqT.of h2)) r1 pw1;have o2:tf.Pairwise (fun x y=>¬(nsT y)<(nsT x)):=fC (fun a b x y h1 h2 h=>h (nsT x) (nsT y) (SqT.of h1) (SqT.of h2)) r2 pw2;have et:tl=tf:=mK (q1.trans ((pm.map wt).trans q2.symm)) o1 o2;subst et;have T12:=T1.trans T2;refine⟨.list (tl.map Tb.dat),.list (tl.map Tb.dat),.lst (SqL.of (T2 _ _ ae)) (hV (Paired.EF r1 fun k t (h:H21 k=some (.tup ((nsT t).map V.int)))=>T12 _ _ h)),.lst (SqL.of ae) (hV (Paired.EF r2 fun k t (h:_=some (HO.tup ((nsT t).map V.int)))=>T2 _ _ h)),bN _,bN _,cX _,false,gv _,?_⟩;exact⟨rfl,s21.same T12⟩
  ·rw[De nn];have less:=hh.Kb hw nu;have fl:=Paired.length s21.fm;refine⟨_,rfl,Fd,vs,rfl,.inl (SqL.of s21.f),_,rfl,Le,zs,rfl,.inl (SqL.of g21),_,_,rfl,rfl,false,?_,?_⟩
   ·show V.bl (decide _)=_;rw[De (by lia)]
   exact⟨rfl,s21⟩
 obtain⟨rfl,s23⟩:=z;refine⟨_,rfl,Fd,vs,rfl,.inl (SqL.of s23.f),fun c nc=>?_⟩;have s24:=s23.same (af nc (.lst vs));refine⟨c,vs,us,rfl,ae,s24.fm,wh,s24.lt,fun p vs' gs H25 S25 L25 gp mp hg ug sg=>?_⟩;have eg:gs=us:=mq (ny hh hg ug) (rE sg) (rE so);subst eg;have s25:=s24.smb S25 L25;refine⟨_,rfl,_,_,.lst (SqL.of gp) (dB mp),.lst (SqL.of s25.f) (dB s25.fm),bN _,bN _,cX _,false,gv _,?_⟩;exact⟨_,_,_,_,_,_,_,_,_,_,_,_,rfl,Si.trans s25.fi,s25.lt⟩
end
theorem dM{us:List Value}(h:us.length=1):∃a,us=[a]:=match us,h with|[a],_=>⟨a,rfl⟩
theorem jj{us:List Value}(h:us.length=2):∃a b,us=[a,b]:=match us,h with|[a,b],_=>⟨a,b,rfl⟩
theorem wg{us:List Value}(h:us.length=3):∃a b c,us=[a,b,c]:=match us,h with|[a,b,c],_=>⟨a,b,c,rfl⟩
def FIn (K:W.Frag)(fn:Str)(st:Stmt):Prop:=∃(f:Addr)(oc:Value)(od an:Option Addr)(sl:Array (Option Value))(kV dc pm cd ct:Value),W.nsIn K mainGlobals fn=some (some (.ref f))/\K.lookup f=some ⟨oc,od,.func (W.fnOf fn fn (bW st) (bA st) (aq st) .none kV dc pm an cd ct),sl⟩/\W.codeIn K cd fn=true/\W.keepIn K (.ref f)=true
theorem FIn.of{K:W.Frag}{fn:Str}{st:Stmt}{f:Addr}{oc:Value}{od an:Option Addr}{sl:Array (Option Value)}{kV dc pm cd ct:Value}(a:W.nsIn K mainGlobals fn=some (some (.ref f)))(l:K.lookup f=some ⟨oc,od,.func (W.fnOf fn fn (bW st) (bA st) (aq st) .none kV dc pm an cd ct),sl⟩)(c:W.codeIn K cd fn=true)(k:W.keepIn K (.ref f)=true):FIn K fn st:=⟨f,oc,od,an,sl,kV,dc,pm,cd,ct,a,l,c,k⟩
theorem FIn.dd{K:W.Frag}{fn:Str}{st:Stmt}{h:Heap}{mg:Str->Option Value}(a:FIn K fn st)(X:K.In h)(G:h.Ns mainGlobals mg){ps:List Str}(hb:∀(kV doc pm:Value)(an:Option Addr)(cdv ct:Value)(us:List Value),us.length=ps.length->bindArgs (W.fnOf fn fn (bW st) (bA st) (aq st) .none kV doc pm an cdv ct) ⟨us,[]⟩=pure (ps.zip us)):∃d:DD,Def K mg fn st ps d:=by
 obtain⟨f,oc,od,an,sl,kV,dc,pm,cd,ct,a,l,c,k⟩:=a;have F:=oa (st:=st) l c k;exact⟨⟨f,_⟩,F,Dt X G a,F.binds (ps:=ps) hb⟩
theorem all_mk{l:W.OpenLaw}{w:World}{K:W.Frag}{h:Heap}{mg:Str->Option Value}{fa:Addr}(X:K.In h)(G:h.Ns mainGlobals mg)(hfa:mg "law"=some (.ref fa))
  (xX:FIn K "is_whole" (top 8))
  (zi:FIn K "is_table" (top 9))
  (xY:FIn K "worth" (top 12))
  (xW:FIn K "_law_times" (top 54))
  (yw:FIn K "_law_made" (top 55))
  (zw:FIn K "_law_of_letters" (top 56))
  (yr:FIn K "_law_draw" (top 51))
  (xT:FIn K "_law_draws" (top 50))
  (xV:FIn K "is_plain" (top 16))
  (yx:FIn K "product" (top 10))
  (a_po:FIn K "product_of" (top 11))
  (zj:FIn K "is_word" (top 17))
  (zy:FIn K "table_of" (top 18))
  (a_ww:FIn K "word_within" (top 19))
  (zD:FIn K "word_of" (top 20))
  (zt:FIn K "maker_word" (top 24))
  (zr:FIn K "maker_words" (top 25))
  (yu:FIn K "last_steps" (top 26))
  (yy:FIn K "ways_to_places" (top 27))
  (a_sf:FIn K "shortest_first" (top 28))
  (zq:FIn K "least_to_places" (top 29))
  (a_lr:FIn K "least_row" (top 30))
  (xU:FIn K "_law_piece" (top 52))
  (zo:FIn K "_law_makers" (top 53))
  (zm:FIn K "_law_counts" (top 49))
  (a_fp:FIn K "first_pairs" (top 32))
  (zC:FIn K "words_within" (top 33))
  (zB:FIn K "words_beyond" (top 34))
  (a_fs:FIn K "first_steps" (top 35))
  (a_ns:FIn K "next_steps" (top 36))
  (a_ks:FIn K "keep_shorter" (top 37))
  {f_to:Addr}{od_to an_to:Option Addr}{sl_to:Array (Option Value)}{oc_to kV_to dc_to pm_to cd_to ct_to:Value}
  (a_to:W.nsIn K mainGlobals "twins_of"=some (some (.ref f_to)))(l_to:K.lookup f_to=some ⟨oc_to,od_to,.func (W.fnOf "twins_of" "twins_of" (bW (top 38)) (bA (top 38)) (aq (top 38)) .none kV_to dc_to pm_to an_to cd_to ct_to),sl_to⟩)(c_to:W.codeIn K cd_to "twins_of"=true)(k_to:W.keepIn K (.ref f_to)=true)
  (zA:FIn K "twins" (top 39))
  (a_in:FIn K "is_needed" (top 40))
  (zv:FIn K "needed_of" (top 41))
  (zu:FIn K "needed" (top 42))
  (a_nw:FIn K "needed_words" (top 44))
  (zk:FIn K "left_between" (top 45))
  (a_hw:FIn K "hull_words" (top 46))
  (yt:FIn K "hull" (top 47))
  (zh:FIn K "_law_can" (top 57))
  (zp:FIn K "_law_needed" (top 58))
  (zx:FIn K "_law_twin_begins" (top 59))
  (a_lh:FIn K "_law_hull" (top 60))
  {f_law:Addr}{od_law an_law:Option Addr}{sl_law:Array (Option Value)}{oc_law kV_law dc_law pm_law cd_law ct_law:Value}
  (yU:W.nsIn K mainGlobals "law"=some (some (.ref f_law)))(l_law:K.lookup f_law=some ⟨oc_law,od_law,.func (W.fnOf "law" "law" (bW (top 61)) (bA (top 61)) (aq (top 61)) .none kV_law dc_law pm_law an_law cd_law ct_law),sl_law⟩)(c_law:W.codeIn K cd_law "law"=true)(k_law:W.keepIn K (.ref f_law)=true)
  {one:Addr}(zI:W.nsIn K mainGlobals "ONE"=some (some (.ref one)))
  {odo_ONE:Option Addr}{ito_ONE:Array Value}{no_ONE:Nat}{slo_ONE:Array (Option Value)}(l_ONE:K.lookup one=some ⟨.type "tuple",odo_ONE,.seq ito_ONE no_ONE,slo_ONE⟩)(z_ONE:ito_ONE.size<=sizeLine)(v_ONE:Vals Tb.one.vs ito_ONE.toList)
  {t_LW:Tok}(e_LW:W.nsIn K mainGlobals "LONGEST_WORD"=some (some (.int 400 t_LW)))
  {t_LM:Tok}(e_LM:W.nsIn K mainGlobals "LONGEST_MAKER"=some (some (.int 40 t_LM)))
  {t_MM:Tok}(e_MM:W.nsIn K mainGlobals "MOST_MAKERS"=some (some (.int 8 t_MM)))
  {cdA tA bmA:Addr}{obm:Obj}(ec:cd_to=.ref cdA)(hdA:∀h:Heap,K.In h->W.CodeHd h cdA tA)(neA:mainGlobals≠tA)(e_BI:W.nsIn K mainGlobals "__builtins__"=some (some (.ref bmA)))(l_BI:K.lookup bmA=some obm)(p_BI:bmA≠builtinsNs/\bmA≠mainGlobals/\bmA≠tA/\obm.cls=.type "module"/\obm.dict=some builtinsNs/\obm.data=.plain)
  {lets l1 l2:Addr}{tk1 tk2:Tok}{nd:Nat}(zH:W.nsIn K mainGlobals "LETTERS"=some (some (.ref lets)))(l_LET:K.lookup lets=some ⟨.type "dict",none,.dict #[⟨PyData.keyHash w.params "l",.str "l" tk1,.ref l1⟩,⟨PyData.keyHash w.params "r",.str "r" tk2,.ref l2⟩] nd,#[]⟩)(s_LET:(lets==sysModules)=false)
  {odo_L1:Option Addr}{ito_L1:Array Value}{no_L1:Nat}{slo_L1:Array (Option Value)}(l_L1:K.lookup l1=some ⟨.type "tuple",odo_L1,.seq ito_L1 no_L1,slo_L1⟩)(z_L1:ito_L1.size<=sizeLine)(v_L1:Vals (cG 108).vs ito_L1.toList)
  {odo_L2:Option Addr}{ito_L2:Array Value}{no_L2:Nat}{slo_L2:Array (Option Value)}(l_L2:K.lookup l2=some ⟨.type "tuple",odo_L2,.seq ito_L2 no_L2,slo_L2⟩)(z_L2:ito_L2.size<=sizeLine)(v_L2:Vals (cG 114).vs ito_L2.toList)
  (zL:W.nsIn K mainGlobals "int"=some none)   (yC:W.nsIn K mainGlobals "bool"=some none)   (xp:W.nsIn K mainGlobals "isinstance"=some none)   (ya:W.nsIn K mainGlobals "tuple"=some none)   (yD:W.nsIn K mainGlobals "list"=some none)   (zQ:W.nsIn K mainGlobals "str"=some none)   (zM:W.nsIn K mainGlobals "len"=some none)   (zK:W.nsIn K mainGlobals "all"=some none)   (xZ:W.nsIn K mainGlobals "range"=some none)   (zN:W.nsIn K mainGlobals "max"=some none)   (zO:W.nsIn K mainGlobals "min"=some none)   (zR:W.nsIn K mainGlobals "sum"=some none)   (xw:W.nsIn K mainGlobals "enumerate"=some none)   (xK:W.nsIn K mainGlobals "sorted"=some none)   (zP:W.nsIn K mainGlobals "set"=some none) :
  ∃fd:FuncData,(∀(s:Shared)(v:Value),BindsTo s fd ⟨[v],[]⟩ [("script",v)])/\∀base:Heap,K.In base->base.Ns mainGlobals mg->DQ l.prog w K mg base CX0 8 fa fd ["script"] (oY tA K):=by
 have e:=hfa.symm.trans (Dt X G yU);cases e;have yh:=Du X G zL;have yA:=Du X G yC;have xg:=Du X G xp;have xC:=Du X G ya;have xn:=Du X G yD;have zG:=Du X G zQ;have xf:=Du X G zM;have yg:=Du X G zK;have xh:=Du X G xZ;have zE:=Du X G zN;have xu:=Du X G zO;have yi:=Du X G zR;have xi:=Du X G xw;have xm:=Du X G xK;have zF:=Du X G zP;obtain ⟨d_whole,xA⟩ :=xX.dd X G (ps:=["thing"]) (by walk_at "u");obtain ⟨d_ist,yE⟩ :=zi.dd X G (ps:=["thing"]) (by walk_at "u");obtain ⟨d_worth,xJ⟩ :=xY.dd X G (ps:=["table"]) (by walk_at "u");obtain ⟨d_times,xI⟩ :=xW.dd X G (ps:=["one","other"]) (by walk_at "u");obtain ⟨d_made,yb⟩ :=yw.dd X G (ps:=["tables"]) (by walk_at "u");obtain ⟨d_ofl,yk⟩ :=zw.dd X G (ps:=["word"]) (by walk_at "u");obtain ⟨d_draw,xj⟩ :=yr.dd X G (ps:=["draws","many"]) (by walk_at "u");obtain ⟨d_draws,xH⟩ :=xT.dd X G (ps:=["script","k"]) (by walk_at "u");obtain ⟨d_plain,xq⟩ :=xV.dd X G (ps:=["table"]) (by walk_at "u");obtain ⟨d_prod,xF⟩ :=yx.dd X G (ps:=["one","other"]) (by walk_at "u");obtain ⟨d_po,D_po⟩ :=a_po.dd X G (ps:=["tables"]) (by walk_at "u");obtain ⟨d_isw,yF⟩ :=zj.dd X G (ps:=["text"]) (by walk_at "u");obtain ⟨d_tof,yM⟩ :=zy.dd X G (ps:=["word"]) (by walk_at "u");obtain ⟨d_ww,D_ww⟩ :=a_ww.dd X G (ps:=["table","most"]) (by walk_at "u");obtain ⟨d_wof,yP⟩ :=zD.dd X G (ps:=["table"]) (by walk_at "u");obtain ⟨d_mkw,yK⟩ :=zt.dd X G (ps:=["maker"]) (by walk_at "u");obtain ⟨d_mks,xx⟩ :=zr.dd X G (ps:=["makers"]) (by walk_at "u");obtain ⟨d_last,xE⟩ :=yu.dd X G (ps:=["words","text","end"]) (by walk_at "u");obtain ⟨d_ways,yc⟩ :=yy.dd X G (ps:=["words","text"]) (by walk_at "u");obtain ⟨d_sf,D_sf⟩ :=a_sf.dd X G (ps:=["row"]) (by walk_at "u");obtain ⟨d_ltp,yJ⟩ :=zq.dd X G (ps:=["words","text"]) (by walk_at "u");obtain ⟨d_lr,JN⟩ :=a_lr.dd X G (ps:=["makers","table"]) (by walk_at "u");obtain ⟨d_piece,xo⟩ :=xU.dd X G (ps:=["draws","most"]) (by walk_at "u");obtain ⟨d_lmk,yI⟩ :=zo.dd X G (ps:=["draws"]) (by walk_at "u");obtain ⟨d_lcn,yH⟩ :=zm.dd X G (ps:=["words","text"]) (by walk_at "u");obtain ⟨d_fp,D_fp⟩ :=a_fp.dd X G (ps:=["words"]) (by walk_at "u");obtain ⟨d_win,yO⟩ :=zC.dd X G (ps:=["words","text"]) (by walk_at "u")
 obtain ⟨d_wbe,yN⟩ :=zB.dd X G (ps:=["words","text"]) (by walk_at "u");obtain ⟨d_fs,D_fs⟩ :=a_fs.dd X G (ps:=["words"]) (by walk_at "u");obtain ⟨d_ns,D_ns⟩ :=a_ns.dd X G (ps:=["words","left","found"]) (by walk_at "u");obtain ⟨d_ks,D_ks⟩ :=a_ks.dd X G (ps:=["waiting","done","steps"]) (by walk_at "u");have F_to:=oa (st:=top 38) l_to c_to k_to;have D_to:Def K mg "twins_of" (top 38) ["words"] ⟨f_to,_⟩ :=⟨F_to,Dt X G a_to,F_to.binds (ps:=["words"]) fun _ _ _ _ _ _ us hl=>by obtain ⟨_,rfl⟩ :=dM hl;rfl⟩
 obtain ⟨d_twn,yn⟩ :=zA.dd X G (ps:=["makers"]) (by walk_at "u");obtain ⟨d_in,D_in⟩ :=a_in.dd X G (ps:=["words","number"]) (by walk_at "u");obtain ⟨d_nof,xO⟩ :=zv.dd X G (ps:=["words"]) (by walk_at "u");obtain ⟨d_ned,yL⟩ :=zu.dd X G (ps:=["makers"]) (by walk_at "u");obtain ⟨d_nw,D_nw⟩ :=a_nw.dd X G (ps:=["words"]) (by walk_at "u");obtain ⟨d_lbt,yG⟩ :=zk.dd X G (ps:=["words","twins"]) (by walk_at "u");obtain ⟨d_hw,D_hw⟩ :=a_hw.dd X G (ps:=["words"]) (by walk_at "u");obtain ⟨d_hull,xM⟩ :=yt.dd X G (ps:=["makers"]) (by walk_at "u");obtain ⟨d_can,xN⟩ :=zh.dd X G (ps:=["words","text"]) (by walk_at "u");obtain ⟨d_lnd,yj⟩ :=zp.dd X G (ps:=["words"]) (by walk_at "u");obtain ⟨d_tbg,ym⟩ :=zx.dd X G (ps:=["words"]) (by walk_at "u");obtain ⟨d_lh,Jb⟩ :=a_lh.dd X G (ps:=["words"]) (by walk_at "u");have F_law:=oa (st:=top 61) l_law c_law k_law;have zS:Def K mg "law" (top 61) ["script"] ⟨fa,_⟩ :=⟨F_law,Dt X G yU,F_law.binds (ps:=["script"]) fun _ _ _ _ _ _ us hl=>by obtain ⟨_,rfl⟩ :=dM hl;rfl⟩
 have kO:∀H,SqT K H one Tb.one.vs:=fun H=>.inr ⟨_,ito_ONE,no_ONE,l_ONE,rfl,rfl,z_ONE,v_ONE⟩;have mO:=Dt X G zI;have LK:JL K mg cdA tA:=⟨hdA,fun h KX=>⟨bmA,obm,Dt X G e_BI,p_BI.1,p_BI.2.1,p_BI.2.2.1,KX _ _ l_BI,p_BI.2.2.2⟩,neA⟩
 have mL:=Dt X G zH;have ML:sL l.prog w K lets (lkv l1 l2):=vH (by decide +kernel) s_LET l_LET;have k1:∀H,SqT K H l1 (cG 108).vs:=fun H=>.inr ⟨_,ito_L1,no_L1,l_L1,rfl,rfl,z_L1,v_L1⟩;have k2:∀H,SqT K H l2 (cG 114).vs:=fun H=>.inr ⟨_,ito_L2,no_L2,l_L2,rfl,rfl,z_L2,v_L2⟩;refine⟨W.fnOf "law" "law" (bW (top 61)) (bA (top 61)) (aq (top 61)) .none kV_law dc_law pm_law an_law cd_law ct_law,fun s v=>.of_eq rfl,fun base _ _=>?_⟩;have xR:=pI (P:=l.prog) (w:=w) (base:=base) xA yh yA xg;have yV:=uT ⟨xA,xR⟩ yE xC xf yg xg;have xS:=pY (P:=l.prog) (w:=w) (base:=base) xJ;have xQ:=pZ (P:=l.prog) (w:=w) (base:=base) xI xh xC;have yo:=ot ⟨xI,xQ⟩ yb;have yR:=tT ⟨yb,yo⟩ yk;have xk:=sy (P:=l.prog) (w:=w) (base:=base) xj;have xP:=oZ (P:=l.prog) (w:=w) (base:=base) xH xf yh;have xB:=oK ⟨yE,yV⟩  ⟨xJ,xS⟩ xq xu;have yp:=si (P:=l.prog) (w:=w) (base:=base) xF;have G_po:=uI mO kO ⟨xF,yp⟩ D_po;have yW:=uj (P:=l.prog) (w:=w) (base:=base) (Dt X G e_LW) mL ML yF xg zG xf yg;have zd:=rN mL ML k1 k2 ⟨yF,yW⟩  ⟨D_po,G_po⟩ yM;have G_ww:=wu (P:=l.prog) (w:=w) (base:=base) mO kO D_ww xf;have zg:=um (Dt X G e_LW) ⟨xq,xB⟩  ⟨D_ww,G_ww⟩ yP;have zb:=uz (Dt X G e_LM) ⟨xq,xB⟩  ⟨D_ww,G_ww⟩ yK;have xD:=uy (Dt X G e_MM) ⟨yK,zb⟩ xx xg xn xf;have xG:=sh (P:=l.prog) (w:=w) (base:=base) xE xi xf;have yq:=qF ⟨xE,xG⟩ yc xh xf yi;have G_sf:=wN (P:=l.prog) (w:=w) (base:=base) D_sf xf;have za:=uH ⟨xE,xG⟩  ⟨D_sf,G_sf⟩ yJ xh xf xu;have Kh:=vQ ⟨xx,xD⟩  ⟨yP,zg⟩  ⟨yJ,za⟩ JN xf;have xr:=oF ⟨xj,xk⟩ xo xh;have yZ:=tj ⟨xj,xk⟩  ⟨xo,xr⟩ yI xh xf;have yY:=uc (P:=l.prog) (w:=w) (base:=base) yH xh xf xu yi;have G_fp:=wd (P:=l.prog) (w:=w) (base:=base) D_fp xf xh;have zf:=sV (P:=l.prog) (w:=w) (base:=base) yO xi;have ze:=tK (P:=l.prog) (w:=w) (base:=base) yN xi;have G_fs:=vL ⟨D_fp,G_fp⟩ D_fs xf;have G_ns:=vK ⟨yO,zf⟩  ⟨yN,ze⟩ D_ns xf;have G_ks:=wc (P:=l.prog) (w:=w) (base:=base) D_ks;have G_to:=vN LK ec ⟨D_fs,G_fs⟩  ⟨D_ks,G_ks⟩  ⟨D_ns,G_ns⟩ D_to xu;have yT:=uF ⟨xx,xD⟩  ⟨D_to,G_to⟩ yn;have G_in:=vJ ⟨yc,yq⟩ D_in xf;have yf:=tN ⟨D_in,G_in⟩ xO xh xf;have zc:=uD ⟨xx,xD⟩  ⟨xO,yf⟩ yL;have G_nw:=wK ⟨xO,yf⟩ D_nw xm;have yX:=vg (P:=l.prog) (w:=w) (base:=base) yG xf;have G_hw:=wF ⟨D_nw,G_nw⟩  ⟨D_to,G_to⟩  ⟨yG,yX⟩ D_hw;have yd:=su ⟨xx,xD⟩  ⟨D_hw,G_hw⟩  ⟨yM,zd⟩ xM;have ye:=tX ⟨yH,yY⟩ xN;have yQ:=vw ⟨xN,ye⟩ yj zF xm;have yS:=uG (P:=l.prog) (w:=w) (base:=base) ym xf;have JO:=wD ⟨yj,yQ⟩  ⟨ym,yS⟩ Jb xf;have Al:All tA l.prog w K mg base ⟨d_draws,d_draw,d_piece,d_lmk,d_ofl,d_can,d_lh,d_lr,d_ned,d_twn,d_hull⟩:=
  ⟨xH,xj,xo,yI,yk,xN,Jb,JN,yL,yn,xM,xP,xk,xr,yZ,yR,ye,JO,Kh,zc,yT,yd,xh,zE,xu,xf,xn,xg,xm⟩
 exact va Al zS
theorem walk{l:W.OpenLaw}{q:Program}{loose:List Str}{XP:(Str->Option Value)->Heap->Prop}{YP:World->Heap->Prop}{d:DefRec}{K KF:Params->W.Frag}{T c0:Addr}{ps:Array Value}(hn:l.most=some 63)(hdf:d.params.defaults=[])(hps:TriplesOk ps.toList/\codeAmong Fx ps.toList=none)
  (hY:∀(w:World)(h:Heap),YP w h->(KF w.params).In h)(hKF:∀(p:Params)(h:Heap),(KF p).In h->(K p).In h/\h.get? T=some (W.tabObj ps)/\W.CodeHd h c0 T)(kT:∀p:Params,(K p).lookup T=none)
  (F:∀(w:World) (mg:Str->Option Value) (fa:Addr) (h:Heap),(K w.params).In h->h.Ns mainGlobals mg->mg d.name=some (.ref fa) ->
   ∃fd:FuncData,(∀(s:Shared) (u:Value),BindsTo s fd ⟨[u],[]⟩ [("script",u)])/\∀base:Heap,(K w.params).In base->base.Ns mainGlobals mg->DQ l.prog w (K w.params) mg base CX0 8 fa fd ["script"] (oY T (K w.params))) :
  W.WalkO q loose XP YP l.row.toRowW d [] (fun f vs=>PySem.call f vs):=
 L2.HE (n:=63) (k:=8) (x:="script") (CX:=fun _=>CX0) (sp:=fun w=>oY T (K w.params)) hn (by decide) hdf ⟨rfl,by decide,by decide⟩ hY hKF kT F (fun _ _ a ns hl gT hS=>⟨a,ns,rfl,hS,hl,⟨ps,gT,hps.1,.inl hps.2⟩,fun _=>rfl⟩) fun _ _ _ _ _ z=>z
end K3
namespace Hd
open PySem PySem.W PyProof.Rows
noncomputable section
def run (den:Code->Sem Fin)(ok:Nat->Option Value->Thread->Bool)(st:(Code->Sem Fin)->Program->World->SharedT->Thread->Option (SharedT×Thread))(p:Program)(w:World)(m:Nat)(ann:Option Value):Nat->SharedT->Thread->Option SharedT
 |0,_,_=>none
 |n+1,s,t=>match through t with
  |true=>some s
  |false=>match ok m ann t with
   |false=>none
   |true=>match st den p w s t with
    |some r=>run den ok st p w m ann n r.1 r.2
    |none=>none
theorem qA{tb:String->Option Builtin}{p:Program}{w:World}{m:Nat}{ann:Option Value}:∀{n:Nat}{s r:SharedT}{t:Thread},run (denote tb) stepOk stepT p w m ann n s t=some r->topRun tb p w m ann n s.abs t=some r.abs
 |0,_,_,_,h=>by cases h
 |n+1,s,r,t,h=>by
  unfold run at h;unfold topRun;cases ht:through t with
  |true=>rw[ht] at h;cases h;rfl
  |false=>
   rw[ht] at h;cases hk:stepOk m ann t with
   |false=>rw[hk] at h;cases h
   |true=>
    rw[hk] at h;cases hs:stepT (denote tb) p w s t with
    |none=>rw[hs] at h;cases h
    |some r=>rw[hs] at h;rw[stepT_spec hs];exact qA h
def grow:List Obj->Nat->BT->BT
 |[],_,t=>t
 |o::l,n,t=>grow l (n+1) (t.ins n o)
def vM(P:Params):BT:=grow (boot_heap P).objs.toList 0 .nil
abbrev first(w:World)(os:OsState):SharedT:=⟨vM w.params,(boot_heap w.params).objs.size,(boot_heap w.params).life,#[],boot_drawn,boot_toks,os⟩
theorem ma(w:World)(os:OsState):(first w os).abs=⟨boot_heap w.params,#[],boot_drawn,boot_toks,os⟩:=by kernel_rfl
def uY(P:Params):Option Value:=(boot_heap P).nsMap mainGlobals "__annotations__"
def sS(seenF:Program->List Str->List Str->(Shared->Bool)->Bool->Shared->_)(p q:Program)(loose:List Str)(Xt:Shared->Bool)(as:List Addr)(h:Heap)(s:Shared):=
 ((staticsOk (importedModules p.main.body) h s.heap&&namesBound p s.heap&&gensDone s&&laidKept h s.heap),(seenF q loose (importedModules p.main.body) Xt true s:type_of% (openSeen q loose (importedModules p.main.body) Xt true s)),as.map s.heap.get?)
abbrev sN(den:Code->Sem Fin)(ok:Nat->Option Value->Thread->Bool)(st:(Code->Sem Fin)->Program->World->SharedT->Thread->Option (SharedT×Thread))
  (seenF:(q:Program)->(loose mods:List Str)->(Xt:Shared->Bool)->Bool->(s:Shared)->type_of% (openSeen q loose mods Xt true s))(p q:Program)(loose:List Str)(Xt:Shared->Bool)(K:Params->Frag)(as:List Addr)(N:Nat)(w:World):Prop:=
 (fun os=>(run den ok st p w (boot_heap w.params).objs.size (uY w.params) N (first w os) (topStub p)).map fun s=>sS seenF p q loose Xt as (boot_heap w.params) s.abs)=fun _=>some (true,openGood q loose,(K w.params).map fun x=>some x.2)
theorem vU{p q:Program}{loose:List Str}{Xt:Shared->Bool}{K:Params->Frag}{as:List Addr}{N:Nat}(e:opening p=plainProg p.main.scope.names)(hN:Nat.ble 600 N=true)(f:∀s,fenceModules? p s=some s)
  (size:∀P:Params,(boot_heap P).isNs mainGlobals=true)(key:∀w,sN (denote treeTable) stepOk stepT openSeen p q loose Xt K as N w) :
  LeftO p q loose Xt (fun s=>as.map s.heap.get?) (fun w=>(K w.params).map fun x=>some x.2) N true:=fun w=>by
 obtain⟨⟨h,gs,d,k,os⟩,e1,e2⟩:=Be.mp (boot_open (p:=p) (N:=N) e hN f w);obtain⟨rfl,rfl,rfl,rfl⟩:h=boot_heap w.params/\gs=Array.mk []/\d=boot_drawn/\k=boot_toks:=by simpa using e2
 obtain⟨s,r,l⟩:=Be.mp (congrFun (key w) os);have r':=qA r;rw[ma] at r';unfold sS at l;obtain⟨l1,l2,l3⟩:_/\_/\_:=by simpa only [Prod.mk.injEq] using l
 have t:topFrom treeTable p w N ⟨boot_heap w.params,#[],boot_drawn,boot_toks,os⟩=some s.abs:=by
  unfold topFrom;dsimp only;rw[size w.params];show(topRun treeTable p w (boot_heap w.params).objs.size (uY w.params) N _ _).bind _=_;rw[r'];show(match staticsOk (importedModules p.main.body) (boot_heap w.params) s.abs.heap&&namesBound p s.abs.heap&&gensDone s.abs&&laidKept (boot_heap w.params) s.abs.heap with|true=>_|false=>_)=_;rw[l1]
 unfold openEnds;rw[e1];show(topFrom treeTable p w N _).map _=_;rw[t];exact congrArg some (Prod.ext l2 l3)
abbrev en(P:Params)(x:Str)(t:Tok)(v:Value):DictEntry:=⟨PyData.keyHash P x,.str x t,v⟩
abbrev dn:=PySem.W.Fast.tw11892475500146522536 PySem.W.Fast.tw14364793385576792824
abbrev kG(p q:Program)(loose:List Str)(Xt:Shared->Bool)(K:Params->Frag)(as:List Addr)(N:Nat)(w:World):Prop:=sN dn PySem.W.Fast.tw6613529449190102663 PySem.W.Fast.tw10156331382660048174 PySem.W.Fast.tw4187177175401517315 p q loose Xt K as N w
theorem key1{p q:Program}{loose:List Str}{Xt:Shared->Bool}{K:Params->Frag}{as:List Addr}{N:Nat}(h:∀w:World,kG p q loose Xt K as N w):∀w,sN (denote treeTable) stepOk stepT openSeen p q loose Xt K as N w:=fun w=>by
 rw[PySem.W.Fast.te10156331382660048174,PySem.W.Fast.te11892475500146522536,PySem.W.Fast.te14364793385576792824,PySem.W.Fast.te6613529449190102663,PySem.W.Fast.te4187177175401517315];exact h w
theorem key2{p q:Program}{loose:List Str}{Xt:Shared->Bool}{K:Params->Frag}{as:List Addr}{N:Nat}(row:String)(hf:∀w:World,kG p q loose Xt K as N (w.withFollow row false))(ht:∀w:World,kG p q loose Xt K as N (w.withFollow row true)):∀w,sN (denote treeTable) stepOk stepT openSeen p q loose Xt K as N w:=
 key1 fun w=>byRow2 (P:=fun w=>kG p q loose Xt K as N w) row hf ht w
abbrev xt(l:OpenLaw)(q:Program)(s:Shared):Bool:=xlAt q [] s&&recOk (RowW.records l.row.toRowW) s
theorem ui(P:Params):(boot_heap P).isNs mainGlobals=true:=by kernel_rfl
theorem head{l:OpenLaw}{q:Program}{loose:List Str}{K:Params->Frag}{as:List Addr}{N:Nat}{d:DefRec}(said:l.wellSaid=true)(e:opening l.prog=plainProg l.prog.main.scope.names)(hN:Nat.ble 600 N=true)(f:∀s,fenceModules? l.prog s=some s)
  (key:∀w,sN (denote treeTable) stepOk stepT openSeen l.prog q loose (xt l q) K as N w)(hK:∀P,as=(K P).map (·.1))
  (hdef:defOf q l.row.name=some (d,[]))(hp:l.row.prog.theDef l.row.name=some (d.params,d.body,d.scope))(hk:kwWritten? d.params.kwonlyargs d.params.kw_defaults=some [])(hwr:(!l.row.writes||l.row.records.isEmpty)=true)
  (ok:(chainsOk q&&opensWell l.row.prog&&(frees l.row.toRowW&&l.row.within.isEmpty))=true)(hb:l.row.prog.bare)(hw:l.row.toRowW.promised)
  (call:WalkO q loose (XL q []) (InK K) l.row.toRowW d [] fun f vs=>PySem.call f vs):l.Holds:=
 holds_law said fun k1=>holds_open (Xt:=xt l q) (vU e hN f ui key) (InK.of hK) InK.keeps (fun s e=>xl_of s (Bool.and_eq_true_iff.mp e).1) XL.keeps hdef hp hk (fun s e=>recFacts_of (Bool.and_eq_true_iff.mp e).2) hwr k1 ok hb hw call
end
end Hd
namespace Hd
open PySem PySem.W PyProof.Rows L2 K3
noncomputable section
abbrev pw:=PySem.Challenge.pw_quadwords_k28_whole_hulls
def loose:List Str:=["LETTERS"]
def keep:List Nat:=[1,2,3,4,5,7,8,9,10,11,12,14,15,16,17,18,19,20,22,23,24,25,26,27,28,29,30,32,33,34,35,36,37,38,39,40,41,42,44,45,46,47,49,50,51,52,53,54,55,56,57,58,59,60,61]
abbrev cO(n:Str)(t t1 t2:Nat)(l a f:Int)(v1 v2 v3 v4 v5 v6:Value)(u:Int)(t3:Nat):Obj:=⟨.type "code",none,.fields #[.str n t,.str n t1,.str "/claim/cut.py" t2,.int l 0,.int a 0,.int 0 0,.int 0 0,.int f 0,v1,.bool true,.int 181 0,v2,v3,v4,v5,v6,.int u 0,.int l 0,.str "/claim/cut.py" t3],#[]⟩
abbrev fO(n:Str)(s:Stmt)(m:Value)(c:Addr):Obj:=⟨.type "function",none,.func (PySem.W.fnOf n n (bW s) (bA s) (aq s) .none .none .none m none (.ref c) .none),#[]⟩
def o3(P:Params):Obj:=⟨.type "dict",none,(.dict #[en P "__name__" 165 (.str "law_quadwords_k28_whole_hulls" 555),en P "__doc__" 166 .none,en P "__package__" 167 .none,en P "__loader__" 168 (.builtin "__main__.__loader__#opaque"),en P "__spec__" 169 .none,en P "__annotations__" 170 (.ref 6),en P "__builtins__" 171 (.ref 4),en P "__file__" 173 (.str "/claim/cut.py" 172),en P "__cached__" 174 .none,en P "QuadError" 206 (.ref 24),en P "NoWord" 222 (.ref 37),en P "NoPlain" 238 (.ref 49),en P "TooLong" 254 (.ref 61),en P "NoMakers" 270 (.ref 73),en P "ONE" 277 (.ref 76),en P "is_whole" 284 (.ref 83),en P "is_table" 290 (.ref 88),en P "product" 306 (.ref 95),en P "product_of" 315 (.ref 102),en P "worth" 326 (.ref 109),en P "LETTERS" 341 (.ref 110),en P "LONGEST_WORD" 343 (.int 400 342),en P "is_plain" 350 (.ref 119),en P "is_word" 356 (.ref 124),en P "table_of" 362 (.ref 129),en P "word_within" 375 (.ref 136),en P "word_of" 383 (.ref 143),en P "MOST_MAKERS" 387 (.int 8 386),en P "LONGEST_MAKER" 389 (.int 40 388),en P "maker_word" 397 (.ref 150),en P "maker_words" 403 (.ref 155),en P "last_steps" 409 (.ref 160),en P "ways_to_places" 415 (.ref 165),en P "shortest_first" 422 (.ref 172),en P "least_to_places" 428 (.ref 177),en P "least_row" 438 (.ref 184),en P "first_pairs" 446 (.ref 189),en P "words_within" 452 (.ref 194),en P "words_beyond" 458 (.ref 199),en P "first_steps" 464 (.ref 204),en P "next_steps" 470 (.ref 209),en P "keep_shorter" 481 (.ref 216),en P "twins_of" 495 (.ref 223),en P "twins" 502 (.ref 230),en P "is_needed" 508 (.ref 235),en P "needed_of" 514 (.ref 240),en P "needed" 521 (.ref 247),en P "needed_words" 529 (.ref 252),en P "left_between" 539 (.ref 259),en P "hull_words" 548 (.ref 266),en P "hull" 554 (.ref 271),en P "_law_counts" 562 (.ref 276),en P "_law_draws" 573 (.ref 283),en P "_law_draw" 582 (.ref 290),en P "_law_piece" 588 (.ref 295),en P "_law_makers" 603 (.ref 302),en P "_law_times" 615 (.ref 309),en P "_law_made" 624 (.ref 316),en P "_law_of_letters" 630 (.ref 321),en P "_law_can" 638 (.ref 328),en P "_law_needed" 644 (.ref 333),en P "_law_twin_begins" 657 (.ref 340),en P "_law_hull" 663 (.ref 345),en P "law" 669 (.ref 350)] 64),#[]⟩
def o4(P:Params):Obj:=⟨.type "module",(some 0),.plain,#[]⟩
def o23(P:Params):Obj:=⟨.type "dict",none,(.dict #[en P "__module__" 196 (.str "quadwords.errors" 187),en P "__firstlineno__" 200 (.int 2 199),en P "__static_attributes__" 201 (.ref 22),en P "__weakref__" 203 (.ref 25),en P "__doc__" 204 .none] 3),#[]⟩
def o24(P:Params):Obj:=⟨.type "type",none,(.cls ⟨"QuadError",[.type "ValueError"],[.ref 24,.type "ValueError",.type "Exception",.type "BaseException",.type "object"],23,"QuadError",true,[],[.ref 37,.ref 49,.ref 61,.ref 73],false,none,false⟩),#[some (.ref 15),none,some (.str "QuadError" 189),some (.str "QuadError" 197),some (.builtin "ValueError.__new__"),some (.bool true)]⟩
def tw1(P:Params)(n5 n13 n17 n21 n23 n27:Nat)(z15:Int):Obj:=⟨.type "dict",none,(.dict #[en P "__module__" n5 (.str "quadwords.errors" 187),en P "__firstlineno__" n13 (.int z15 n17),en P "__static_attributes__" n21 (.ref n23),en P "__doc__" n27 .none] 2),#[]⟩
def o36(P:Params):Obj:=tw1 P 214 218 217 219 35 220 4
def tw2(P:Params)(n7 n19 n23 n27 n31:Nat)(s3:Str):Obj:=⟨.type "type",none,(.cls ⟨s3,[.ref 24],[.ref n7,.ref 24,.type "ValueError",.type "Exception",.type "BaseException",.type "object"],n19,s3,true,[],[],false,none,false⟩),#[some (.ref n23),none,some (.str s3 n27),some (.str s3 n31),some (.builtin "ValueError.__new__"),some (.bool true)]⟩
def o37(P:Params):Obj:=tw2 P 37 36 28 207 215 "NoWord"
def o48(P:Params):Obj:=tw1 P 230 234 233 235 47 236 6
def o49(P:Params):Obj:=tw2 P 49 48 40 223 231 "NoPlain"
def o60(P:Params):Obj:=tw1 P 246 250 249 251 59 252 8
def o61(P:Params):Obj:=tw2 P 61 60 52 239 247 "TooLong"
def o72(P:Params):Obj:=tw1 P 262 266 265 267 71 268 10
def o73(P:Params):Obj:=tw2 P 73 72 64 255 263 "NoMakers"
def tw3(P:Params)(n5 n9 n13 n17:Nat)(z7 z11:Int):Obj:=⟨.type "tuple",none,(.seq #[.int 1 n5,.int z7 n9,.int z11 n13,.int 1 n17] 0),#[]⟩
def o76(P:Params):Obj:=tw3 P 273 274 275 276 0 0
def o82(P:Params):Obj:=cO "is_whole" 278 279 280 14 1 3 (.ref 77) (.ref 78) .none (.ref 79) (.ref 80) (.ref 81) 282 283
def o83(P:Params):Obj:=fO "is_whole" (top 8) (.str "quadwords.tables" 271) 82
def o87(P:Params):Obj:=cO "is_table" 285 286 287 16 1 3 (.ref 84) (.ref 85) .none .none .none (.ref 86) 288 289
def o88(P:Params):Obj:=fO "is_table" (top 9) (.str "quadwords.tables" 271) 87
def o94(P:Params):Obj:=cO "product" 291 292 293 18 2 3 (.ref 89) (.ref 90) .none (.ref 91) (.ref 92) (.ref 93) 304 305
def o95(P:Params):Obj:=fO "product" (top 10) (.str "quadwords.tables" 271) 94
def o101(P:Params):Obj:=cO "product_of" 307 308 309 22 1 3 (.ref 96) (.ref 97) .none (.ref 98) (.ref 99) (.ref 100) 313 314
def o102(P:Params):Obj:=fO "product_of" (top 11) (.str "quadwords.tables" 271) 101
def o108(P:Params):Obj:=cO "worth" 316 317 318 27 1 3 (.ref 103) (.ref 104) .none (.ref 105) (.ref 106) (.ref 107) 324 325
def o109(P:Params):Obj:=fO "worth" (top 12) (.str "quadwords.tables" 271) 108
def o110(P:Params):Obj:=⟨.type "dict",none,(.dict #[en P "l" 329 (.ref 111),en P "r" 334 (.ref 112)] 2),#[]⟩
def o111(P:Params):Obj:=tw3 P 330 331 332 333 0 1
def o112(P:Params):Obj:=tw3 P 335 336 337 338 1 0
def o118(P:Params):Obj:=cO "is_plain" 344 345 346 33 1 3 (.ref 113) (.ref 114) .none (.ref 115) (.ref 116) (.ref 117) 348 349
def o119(P:Params):Obj:=fO "is_plain" (top 16) (.str "quadwords.plain" 327) 118
def o123(P:Params):Obj:=cO "is_word" 351 352 353 35 1 3 (.ref 120) (.ref 121) .none .none .none (.ref 122) 354 355
def o124(P:Params):Obj:=fO "is_word" (top 17) (.str "quadwords.plain" 327) 123
def o128(P:Params):Obj:=cO "table_of" 357 358 359 39 1 3 (.ref 125) (.ref 126) .none .none .none (.ref 127) 360 361
def o129(P:Params):Obj:=fO "table_of" (top 18) (.str "quadwords.plain" 327) 128
def o135(P:Params):Obj:=cO "word_within" 363 364 365 43 2 3 (.ref 130) (.ref 131) .none (.ref 132) (.ref 133) (.ref 134) 373 374
def o136(P:Params):Obj:=fO "word_within" (top 19) (.str "quadwords.plain" 327) 135
def o142(P:Params):Obj:=cO "word_of" 376 377 378 56 1 3 (.ref 137) (.ref 138) .none (.ref 139) (.ref 140) (.ref 141) 381 382
def o143(P:Params):Obj:=fO "word_of" (top 20) (.str "quadwords.plain" 327) 142
def o149(P:Params):Obj:=cO "maker_word" 390 391 392 66 1 3 (.ref 144) (.ref 145) .none (.ref 146) (.ref 147) (.ref 148) 395 396
def o150(P:Params):Obj:=fO "maker_word" (top 24) (.str "quadwords.rows" 384) 149
def o154(P:Params):Obj:=cO "maker_words" 398 399 400 73 1 3 (.ref 151) (.ref 152) .none .none .none (.ref 153) 401 402
def o155(P:Params):Obj:=fO "maker_words" (top 25) (.str "quadwords.rows" 384) 154
def o159(P:Params):Obj:=cO "last_steps" 404 405 406 77 3 3 (.ref 156) (.ref 157) .none .none .none (.ref 158) 407 408
def o160(P:Params):Obj:=fO "last_steps" (top 26) (.str "quadwords.rows" 384) 159
def o164(P:Params):Obj:=cO "ways_to_places" 410 411 412 80 2 3 (.ref 161) (.ref 162) .none .none .none (.ref 163) 413 414
def o165(P:Params):Obj:=fO "ways_to_places" (top 27) (.str "quadwords.rows" 384) 164
def o171(P:Params):Obj:=cO "shortest_first" 416 417 418 85 1 3 (.ref 166) (.ref 167) .none (.ref 168) (.ref 169) (.ref 170) 420 421
def o172(P:Params):Obj:=fO "shortest_first" (top 28) (.str "quadwords.rows" 384) 171
def o176(P:Params):Obj:=cO "least_to_places" 423 424 425 87 2 3 (.ref 173) (.ref 174) .none .none .none (.ref 175) 426 427
def o177(P:Params):Obj:=fO "least_to_places" (top 29) (.str "quadwords.rows" 384) 176
def o183(P:Params):Obj:=cO "least_row" 429 430 431 94 2 3 (.ref 178) (.ref 179) .none (.ref 180) (.ref 181) (.ref 182) 436 437
def o184(P:Params):Obj:=fO "least_row" (top 30) (.str "quadwords.rows" 384) 183
def o188(P:Params):Obj:=cO "first_pairs" 441 442 443 99 1 3 (.ref 185) (.ref 186) .none .none .none (.ref 187) 444 445
def o189(P:Params):Obj:=fO "first_pairs" (top 32) (.str "quadwords.free" 439) 188
def o193(P:Params):Obj:=cO "words_within" 447 448 449 103 2 3 (.ref 190) (.ref 191) .none .none .none (.ref 192) 450 451
def o194(P:Params):Obj:=fO "words_within" (top 33) (.str "quadwords.free" 439) 193
def o198(P:Params):Obj:=cO "words_beyond" 453 454 455 105 2 3 (.ref 195) (.ref 196) .none .none .none (.ref 197) 456 457
def o199(P:Params):Obj:=fO "words_beyond" (top 34) (.str "quadwords.free" 439) 198
def o203(P:Params):Obj:=cO "first_steps" 459 460 461 107 1 3 (.ref 200) (.ref 201) .none .none .none (.ref 202) 462 463
def o204(P:Params):Obj:=fO "first_steps" (top 35) (.str "quadwords.free" 439) 203
def o208(P:Params):Obj:=cO "next_steps" 465 466 467 110 3 3 (.ref 205) (.ref 206) .none .none .none (.ref 207) 468 469
def o209(P:Params):Obj:=fO "next_steps" (top 36) (.str "quadwords.free" 439) 208
def o215(P:Params):Obj:=cO "keep_shorter" 471 472 473 115 3 3 (.ref 210) (.ref 211) .none (.ref 212) (.ref 213) (.ref 214) 479 480
def o216(P:Params):Obj:=fO "keep_shorter" (top 37) (.str "quadwords.free" 439) 215
def wL(P:Params):Obj:=cO "twins_of" 482 483 484 119 1 3 (.ref 217) (.ref 218) .none (.ref 219) (.ref 220) (.ref 221) 493 494
def o223(P:Params):Obj:=fO "twins_of" (top 38) (.str "quadwords.free" 439) 222
def o229(P:Params):Obj:=cO "twins" 496 497 498 132 1 3 (.ref 224) (.ref 225) .none (.ref 226) (.ref 227) (.ref 228) 500 501
def o230(P:Params):Obj:=fO "twins" (top 39) (.str "quadwords.free" 439) 229
def o234(P:Params):Obj:=cO "is_needed" 503 504 505 134 2 3 (.ref 231) (.ref 232) .none .none .none (.ref 233) 506 507
def o235(P:Params):Obj:=fO "is_needed" (top 40) (.str "quadwords.free" 439) 234
def o239(P:Params):Obj:=cO "needed_of" 509 510 511 138 1 3 (.ref 236) (.ref 237) .none .none .none (.ref 238) 512 513
def o240(P:Params):Obj:=fO "needed_of" (top 41) (.str "quadwords.free" 439) 239
def o246(P:Params):Obj:=cO "needed" 515 516 517 140 1 3 (.ref 241) (.ref 242) .none (.ref 243) (.ref 244) (.ref 245) 519 520
def o247(P:Params):Obj:=fO "needed" (top 42) (.str "quadwords.free" 439) 246
def o251(P:Params):Obj:=cO "needed_words" 524 525 526 143 1 3 (.ref 248) (.ref 249) .none .none .none (.ref 250) 527 528
def o252(P:Params):Obj:=fO "needed_words" (top 44) (.str "quadwords.hulls" 522) 251
def o258(P:Params):Obj:=cO "left_between" 530 531 532 145 2 3 (.ref 253) (.ref 254) .none (.ref 255) (.ref 256) (.ref 257) 537 538
def o259(P:Params):Obj:=fO "left_between" (top 45) (.str "quadwords.hulls" 522) 258
def o265(P:Params):Obj:=cO "hull_words" 540 541 542 148 1 3 (.ref 260) (.ref 261) .none (.ref 262) (.ref 263) (.ref 264) 546 547
def o266(P:Params):Obj:=fO "hull_words" (top 46) (.str "quadwords.hulls" 522) 265
def o270(P:Params):Obj:=cO "hull" 549 550 551 155 1 3 (.ref 267) (.ref 268) .none .none .none (.ref 269) 552 553
def o271(P:Params):Obj:=fO "hull" (top 47) (.str "quadwords.hulls" 522) 270
def o275(P:Params):Obj:=cO "_law_counts" 557 558 559 158 2 3 (.ref 272) (.ref 273) .none .none .none (.ref 274) 560 561
def o276(P:Params):Obj:=fO "_law_counts" (top 49) (.str "law_quadwords_k28_whole_hulls" 555) 275
def o282(P:Params):Obj:=cO "_law_draws" 563 564 565 165 2 3 (.ref 277) (.ref 278) .none (.ref 279) (.ref 280) (.ref 281) 571 572
def o283(P:Params):Obj:=fO "_law_draws" (top 50) (.str "law_quadwords_k28_whole_hulls" 555) 282
def o289(P:Params):Obj:=cO "_law_draw" 574 575 576 175 2 3 (.ref 284) (.ref 285) .none (.ref 286) (.ref 287) (.ref 288) 580 581
def o290(P:Params):Obj:=fO "_law_draw" (top 51) (.str "law_quadwords_k28_whole_hulls" 555) 289
def o294(P:Params):Obj:=cO "_law_piece" 583 584 585 182 2 3 (.ref 291) (.ref 292) .none .none .none (.ref 293) 586 587
def o295(P:Params):Obj:=fO "_law_piece" (top 52) (.str "law_quadwords_k28_whole_hulls" 555) 294
def o301(P:Params):Obj:=cO "_law_makers" 589 590 591 188 1 3 (.ref 296) (.ref 297) .none (.ref 298) (.ref 299) (.ref 300) 601 602
def o302(P:Params):Obj:=fO "_law_makers" (top 53) (.str "law_quadwords_k28_whole_hulls" 555) 301
def o308(P:Params):Obj:=cO "_law_times" 604 605 606 202 2 3 (.ref 303) (.ref 304) .none (.ref 305) (.ref 306) (.ref 307) 613 614
def o309(P:Params):Obj:=fO "_law_times" (top 54) (.str "law_quadwords_k28_whole_hulls" 555) 308
def o315(P:Params):Obj:=cO "_law_made" 616 617 618 209 1 3 (.ref 310) (.ref 311) .none (.ref 312) (.ref 313) (.ref 314) 622 623
def o316(P:Params):Obj:=fO "_law_made" (top 55) (.str "law_quadwords_k28_whole_hulls" 555) 315
def o320(P:Params):Obj:=cO "_law_of_letters" 625 626 627 214 1 3 (.ref 317) (.ref 318) .none .none .none (.ref 319) 628 629
def o321(P:Params):Obj:=fO "_law_of_letters" (top 56) (.str "law_quadwords_k28_whole_hulls" 555) 320
def o327(P:Params):Obj:=cO "_law_can" 631 632 633 218 2 3 (.ref 322) (.ref 323) .none (.ref 324) (.ref 325) (.ref 326) 636 637
def o328(P:Params):Obj:=fO "_law_can" (top 57) (.str "law_quadwords_k28_whole_hulls" 555) 327
def o332(P:Params):Obj:=cO "_law_needed" 639 640 641 220 1 3 (.ref 329) (.ref 330) .none .none .none (.ref 331) 642 643
def o333(P:Params):Obj:=fO "_law_needed" (top 58) (.str "law_quadwords_k28_whole_hulls" 555) 332
def o339(P:Params):Obj:=cO "_law_twin_begins" 645 646 647 226 1 3 (.ref 334) (.ref 335) .none (.ref 336) (.ref 337) (.ref 338) 655 656
def o340(P:Params):Obj:=fO "_law_twin_begins" (top 59) (.str "law_quadwords_k28_whole_hulls" 555) 339
def o344(P:Params):Obj:=cO "_law_hull" 658 659 660 245 1 3 (.ref 341) (.ref 342) .none .none .none (.ref 343) 661 662
def o345(P:Params):Obj:=fO "_law_hull" (top 60) (.str "law_quadwords_k28_whole_hulls" 555) 344
def o349(P:Params):Obj:=cO "law" 664 665 666 253 1 3 (.ref 346) (.ref 347) .none .none .none (.ref 348) 667 668
def o350(P:Params):Obj:=fO "law" (top 61) (.str "law_quadwords_k28_whole_hulls" 555) 349
def vC(P:Params):Obj:=⟨.none,none,(.fields #[]),#[]⟩
def K(P:Params):Frag:=(nat_lit 3,o3 P)::(nat_lit 4,o4 P)::(nat_lit 23,o23 P)::(nat_lit 24,o24 P)::(nat_lit 36,o36 P)::(nat_lit 37,o37 P)::(nat_lit 48,o48 P)::(nat_lit 49,o49 P)::(nat_lit 60,o60 P)::(nat_lit 61,o61 P)::(nat_lit 72,o72 P)::(nat_lit 73,o73 P)::(nat_lit 76,o76 P)::(nat_lit 82,o82 P)::(nat_lit 83,o83 P)::(nat_lit 87,o87 P)::(nat_lit 88,o88 P)::(nat_lit 94,o94 P)::(nat_lit 95,o95 P)::(nat_lit 101,o101 P)::(nat_lit 102,o102 P)::(nat_lit 108,o108 P)::(nat_lit 109,o109 P)::(nat_lit 110,o110 P)::(nat_lit 111,o111 P)::(nat_lit 112,o112 P)::(nat_lit 118,o118 P)::(nat_lit 119,o119 P)::(nat_lit 123,o123 P)::(nat_lit 124,o124 P)::(nat_lit 128,o128 P)::(nat_lit 129,o129 P)::(nat_lit 135,o135 P)::(nat_lit 136,o136 P)::(nat_lit 142,o142 P)::(nat_lit 143,o143 P)::(nat_lit 149,o149 P)::(nat_lit 150,o150 P)::(nat_lit 154,o154 P)::(nat_lit 155,o155 P)::(nat_lit 159,o159 P)::(nat_lit 160,o160 P)::(nat_lit 164,o164 P)::(nat_lit 165,o165 P)::(nat_lit 171,o171 P)::(nat_lit 172,o172 P)::(nat_lit 176,o176 P)::(nat_lit 177,o177 P)::(nat_lit 183,o183 P)::(nat_lit 184,o184 P)::(nat_lit 188,o188 P)::(nat_lit 189,o189 P)::(nat_lit 193,o193 P)::(nat_lit 194,o194 P)::(nat_lit 198,o198 P)::(nat_lit 199,o199 P)::(nat_lit 203,o203 P)::(nat_lit 204,o204 P)::(nat_lit 208,o208 P)::(nat_lit 209,o209 P)::(nat_lit 215,o215 P)::(nat_lit 216,o216 P)::(nat_lit 222,wL P)::(nat_lit 223,o223 P)::(nat_lit 229,o229 P)::(nat_lit 230,o230 P)::(nat_lit 234,o234 P)::(nat_lit 235,o235 P)::(nat_lit 239,o239 P)::(nat_lit 240,o240 P)::(nat_lit 246,o246 P)::(nat_lit 247,o247 P)::(nat_lit 251,o251 P)::(nat_lit 252,o252 P)::(nat_lit 258,o258 P)::(nat_lit 259,o259 P)::(nat_lit 265,o265 P)::(nat_lit 266,o266 P)::(nat_lit 270,o270 P)::(nat_lit 271,o271 P)::(nat_lit 275,o275 P)::(nat_lit 276,o276 P)::(nat_lit 282,o282 P)::(nat_lit 283,o283 P)::(nat_lit 289,o289 P)::(nat_lit 290,o290 P)::(nat_lit 294,o294 P)::(nat_lit 295,o295 P)::(nat_lit 301,o301 P)::(nat_lit 302,o302 P)::(nat_lit 308,o308 P)::(nat_lit 309,o309 P)::(nat_lit 315,o315 P)::(nat_lit 316,o316 P)::(nat_lit 320,o320 P)::(nat_lit 321,o321 P)::(nat_lit 327,o327 P)::(nat_lit 328,o328 P)::(nat_lit 332,o332 P)::(nat_lit 333,o333 P)::(nat_lit 339,o339 P)::(nat_lit 340,o340 P)::(nat_lit 344,o344 P)::(nat_lit 345,o345 P)::(nat_lit 349,o349 P)::(nat_lit 350,o350 P)::[]
def KF(P:Params):Frag:=(nat_lit 218,vC P)::K P
def kAs:List Addr:=[218,3,4,23,24,36,37,48,49,60,61,72,73,76,82,83,87,88,94,95,101,102,108,109,110,111,112,118,119,123,124,128,129,135,136,142,143,149,150,154,155,159,160,164,165,171,172,176,177,183,184,188,189,193,194,198,199,203,204,208,209,215,216,222,223,229,230,234,235,239,240,246,247,251,252,258,259,265,266,270,271,275,276,282,283,289,290,294,295,301,302,308,309,315,316,320,321,327,328,332,333,339,340,344,345,349,350]
abbrev tA:Addr:=218
abbrev cA:Addr:=222
abbrev bmA:Addr:=4
theorem lk_K(P:Params):(K P).lookup 222=some (wL P):=by kernel_rfl
theorem kT(P:Params):(K P).lookup tA=none:=by kernel_rfl
theorem Iy(P:Params)(h:Heap)(X:(K P).In h):PySem.W.CodeHd h cA tA:=⟨wL P,_,_,_,_,_,_,_,_,X _ _ (lk_K P),rfl,rfl,rfl,rfl,rfl,rfl,rfl,rfl,by decide⟩
abbrev pT:Array Value:=#[]
theorem hKF(P:Params)(h:Heap)(X:(KF P).In h):(K P).In h/\h.get? tA=some (PySem.W.tabObj pT)/\PySem.W.CodeHd h cA tA:=by
 have X1:(K P).In h:=fun a o e=>X a o (by
  show List.lookup a ((tA,vC P)::K P)=some o;rw[AV];have ne:a≠tA:=fun z=>by rw[z,kT P] at e;cases e
  rw[show(a==tA)=false by simpa using ne]
  exact e)
 exact⟨X1,X tA (vC P) (by show List.lookup tA ((tA,vC P)::K P)=_;rw[AV];rfl),Iy P h X1⟩
set_option maxRecDepth 100000 in
theorem keyF(w:World):kG pw (view pw keep) loose (xt PySem.Challenge.rw_quadwords_k28_whole_hulls (view pw keep)) KF kAs 5128 (w.withFollow "special-get-raises" false):=by kernel_rfl
set_option maxRecDepth 100000 in
theorem keyT(w:World):kG pw (view pw keep) loose (xt PySem.Challenge.rw_quadwords_k28_whole_hulls (view pw keep)) KF kAs 5128 (w.withFollow "special-get-raises" true):=by kernel_rfl
theorem key:∀w,sN (denote treeTable) stepOk stepT openSeen pw (view pw keep) loose (xt PySem.Challenge.rw_quadwords_k28_whole_hulls (view pw keep)) KF kAs 5128 w:=key2 "special-get-raises" keyF keyT
end
end Hd
open PySem PySem.W PyProof.Rows
local macro_rules | `(tactic| walk_at "fin")=>`(tactic| ((refine' K3.FIn.of ?a ?l ?c ?k); (case a=>k_is); (case l=>k_is); (case c=>k_is); (case k=>k_is)))
set_option maxRecDepth 100000 in
set_option maxHeartbeats 0 in
theorem PySem.Challenge.cw_quadwords_k28_whole_hulls_holds : PySem.Challenge.rw_quadwords_k28_whole_hulls.Holds := by
 w_on
 refine Hd.head (q:=view Hd.pw Hd.keep) (loose:=Hd.loose) (K:=Hd.KF) (as:=Hd.kAs) (by decide +kernel) (by kernel_rfl) (by decide) (fun s=>rfl) Hd.key (fun P=>by kernel_rfl) (by rfl) (by rfl) (by rfl) (by rfl) (by decide +kernel) ⟨rfl,rfl,rfl,rfl,rfl,by decide +kernel⟩ ?hw ?hc
 case hw=>w_witness2
 k_fill
 refine K3.walk (l:=PySem.Challenge.rw_quadwords_k28_whole_hulls) (K:=Hd.K) (KF:=Hd.KF) (T:=Hd.tA) (c0:=Hd.cA) (ps:=Hd.pT) rfl rfl ⟨trivial,rfl⟩ (fun w h Y=>Y) Hd.hKF Hd.kT ?F
 case F=>
  k_fill
  intro w mg fa h KX G hmg
  refine' K3.all_mk KX G hmg ?xX ?zi ?xY ?xW ?yw ?zw ?yr ?xT ?xV ?yx ?a_po ?zj ?zy ?a_ww ?zD ?zt ?zr ?yu ?yy ?a_sf ?zq ?a_lr ?xU ?zo ?zm ?a_fp ?zC ?zB ?a_fs ?a_ns ?a_ks ?a_to ?l_to ?c_to ?k_to ?zA ?a_in ?zv ?zu ?a_nw ?zk ?a_hw ?yt ?zh ?zp ?zx ?a_lh ?yU ?l_law ?c_law ?k_law ?zI ?l_ONE ?z_ONE ?v_ONE ?e_LW ?e_LM ?e_MM ?ec ?hdA ?neA ?e_BI ?l_BI ?p_BI ?zH ?l_LET ?s_LET ?l_L1 ?z_L1 ?v_L1 ?l_L2 ?z_L2 ?v_L2 ?zL ?yC ?xp ?ya ?yD ?zQ ?zM ?zK ?xZ ?zN ?zO ?zR ?xw ?xK ?zP
  (case xX=>walk_at "fin")
  (case zi=>walk_at "fin")
  (case xY=>walk_at "fin")
  (case xW=>walk_at "fin")
  (case yw=>walk_at "fin")
  (case zw=>walk_at "fin")
  (case yr=>walk_at "fin")
  (case xT=>walk_at "fin")
  (case xV=>walk_at "fin")
  (case yx=>walk_at "fin")
  (case a_po=>walk_at "fin")
  (case zj=>walk_at "fin")
  (case zy=>walk_at "fin")
  (case a_ww=>walk_at "fin")
  (case zD=>walk_at "fin")
  (case zt=>walk_at "fin")
  (case zr=>walk_at "fin")
  (case yu=>walk_at "fin")
  (case yy=>walk_at "fin")
  (case a_sf=>walk_at "fin")
  (case zq=>walk_at "fin")
  (case a_lr=>walk_at "fin")
  (case xU=>walk_at "fin")
  (case zo=>walk_at "fin")
  (case zm=>walk_at "fin")
  (case a_fp=>walk_at "fin")
  (case zC=>walk_at "fin")
  (case zB=>walk_at "fin")
  (case a_fs=>walk_at "fin")
  (case a_ns=>walk_at "fin")
  (case a_ks=>walk_at "fin")
  (case a_to=>k_is)
  (case l_to=>k_is)
  (case c_to=>k_is)
  (case k_to=>k_is)
  (case zA=>walk_at "fin")
  (case a_in=>walk_at "fin")
  (case zv=>walk_at "fin")
  (case zu=>walk_at "fin")
  (case a_nw=>walk_at "fin")
  (case zk=>walk_at "fin")
  (case a_hw=>walk_at "fin")
  (case yt=>walk_at "fin")
  (case zh=>walk_at "fin")
  (case zp=>walk_at "fin")
  (case zx=>walk_at "fin")
  (case a_lh=>walk_at "fin")
  (case yU=>k_is)
  (case l_law=>k_is)
  (case c_law=>k_is)
  (case k_law=>k_is)
  (case zI=>k_is)
  (case l_ONE=>k_is)
  (case z_ONE=>decide)
  (case v_ONE=>exact .cons ⟨_,rfl⟩ (.cons ⟨_,rfl⟩ (.cons ⟨_,rfl⟩ (.cons ⟨_,rfl⟩ .nil))))
  (case e_LW=>k_is)
  (case e_LM=>k_is)
  (case e_MM=>k_is)
  (case ec=>rfl)
  (case hdA=>exact fun h X=>Hd.Iy _ h X)
  (case neA=>decide)
  (case e_BI=>k_is)
  (case l_BI=>k_is)
  (case p_BI=>exact⟨by decide,by decide,by decide,rfl,rfl,rfl⟩)
  (case zH=>k_is)
  (case l_LET=>k_is)
  (case s_LET=>decide)
  (case l_L1=>k_is)
  (case z_L1=>decide)
  (case v_L1=>exact .cons ⟨_,rfl⟩ (.cons ⟨_,rfl⟩ (.cons ⟨_,rfl⟩ (.cons ⟨_,rfl⟩ .nil))))
  (case l_L2=>k_is)
  (case z_L2=>decide)
  (case v_L2=>exact .cons ⟨_,rfl⟩ (.cons ⟨_,rfl⟩ (.cons ⟨_,rfl⟩ (.cons ⟨_,rfl⟩ .nil))))
  (case zL=>k_is)
  (case yC=>k_is)
  (case xp=>k_is)
  (case ya=>k_is)
  (case yD=>k_is)
  (case zQ=>k_is)
  (case zM=>k_is)
  (case zK=>k_is)
  (case xZ=>k_is)
  (case zN=>k_is)
  (case zO=>k_is)
  (case zR=>k_is)
  (case xw=>k_is)
  (case xK=>k_is)
  (case zP=>k_is)
