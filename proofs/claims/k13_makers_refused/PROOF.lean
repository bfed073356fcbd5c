import PyProof.Rows.All
import Wide.All
import OpenK.AllK
import Wide.FinOn
import Lean
import PyProof.EqAt
import PyProof.EqKinds
import PyProof.TupleCall
import PyProof.NsDelKeeps
import PyProof.RulesAs
import PyProof.SumAny
import PyProof.WalksMore
import PyProof.WalkInts
import PyProof.EnumMake
import KE.KMinKey
import PyProof.Rows.Range3
import PyProof.Rows.SortStr
import PyProof.StrLawsIn
import KE.KIntText
import PyProof.ListRange
import KE.KLam
import PyProof.SetRoads
import PyProof.Rows.SetObj
import PyProof.CollectWalk
import PyProof.DictItems
import PyProof.Rows.TupDisplay
import KE.KDictSum
import PyProof.Rows.SetFrom
import PyProof.DictCompW
import PyProof.ListStr
import OpenK.ZGo
import PySem.Challenge.RW_quadwords_k13_makers_refused
set_option genSizeOf false
set_option compiler.extract_closed false
set_option maxRecDepth 100000
set_option maxHeartbeats 4000000
abbrev AW:=@Nat.le_refl
abbrev AX:=@List.length_map
abbrev AY:=@List.mem_append_right
abbrev AZ:=@Nat.ne_of_lt
abbrev Ba:=@List.length_append
abbrev Bb:=@List.mem_append
abbrev Bc:=@Nat.lt_of_lt_of_le
abbrev Be:=@List.getElem?_eq_some_iff
abbrev Bf:=@List.getElem?_eq_getElem
abbrev Bg:=@List.mem_singleton
abbrev Bh:=@List.mem_map
abbrev Bi:=@List.size_toArray
abbrev Bj:=@List.mem_cons_self
abbrev Bk:=@List.map_append
abbrev Bl:=@List.mem_cons
abbrev Bm:=@Nat.le_trans
abbrev Bn:=@List.mem_append_left
abbrev Bo:=@Nat.zero_le
abbrev Bp:=@List.mem_of_getElem?
abbrev Bq:=@List.length_take
abbrev Br:=@List.getElem?_map
abbrev Bs:=@List.take_of_length_le
abbrev Bt:=@Bool.false_ne_true
abbrev Bu:=@Array.length_toList
abbrev Bv:=@List.map_cons
abbrev Bw:=@Array.getElem?_toList
abbrev Bx:=@Nat.lt_irrefl
abbrev By:=@List.mem_cons_of_mem
abbrev Bz:=@List.take_add_one
abbrev BA:=@List.length_cons
abbrev BB:=@Nat.succ_le_succ
abbrev BC:=@List.append_assoc
abbrev BD:=@List.append_nil
abbrev BE:=@List.getElem_mem
abbrev BF:=@Nat.le_of_lt
abbrev BG:=@List.getD_eq_getElem?_getD
abbrev BH:=@List.pairwise_append
abbrev BI:=@Array.toList_append
abbrev BJ:=@List.length_drop
abbrev BK:=@List.take_append_drop
abbrev BL:=@Array.getElem?_eq_getElem
abbrev BM:=@Bool.and_eq_true
abbrev BN:=@List.lookup_cons
abbrev BO:=@Nat.le_succ
abbrev BP:=@Nat.lt_succ_of_lt
abbrev BQ:=@List.filter_cons
abbrev BR:=@List.all_eq_true
abbrev BS:=@Nat.min_eq_left
abbrev BU:=@List.not_mem_nil
abbrev BV:=@List.getElem?_append_right
abbrev BW:=@List.getElem?_drop
abbrev BX:=@List.take_length
abbrev BY:=@List.mem_filter
abbrev BZ:=@List.getElem?_take_of_lt
abbrev Ca:=@List.replicate_succ
abbrev Cb:=@Nat.lt_succ_self
abbrev Cc:=@List.find?_cons
abbrev Cd:=@Nat.add_zero
abbrev Ce:=@Option.map_eq_some_iff
abbrev Cf:=@Bool.false_eq_true
abbrev Cg:=@List.mem_of_mem_take
abbrev Ci:=@List.mem_of_mem_drop
abbrev Cj:=@Bool.eq_iff_iff
abbrev Ck:=@Int.toNat_natCast
abbrev Cm:=@List.flatten_cons
abbrev Cn:=@Nat.lt_of_le_of_lt
abbrev Co:=@Nat.le_succ_of_le
abbrev Cp:=@List.length_filter_le
abbrev Cq:=@List.mem_iff_getElem
abbrev Cr:=@Array.getElem?_eq_some_iff
abbrev Cs:=@List.length_eq_zero_iff
abbrev Ct:=@List.map_map
abbrev Cu:=@Int.emod_nonneg
abbrev Cv:=@Int.emod_lt_of_pos
abbrev Cw:=@List.filter_append
abbrev Cy:=@List.drop_left
abbrev Cz:=@List.mem_filterMap
abbrev CA:=@Option.isSome_iff_exists
abbrev CB:=@List.length_replicate
abbrev CC:=@List.any_cons
abbrev CD:=@List.foldl_cons
abbrev CF:=@List.drop_eq_getElem_cons
abbrev CG:=@List.pairwise_iff_getElem
abbrev CH:=@List.getElem?_set_self
abbrev CI:=@List.getElem?_set_ne
abbrev CJ:=@List.getElem?_append_left
abbrev CK:=@List.drop_of_length_le
abbrev CL:=@List.drop_zero
abbrev CM:=@List.any_eq_true
abbrev CN:=@List.mem_range
abbrev CO:=@Nat.ne_of_gt
abbrev CP:=@List.nodup_cons
abbrev CQ:=@List.nil_append
abbrev CT:=@Nat.lt_trans
abbrev CU:=@List.take_zero
abbrev CV:=@Array.toList_push
abbrev CW:=@Nat.sub_zero
abbrev CY:=@List.take_take
abbrev CZ:=@Nat.zero_add
abbrev Dc:=@List.getElem?_toArray
abbrev Dd:=@List.of_mem_zip
abbrev De:=@List.map_nil
abbrev Df:=@List.all_cons
abbrev Dg:=@List.forIn_cons
abbrev Dh:=@Nat.min_le_left
abbrev Di:=@List.perm_append_comm
abbrev Dj:=@Array.toList_extract
abbrev Dk:=@List.map_congr_left
abbrev Dl:=@List.range_succ
abbrev Dm:=@Int.le_refl
abbrev Do:=@List.drop_eq_nil_of_le
abbrev Dp:=@List.nodup_append
abbrev Dq:=@List.eq_of_mem_replicate
abbrev Dt:=@Nat.min_eq_right
abbrev Du:=@Nat.le_add_right
abbrev Dv:=@List.takeWhile_cons
abbrev Dw:=@List.filterMap_cons
abbrev Dx:=@List.getElem?_replicate
abbrev Dy:=@Nat.le_of_not_lt
abbrev Dz:=@List.push_toArray
abbrev DA:=@List.length_nil
abbrev DB:=@Option.isSome_map
abbrev DC:=@Bool.eq_false_iff
abbrev DE:=@List.drop_drop
abbrev DG:=@List.reverse_append
abbrev DH:=@Array.toList_reverse
abbrev DI:=@Array.perm_iff_toList_perm
abbrev DJ:=@Array.size_extract
abbrev DK:=@Nat.zero_lt_succ
abbrev DM:=@Array.toArray_toList
abbrev DN:=@Nat.mul_le_mul
abbrev DO:=@Nat.not_lt_zero
abbrev DP:=@Int.natCast_nonneg
abbrev DQ:=@Int.fdiv_eq_ediv_of_nonneg
abbrev DR:=@Option.isNone_iff_eq_none
abbrev DS:=@Int.mul_le_mul_of_nonneg_left
abbrev DT:=@Int.mul_le_mul_of_nonneg_right
abbrev DU:=@PySem.wpAny_bind
abbrev DV:=@PySem.wpAny_pure
abbrev DW:=@PyProof.Rows.wpS_bind
abbrev DX:=@PyProof.Rows.wpS_pure
abbrev DY:=@if_neg
abbrev DZ:=@if_pos
abbrev Ea:=@decide_eq_true
abbrev Eb:=@decide_eq_false
abbrev Ed:=@PySem.wpAny_mono
abbrev Ee:=@PySem.wpAny_holding
abbrev Ef:=@of_decide_eq_true
abbrev Eg:=@PySem.Heap.lt_size
abbrev Eh:=@Option.some.inj
abbrev Ei:=@PySem.F.plainAttrs_list
abbrev Ej:=@PySem.F.plainAttrs_str
abbrev Ek:=@PySem.F.type_list_append
abbrev El:=@PySem.F.slot_list_append
abbrev Em:=@PyProof.Rows.KeyOrd.kle_refl
abbrev En:=@PyProof.Rows.KeyOrd.kle_of_klt
abbrev Eo:=@PySem.W.mg_of
abbrev Ep:=@PySem.W.mg_none_of
abbrev Er:=@Ne.symm
abbrev Es:=@PySem.Heap.get?_push_of_some
abbrev Et:=@PySem.Heap.get?_push_size
abbrev Eu:=@Bool.eq_iff_iff
abbrev Ew:=@Nat.succ_le_succ
abbrev Ex:=@Int.natCast_nonneg
abbrev Ey:=@PySem.wpAny_attempt
abbrev Ez:=@PySem.wpAny_call_entry
abbrev EA:=@PySem.Heap.size_push
abbrev EB:=@PySem.wpAny_rule
abbrev EC:=@Int.eq_ofNat_of_zero_le
abbrev ED:=@beq_iff_eq
local macro_rules | `(tactic| walk_at "i") => `(tactic| first | exact .inl rfl | exact .inr rfl | assumption)
local macro_rules | `(tactic| walk_at "o") => `(tactic| first | assumption | exact Bm (by assumption) (by decide) | lia)
set_option Elab.async false
set_option maxHeartbeats 0
set_option linter.all false
set_option hygiene false in
local macro_rules|`((wq X))=>`(wpAny (model X.prog X.w) X.A)
local macro_rules|`(($f:ident $x*))=>do
 let n:=f.getId
 let some (g,t):=(([(`EF,"_____xxx"),(`EO,"_q"),(`ET,"_q"),(`EV,"_q"),(`aA,"___xx"),(`aB,"_____xxr"),(`aC,"________xxx"),(`aE,"_________xRxxxddrr"),(`aF,"____x"),(`aG,"________xxxx"),(`aN,"_____________xhRxxxxxdrr"),(`aO,"_____x"),(`aP,"_______xxxF"),(`aQ,"____q"),(`aU,"_____________xxdhRxdrr"),(`aV,"____x"),(`aW,"__________xxxx"),(`aZ,"____x"),(`ag,"____q"),(`ah,"_____xx"),(`aj,"___x"),(`au,"__x_xROx"),(`aw,"__x____nRxxrw"),(`bA,"__x__Rxxd"),(`bF,"______Rxxr"),(`bW,"____________xxdhRxxd"),(`ba,"______xRxxx"),(`bg,"____xr"),(`bh,"___x"),(`bo,"______________cxxfffy"),(`br,"________xxx"),(`cH,"______________x___cxxfffnRORyw"),(`cL,"_________xxx"),(`cX,"__x__RxxRdd"),(`cb,"___xy"),(`ck,"________xxxx"),(`dC,"________vcxxxy"),(`dH,"__________cRxxxxdrr"),(`dv,"____x"),(`dz,"_________xRxxxddrr"),(`fE,"_______xx"),(`fJ,"___q"),(`fK,"______xxrrr"),(`ff,"______xxF"),(`fk,"_____xxx"),(`fq,"______cxrr"),(`ft,"____x"),(`gE,"______vxx"),(`gJ,"________Rxxr"),(`gZ,"____________KRxxxxxxrrrrr"),(`gj,"___xG"),(`iG,"_______xxxrrr"),(`iI,"____q"),(`iL,"_____x"),(`iw,"_______Rxxrr"),(`jB,"________xxrr"),(`jQ,"________xxx"),(`jV,"___x"),(`jf,"_________xxxxR"),(`jn,"____________xxxxxxrrrrr"),(`jq,"_______xx"),(`jt,"______xx"),(`ju,"______xxxF"),(`kA,"_______xx"),(`ko,"____________xxxxxx"),(`mH,"____x"),(`mR,"______xx"),(`mW,"_____xRRxd"),(`nH,"___________xxxxxxxRRRxRRRxcxfRxxxrrrr"),(`ng,"____________xRxxxxrrddrr"),(`oE,"____________________cxxffffffxy"),(`oV,"_________________xxRxxfffry"),(`ou,"_______________RRxcxxffxy"),(`pC,"____________________x___cxxffffffnRORxyw"),(`pW,"_____________xxRxxxxdrr"),(`qE,"_______xx"),(`qH,"_____xxx"),(`qa,"________________cxxffffy"),(`qu,"__xx___________cnRRdRRxRr"),(`qz,"______xx"),(`sH,"_x___________RRnRRRxxxxd"),(`sr,"_________xxxxxrr")]:List (Lean.Name×String)).map fun a=>(a.1,a))++[(`ad,`au,"__x_nRow")]|>.lookup n|Lean.Macro.throwUnsupported
 let mut i:=0
 let mut r:Array (Lean.TSyntax `term):=#[]
 for c in t.toList do
  if c=='q' then i:=i+1
  else if c=='x'||c=='f' then
   let some y:=x[i]?|Lean.Macro.throwUnsupported
   r:=r.push (<-if c=='x' then pure y else `(fun _ _ _ _=>$y))
   i:=i+1
  else r:=r.push (<-match c with|'G'=>`(fun _=>rfl)|'r'=>`(by rfl)|'w'=>`(by walk_at "i")|'R'=>`(rfl)|'O'=>`(Or.inl rfl)|'d'=>`(by decide)|'F'=>`(fun _ _=>rfl)|'o'=>`(Or.inr rfl)|'y'=>`(by intro _;rfl)|'v'=>pure (Lean.mkIdent `PassesOwn.never)|'n'=>pure (Lean.mkIdent `nd)|'c'=>pure (Lean.mkIdent `hc)|'h'=>pure (Lean.mkIdent `hr)|'K'=>pure (Lean.mkIdent `K)|_=>`(_))
 if i !=x.size then Lean.Macro.throwUnsupported
 `(@$(if g==n then f else Lean.mkIdent g) $r*)
namespace L2
open PySem PySem.Spec PyProof.Rows
abbrev Key:=Sum Int Str
def GK:Key->Value->Bool
 |.inl k,v=>Value.isInt k v
 |.inr x,v=>Value.isStrOf x v
def keyH (w:World):Key->Int
 |.inl k=>hashInt k
 |.inr x=>hashStr w x
theorem ER:∀{k:Key}{v:Value},GK k v=true->(∃i t,k=Sum.inl i/\v=Value.int i t)\/(∃x t,k=Sum.inr x/\v=Value.str x t)
 |.inl i,v,h=>by
  obtain⟨t,e⟩:=Value.isInt_shape (k:=i) (v:=v) h;exact .inl ⟨i,t,rfl,e⟩
 |.inr x,v,h=>by
  obtain⟨t,e⟩:=Value.isStrOf_shape (x:=x) (v:=v) h;exact .inr ⟨x,t,rfl,e⟩
theorem lC(i:Int)(t:Tok):GK (.inl i) (.int i t)=true:=by simp[GK,Value.isInt]
theorem nC(x:Str)(t:Tok):GK (.inr x) (.str x t)=true:=by simp[GK,Value.isStrOf]
theorem uf(a b:Int):decide ((Sum.inl a:Key)=Sum.inl b)=(a==b):=by
 by_cases e:a=b
 ·subst e;simp
 ·have h:¬(Sum.inl a:Key)=Sum.inl b:=fun q=>e (Sum.inl.inj q);rw[Eb h];exact(beq_eq_false_iff_ne.mpr e).symm
theorem sY(a b:Str):decide ((Sum.inr a:Key)=Sum.inr b)=decide (a=b):=by
 by_cases e:a=b
 ·subst e;simp
 ·have h:¬(Sum.inr a:Key)=Sum.inr b:=fun q=>e (Sum.inr.inj q);rw[Eb h,Eb e]
theorem sA(a:Int)(b:Str):decide ((Sum.inl a:Key)=Sum.inr b)=false:=Eb (fun q=>nomatch q)
theorem uh(a:Str)(b:Int):decide ((Sum.inr a:Key)=Sum.inl b)=false:=Eb (fun q=>nomatch q)
def aH (prog:Program)(w:World):PySem.KeyKind prog w Key where
 is:=GK
 hash:=keyH w
 inj:=fun v a b ha hb=>by
  rcases ER ha with ⟨i,t,rfl,rfl⟩|⟨x,t,rfl,rfl⟩
  ·rcases ER hb with ⟨j,u,rfl,e⟩|⟨y,u,rfl,e⟩
   ·injection e with e1 _;rw[e1]
   ·exact nomatch e
  ·rcases ER hb with ⟨j,u,rfl,e⟩|⟨y,u,rfl,e⟩
   ·exact nomatch e
   ·injection e with e1 _;rw[e1]
 byValue:=fun k v h=>by
  rcases ER h with ⟨i,t,rfl,rfl⟩|⟨x,t,rfl,rfl⟩<;>rfl
 pyHash:=fun hv h=>by
  rcases ER hv with ⟨i,t,rfl,rfl⟩|⟨x,t,rfl,rfl⟩
  ·exact wpAny_pyHash_int h
  ·exact wpAny_pyHash_str h
 eqBool:=fun hu hv h=>by
  rcases ER hu with ⟨i,t,rfl,rfl⟩|⟨x,t,rfl,rfl⟩
  ·rcases ER hv with ⟨j,u,rfl,rfl⟩|⟨y,u,rfl,rfl⟩
   ·rw[uf] at h;exact wpAny_eqBool_int h
   ·rw[sA] at h;exact SeqAt.EqAt.int_str i t y u _ _ _ _ h
  ·rcases ER hv with ⟨j,u,rfl,rfl⟩|⟨y,u,rfl,rfl⟩
   ·rw[uh] at h;exact SeqAt.EqAt.str_int x t j u _ _ _ _ h
   ·rw[sY] at h;exact wpAny_eqBool_str h
 «strs»:=fun k x t v h=>by
  rcases ER h with ⟨i,u,rfl,e⟩|⟨y,u,rfl,e⟩
  ·exact nomatch e
  ·injection e with e1 _;subst e1;cases v<;>rfl
theorem kS(prog:Program)(w:World)(k:Key)(v:Value):(aH prog w).is k v=GK k v:=rfl
theorem jy(prog:Program)(w:World)(i:Int)(t:Tok):(aH prog w).is (.inl i) (.int i t)=true:=lC i t
theorem jd(prog:Program)(w:World)(x:Str)(t:Tok):(aH prog w).is (.inr x) (.str x t)=true:=nC x t
inductive V where
 |non|bl (b:Bool)|int(i:Int)|str(x:Str)|byt(b:Array UInt8)|flt(b:UInt64)|ref(a:Addr)|ty(n:String)
 deriving DecidableEq
def RelV:V->Value->Prop
 |.non,u=>u=Value.none
 |.bl b,u=>u=Value.bool b
 |.int i,u=>∃t,u=Value.int i t
 |.str x,u=>∃t,u=Value.str x t
 |.byt b,u=>∃t,u=Value.bytes b t
 |.flt b,u=>∃t,u=Value.float b t
 |.ref a,u=>u=Value.ref a
 |.ty n,u=>u=Value.type n
abbrev Vals:List V->List Value->Prop:=Paired RelV
theorem Vals.length{xs:List V}{us:List Value}(r:Vals xs us):xs.length=us.length:=Paired.length r
theorem Vals.get:∀{xs:List V}{us:List Value}{i:Nat}{x:V},Vals xs us->xs[i]?=some x->∃u,us[i]?=some u/\RelV x u
 |_,_,_,_,.nil,e=>by simp at e
 |_,_,0,_,.cons r _,e=>by simp at e;subst e;exact⟨_,rfl,r⟩
 |_,_,i+1,x,.cons _ t,e=>by
  obtain⟨u,h1,h2⟩:=Vals.get (i:=i) (x:=x) t (by simpa using e);exact⟨u,by simpa using h1,h2⟩
theorem Vals.set{x:V}{u:Value}(r:RelV x u):∀{xs:List V}{us:List Value}(i:Nat),Vals xs us->Vals (xs.set i x) (us.set i u)
 |_,_,_,.nil=>.nil
 |_,_,0,.cons _ t=>.cons r t
 |_,_,i+1,.cons q t=>.cons q (Vals.set r i t)
theorem Vals.append:∀{xs ys:List V}{us ws:List Value},Vals xs us->Vals ys ws->Vals (xs++ys) (us++ws)
 |_,_,_,_,.nil,s=>s
 |_,_,_,_,.cons r t,s=>.cons r (Vals.append t s)
theorem Vals.take:∀{xs:List V}{us:List Value}(n:Nat),Vals xs us->Vals (xs.take n) (us.take n)
 |_,_,0,_=>.nil
 |_,_,_+1,.nil=>.nil
 |_,_,n+1,.cons r t=>.cons r (Vals.take n t)
theorem Vals.drop:∀{xs:List V}{us:List Value}(n:Nat),Vals xs us->Vals (xs.drop n) (us.drop n)
 |_,_,0,r=>r
 |_,_,_+1,.nil=>.nil
 |_,_,n+1,.cons _ t=>Vals.drop n t
def HW:Option V->Option Value->Prop
 |some v,some u=>RelV v u
 |none,none=>True
 |_,_=>False
def KV {κ:Type}:List (κ×V)->List (κ×Value)->Prop:=Paired fun(p:κ×V) (q:κ×Value)=>p.1=q.1/\RelV p.2 q.2
def kV:Key->V
 |.inl i=>.int i
 |.inr x=>.str x
inductive HO where
 |lst (xs:List V)
 |tup (xs:List V)
 |dK (kvs:List (Key×V))|dT(kvs:List (List Key×V))
 |set (S:Int->Bool)(n:Nat)
 |ins (C dx:Addr)(fs:List (Str×V))
 |own (x:Addr)
 |xd (fs:List (Str×V))
 |met (f x:Addr)
 |rng (lo hi:Int)
 |frz (o:Obj)(u:HO)
 |tbl (ps:Array Value)
 |ext (φ:Heap->Prop)
abbrev Hp:=Addr->Option HO
def upd (H:Hp)(a:Addr)(o:HO):Hp:=fun b=>if b=a then some o else H b
theorem ae{H:Hp}{a:Addr}{o:HO}:upd H a o a=some o:=by unfold upd;rw[DZ rfl]
theorem ao{H:Hp}{a b:Addr}{o:HO}(h:b≠a):upd H a o b=H b:=by unfold upd;rw[DY h]
theorem me{H:Hp}{a:Addr}{o u:HO}:upd (upd H a o) a u=upd H a u:=by
 funext b;unfold upd;split<;>rfl
theorem bZ{H:Hp}{a b:Addr}{o u:HO}(h:H a=some o)(h':H b=some u)(d:o≠u):a≠b:=by
 intro e;subst e;rw[h] at h';exact d (Eh h')
theorem az{H:Hp}{a b:Addr}{o:HO}(h:H a=some o)(h':H b=none):a≠b:=by
 intro e;subst e;rw[h] at h';cases h'
section
variable (P:Program)(w:World)
def EY(H:Hp)(h:Heap)(a:Addr):HO->Prop
 |.lst xs=>xs.length<=sizeLine/\∃(its:List Value)(n:Nat),Vals xs its/\h.get? a=some {cls:=.type "list",data:=.seq its.toArray n}
 |.tup xs=>xs.length<=sizeLine/\∃its:List Value,Vals xs its/\IsTup h a its.toArray
 |.dK kvs=>kvs.length<=sizeLine/\(a==sysModules)=false/\∃vs,KV kvs vs/\h.DictOf (aH P w) a vs
 |.dT kvs=>kvs.length<=sizeLine/\(a==sysModules)=false/\∃xs:List (List Key×Addr×Value),
   Paired (fun(p:List Key×V) (q:List Key×Addr×Value)=>p.1=q.1/\H q.2.1=some (.tup (p.1.map kV))/\RelV p.2 q.2.2) kvs xs /\
   ∃o es ep,h.get? a=some o/\o.ExactDict/\o.data=.dict es ep/\es.toList=xs.map (entryOfKey (tupleKind (aH P w)))/\(xs.map (·.1)).Nodup
 |.set S n=>h.SetOf (intKind P w) a S n
 |.ins C dx fs=>H dx=some (.own a)/\fs.length<=1000/\dx≠a/\h.get? a=some (W.instObj C dx) /\
   ∃mA,h.Ns1 dx mA/\(∀f,HW (fs.lookup f) (mA f))/\PySem.Within mA (fs.map (·.1))
 |.own _=>∃o,h.get? a=some o
 |.xd fs=>∃mA,h.Ns1 a mA/\∀f,HW (fs.lookup f) (mA f)
 |.rng lo hi=>∃t u v,h.get? a=some {cls:=.type "range",data:=.fields #[.int lo t,.int hi u,.int 1 v]}
 |.frz o u=>h.get? a=some o/\EY H h a u
 |.tbl ps=>h.get? a=some {cls:=.none,data:=.fields ps}
 |.met f x=>h.get? a=some (W.methodObj (.ref f) (.ref x))
 |.ext φ=>φ h/\(∃o,h.get? a=some o)/\∀h1 h2:Heap,φ h1->(∀o,h1.get? a=some o->h2.get? a=some o)->φ h2
def HOk (H:Hp)(h:Heap):Prop:=∀a o,H a=some o->EY P w H h a o
end
section
variable {P:Program}{w:World}{H H':Hp}{h h':Heap}{a:Addr}{o:HO}
theorem EY.lt(x:EY P w H h a o):a<h.objs.size:=by
 cases o with
 |lst xs=>obtain⟨_,_,_,_,e⟩:=x;exact Eg e
 |tup xs=>obtain⟨_,_,_,p⟩:=x;exact p.lt
 |dK kvs=>obtain⟨_,_,_,_,o,_,_,e,_⟩:=x;exact Eg e
 |dT kvs=>obtain⟨_,_,_,_,o,_,_,e,_⟩:=x;exact Eg e
 |set S n=>obtain⟨o,_,_,_,e,_⟩:=x;exact Eg e
 |ins C dx fs=>obtain⟨_,_,_,e,_⟩:=x;exact Eg e
 |own y=>obtain⟨_,e⟩:=x;exact Eg e
 |xd fs=>obtain⟨_,⟨_,_,_,e,_⟩,_⟩:=x;exact Eg e
 |rng lo hi=>obtain⟨_,_,_,e⟩:=x;exact Eg e
 |frz ob u=>obtain⟨e,_⟩:=x;exact Eg e
 |tbl ps=>exact Eg (show h.get? a=some _ from x)
 |met f y=>exact Eg (show h.get? a=some _ from x)
 |ext φ=>obtain⟨_,⟨_,e⟩,_⟩:=x;exact Eg e
theorem Paired.Gy{α β:Type}{F G:α->β->Prop}:∀{l₁:List α}{l₂:List β},Paired F l₁ l₂->(∀a b,F a b->G a b)->Paired G l₁ l₂
 |_,_,.nil,_=>.nil
 |_,_,.cons r t,f=>.cons (f _ _ r) (Paired.Gy t f)
theorem EY.Hr(x:EY P w H h a o)(k:∀b u,(b=a\/H b=some (.own a))->h.get? b=some u->h'.get? b=some u)
  (ho:∀b,H b=some (.own a)->H' b=some (.own a))(ht:∀b xs,H b=some (.tup xs)->H' b=some (.tup xs)):EY P w H' h' a o:=by
 induction o with
 |lst xs=>obtain⟨z,its,n,r,e⟩:=x;exact⟨z,its,n,r,k _ _ (.inl rfl) e⟩
 |tup xs=>obtain⟨z,its,r,ob,e,c⟩:=x;exact⟨z,its,r,ob,k _ _ (.inl rfl) e,c⟩
 |dK kvs=>obtain⟨z,y,vs,r,ob,es,ep,e,c⟩:=x;exact⟨z,y,vs,r,ob,es,ep,k _ _ (.inl rfl) e,c⟩
 |dT kvs=>
  obtain⟨z,y,xs,r,ob,es,ep,e,c⟩:=x;exact⟨z,y,xs,Paired.Gy r fun p q z=>⟨z.1,ht _ _ z.2.1,z.2.2⟩,ob,es,ep,k _ _ (.inl rfl) e,c⟩
 |set S n=>obtain⟨ob,es,ep,t,e,c⟩:=x;exact⟨ob,es,ep,t,k _ _ (.inl rfl) e,c⟩
 |ins C dx fs=>
  obtain⟨d,z,ne,e,mA,⟨od,es,ep,e2,c⟩,r⟩:=x;exact⟨ho _ d,z,ne,k _ _ (.inl rfl) e,mA,⟨od,es,ep,k _ _ (.inr d) e2,c⟩,r⟩
 |own y=>obtain⟨ob,e⟩:=x;exact⟨ob,k _ _ (.inl rfl) e⟩
 |xd fs=>obtain⟨mA,⟨od,es,ep,e,c⟩,r⟩:=x;exact⟨mA,⟨od,es,ep,k _ _ (.inl rfl) e,c⟩,r⟩
 |rng lo hi=>obtain⟨t,u,v,e⟩:=x;exact⟨t,u,v,k _ _ (.inl rfl) e⟩
 |frz ob u ih=>obtain⟨e,q⟩:=x;exact⟨k _ _ (.inl rfl) e,ih q⟩
 |tbl ps=>
  have e:h.get? a=some {cls:=.none,data:=.fields ps}:=x;show h'.get? a=some {cls:=.none,data:=.fields ps};exact k a _ (.inl rfl) e
 |met f y=>
  have e:h.get? a=some (W.methodObj (.ref f) (.ref y)):=x;show h'.get? a=some (W.methodObj (.ref f) (.ref y));exact k a _ (.inl rfl) e
 |ext φ=>obtain⟨p,⟨o,e⟩,st⟩:=x;exact⟨st _ _ p fun o q=>k _ _ (.inl rfl) q,⟨o,k _ _ (.inl rfl) e⟩,st⟩
theorem HOk.lt(x:HOk P w H h)(e:H a=some o):a<h.objs.size:=(x a o e).lt
theorem HOk.fresh(x:HOk P w H h)(e:h.objs.size<=a):H a=none:=by
 cases q:H a with
 |none=>rfl
 |some u=>exact absurd (Bc (x.lt q) e) (Bx _)
theorem HOk.kept(x:HOk P w H h)(k:∀b u,h.get? b=some u->h'.get? b=some u):HOk P w H h':=fun a o e=>
 (x a o e).Hr (fun b u _ q=>k b u q) (fun _ q=>q) fun _ _ q=>q
theorem HOk.laid(x:HOk P w H h)(k:∀b u,h.get? b=some u->h'.get? b=some u)(hp:h.objs.size<=a)(new:EY P w (upd H a o) h' a o):HOk P w (upd H a o) h':=fun b u e=>by
 have hn:=x.fresh hp;by_cases hb:b=a
 ·subst hb;rw[ae] at e;cases e;exact new
 ·rw[ao hb] at e;exact(x b u e).Hr (fun c v _ q=>k c v q) (fun c q=>by rw[ao (az q hn)];exact q) fun c xs q=>by rw[ao (az q hn)];exact q
end
def Rd (H:Hp)(a:Addr)(u:HO):Prop:=H a=some u\/∃o,H a=some (.frz o u)
theorem Rd.ok{P:Program}{w:World}{H:Hp}{h:Heap}{a:Addr}{u:HO}(r:Rd H a u)(x:HOk P w H h):EY P w H h a u:=by
 rcases r with r|⟨o,r⟩
 ·exact x a u r
 ·obtain⟨_,q⟩:=x a _ r;exact q
def Mut:Option HO->Prop
 |some (.lst _)=>True
 |some (.dK _)=>True
 |some (.dT _)=>True
 |some (.set _ _)=>True
 |some (.ins _ _ _)=>True
 |some (.ext _)=>True
 |_=>False
section
variable {P:Program}{w:World}{H:Hp}{h h':Heap}{x e:Addr}{o':HO}
theorem HOk.write(ok:HOk P w H h)(mu:Mut (H x))(he:e=x\/H e=some (.own x))(k:∀b u,b≠e->h.get? b=some u->h'.get? b=some u)(heo:∃u,h'.get? e=some u)
  (new:EY P w (upd H x o') h' x o'):HOk P w (upd H x o') h':=fun b u q=>by
 have nown:∀c y,H c=some (.own y)->c≠x:=fun c y r z=>by subst z;rw[r] at mu;exact mu
 have ntup:∀c xs,H c=some (.tup xs)->c≠x:=fun c xs r z=>by subst z;rw[r] at mu;exact mu
 by_cases hb:b=x
 ·subst hb;rw[ae] at q;cases q;exact new
 ·rw[ao hb] at q;by_cases hbe:b=e
  ·have q':H b=some (.own x):=by
    rcases he with z|z
    ·exact absurd (hbe.trans z) hb
    ·rw[hbe];exact z
   rw[q] at q';cases q';obtain⟨v,hv⟩:=heo;exact⟨v,by rw[hbe];exact hv⟩
  ·refine(ok b u q).Hr (fun c v hc r=>k c v ?_ r) (fun c r=>by rw[ao (nown c b r)];exact r) fun c xs r=>by rw[ao (ntup c xs r)];exact r
   rcases hc with rfl|hc
   ·exact hbe
   ·rintro rfl;rcases he with z|z
    ·exact nown c b hc z
    ·rw[hc] at z;cases z;exact hb rfl
end
structure Un(fs ex:List Addr)(H H':Hp)(h h':Heap):Prop where
 keep:∀b o,h.get? b=some o->H b=none->b∉fs->b∉ex->h'.get? b=some o
 slot:∀b o,h.get? b=some o->H b=none->b∈fs->b∉ex->∃sl,h'.get? b=some {o with slots:=sl}
 free:∀b o,h.get? b=some o->H b=none->b∉ex->H' b=none
 there:∀b o,h.get? b=some o->b∉ex->∃o',h'.get? b=some o'
 HS:∀b xs,H b=some (.tup xs)->H' b=some (.tup xs)
 HK:∀b o u,H b=some (.frz o u)->H' b=some (.frz o u)
 Hy:∀b ps,H b=some (.tbl ps)->∃more,H' b=some (.tbl (ps++more))
section
variable {fs fs' ex ex':List Addr}{H H1 H2:Hp}{h h1 h2 h':Heap}{a x e:Addr}{o:HO}
theorem Un.any(u:Un fs ex H H1 h h1){b:Addr}{ob:Obj}(q:h.get? b=some ob)(n:H b=none)(hx:b∉ex):∃sl,h1.get? b=some {ob with slots:=sl}:=by
 by_cases hb:b∈fs
 ·exact u.slot b ob q n hb hx
 ·exact⟨ob.slots,u.keep b ob q n hb hx⟩
theorem Un.kept(k:∀b u,h.get? b=some u->h'.get? b=some u):Un fs ex H H h h':=
 ⟨fun b ob q _ _ _=>k b ob q,fun b ob q _ _ _=>⟨ob.slots,k b ob q⟩,fun _ _ _ n _=>n,fun b ob q _=>⟨ob,k b ob q⟩,fun _ _ q=>q,fun _ _ _ q=>q,fun _ ps q=>⟨#[],by rw[q];simp⟩⟩
theorem Un.refl:Un fs ex H H h h:=Un.kept fun _ _ q=>q
theorem Un.laid(k:∀b u,h.get? b=some u->h'.get? b=some u)(hp:h.objs.size<=a)(hn:H a=none):Un fs ex H (upd H a o) h h' where
 keep:=fun b u q _ _ _=>k b u q
 slot:=fun b u q _ _ _=>⟨u.slots,k b u q⟩
 free:=fun b u q n _=>by rw[ao (AZ (Bc (Eg q) hp))];exact n
 there:=fun b u q _=>⟨u,k b u q⟩
 HS:=fun b xs q=>by rw[ao (az q hn)];exact q
 HK:=fun b u xs q=>by rw[ao (az q hn)];exact q
 Hy:=fun b ps q=>⟨#[],by rw[ao (az q hn),q];simp⟩
theorem Un.write(mu:Mut (H x))(he:e=x\/H e=some (.own x))(k:∀b u,b≠e->h.get? b=some u->h'.get? b=some u)(heo:∃u,h'.get? e=some u):Un fs ex H (upd H x o) h h':=by
 have hx:∀b,H b=none->b≠x:=fun b n z=>by subst z;rw[n] at mu;exact mu
 have hb:∀b,H b=none->b≠e:=fun b n z=>by
  subst z;rcases he with r|r
  ·exact hx b n r
  ·rw[n] at r;cases r
 have hm:∀b u,H b=some u->¬Mut (some u)->b≠x:=fun b u q nm z=>by subst z;rw[q] at mu;exact nm mu
 refine⟨fun b u q n _ _=>k b u (hb b n) q,fun b u q n _ _=>⟨u.slots,k b u (hb b n) q⟩,fun b u q n _=>by rw[ao (hx b n)]; exact n,fun b u q _=>?_,
  fun b xs q=>by rw[ao (hm b _ q fun z=>z)];exact q,fun b u xs q=>by rw[ao (hm b _ q fun z=>z)];exact q,fun b ps q=>⟨#[],by rw[ao (hm b _ q fun z=>z),q];simp⟩⟩
 by_cases hbe:b=e
 ·subst hbe;exact heo
 ·exact⟨u,k b u hbe q⟩
end
def trk (h:Heap)(H:Hp):List Addr:=(List.range h.objs.size).filter fun a=>(H a).isSome
def oJ (h:Heap)(H:Hp):Heap:=W.hideAll h (trk h H)
theorem lM(h:Heap)(H:Hp):(oJ h H).objs.size=h.objs.size:=W.hideAll_size _ _
theorem nZ{h:Heap}{H:Hp}{b:Addr}{o:Obj}(e:h.get? b=some o)(n:H b=none):(oJ h H).get? b=some o:=
 W.hideAll_get _ e fun hm=>by
  have q:(H b).isSome=true:=(BY.mp hm).2;rw[n] at q;simp at q
theorem qZ{h:Heap}{H:Hp}{b:Addr}{o:Obj}(e:(oJ h H).get? b=some o):h.get? b=some o/\H b=none:=by
 have e':h.get? b=some o:=W.of_hideAll (trk h H) e;refine⟨e',?_⟩;cases q:H b with
 |none=>rfl
 |some x=>
  have hm:b∈trk h H:=BY.mpr ⟨CN.mpr (Eg e'),by simp[q]⟩;have z:(oJ h H).get? b=none:=W.hideAll_none (trk h H) hm;rw[z] at e;cases e
def qT (g h:Heap)(L:Addr):List (Addr×Obj):=(List.range h.objs.size).filterMap fun a=>if a=L\/(g.get? a).isSome=true then none else (h.get? a).map fun o=>(a,o)
def rest (g h:Heap)(L d:Addr):List (Addr×Obj):=(qT g h L).filter fun p=>decide (p.1≠d)
structure Mod(K:W.Frag)(mg:Str->Option Value)(base:Heap):Prop where
 kin:K.In base
 glob:base.Ns mainGlobals mg
 blt:∃mb,base.Ns builtinsNs mb/\∀x:Str,x≠"__name__"->mb x=bootBuiltins x
 nolimit:base.NoLimit
structure Cx where
 prog:Program
 w:World
 K:W.Frag
 mg:Str->Option Value
 base:Heap
 A:Around
 N:List Str
 s₀:Shared
 H₀:Hp
 env:Env
 outer:List Env
 stack:List Env
 ex:List Addr
 fn:Str->Bool
 calm:Bool
 pn:List (Addr×Obj)
 xe:Value->Shared->Prop
def frs (l:List Env):List Addr:=l.filterMap (·.frame)
abbrev Cx.fs(X:Cx):List Addr:=frs X.outer
def Vis (sc:Scope)(x:Str):Prop:=sc.names.lookup x=some .local\/sc.names.lookup x=some .cell\/sc.names.lookup x=some .free
def Loc (sc:Scope)(x:Str):Prop:=sc.names.lookup x=some .local\/sc.names.lookup x=some .cell
def Look (env:Env)(h:Heap)(m:Str->Option Value)(x:Str)(u:Value):Prop:=
 (env.kindOf x=some .local/\m x=some u)\/((env.kindOf x=some .cell\/env.kindOf x=some .free)/\∃c,env.cells.lookup x=some c/\h.IsCell c (some u))
structure Cx.Ok(X:Cx):Prop where
 mod:Mod X.K X.mg X.base
 kind:X.env.scope.kind=.function
 glob:X.env.globals=mainGlobals
 blt:X.env.builtins=builtinsNs
 above:X.s₀.heap.objs.size<=X.env.locals
 inj:∀x y c,X.env.cells.lookup x=some c->X.env.cells.lookup y=some c->x=y
 has:∀x,(X.env.kindOf x=some .cell\/X.env.kindOf x=some .free)->∃c,X.env.cells.lookup x=some c
 cab:∀x c,X.fn x=true->X.env.cells.lookup x=some c->X.s₀.heap.objs.size<=c
 hd:X.calm=true->X.A.handled=none
 frames:X.A.frames=some X.stack
 stk:X.stack=X.outer\/(X.stack=X.env::X.outer/\X.env.frame=some X.env.locals)
 exf:∀b∈X.ex,b≠X.env.locals/\∀x c,X.env.cells.lookup x=some c->c≠b
 bs:∀b o,X.base.get? b=some o->X.s₀.heap.get? b=some o/\X.H₀ b=none
 bsz:X.base.objs.size<=X.s₀.heap.objs.size
 IQ:∀b o,X.base.get? b=some o->b∉X.ex
 HX:∀b∈X.ex,b∉X.fs
 GW:X.s₀.heap.FunFrames X.base X.outer
 frf:∀b∈X.fs,X.H₀ b=none
structure Inv(X:Cx)(pins:List (Addr×Obj))(σ:List (Option V))(H:Hp)(s:Shared):Prop where
 ok:X.Ok
 os:s.os=X.s₀.os
 bare:AllBare s.gens
 base:Un X.fs X.ex X.H₀ H X.s₀.heap s.heap
 loc:∃m,s.heap.Ns X.env.locals m/\∀(i:Nat)(x:Str)(v:V),X.N[i]?=some x->σ[i]?=some (some v)->Vis X.env.scope x->∃u,RelV v u/\Look X.env s.heap m x u
 cell:∀x c,X.env.cells.lookup x=some c->∃v,s.heap.IsCell c v
 free:H X.env.locals=none
 Fm:∀x c,X.env.cells.lookup x=some c->H c=none
 pin:∀p∈X.pn++pins,s.heap.get? p.1=some p.2/\H p.1=none/\p.1≠X.env.locals/\p.1∉X.fs/\∀v,p.2.data≠.cell v
 hok:HOk X.prog X.w H s.heap
 len:σ.length=X.N.length
section
variable {X:Cx}{pins:List (Addr×Obj)}{σ:List (Option V)}{H H':Hp}{s:Shared}{h':Heap}
theorem Cx.Ok.nofr(ok:X.Ok){b:Addr}{o:Obj}(e:X.base.get? b=some o):b∉X.fs:=fun hb=>by
 have:=(ok.GW.mem hb).1;rw[e] at this;cases this
theorem Inv.bs(I:Inv X pins σ H s):∀b o,X.base.get? b=some o->s.heap.get? b=some o/\H b=none:=fun b o e=>
 ⟨I.base.keep b o (I.ok.bs b o e).1 (I.ok.bs b o e).2 (I.ok.nofr e) (I.ok.IQ b o e),I.base.free b o (I.ok.bs b o e).1 (I.ok.bs b o e).2 (I.ok.IQ b o e)⟩
theorem Inv.bk(I:Inv X pins σ H s):∀b o,X.base.get? b=some o->s.heap.get? b=some o:=fun b o e=>(I.bs b o e).1
theorem Inv.mod(I:Inv X pins σ H s):Mod X.K X.mg X.base:=I.ok.mod
theorem Inv.kIn(I:Inv X pins σ H s):X.K.In s.heap:=I.ok.mod.kin.keeps I.bk
theorem Inv.nolimit(I:Inv X pins σ H s):s.heap.NoLimit:=I.ok.mod.nolimit.keeps I.bk
theorem Inv.lt(I:Inv X pins σ H s):X.env.locals<s.heap.objs.size:=let ⟨_,hn,_⟩:=I.loc;hn.lt
theorem Inv.sz(I:Inv X pins σ H s):X.s₀.heap.objs.size<=s.heap.objs.size:=Bm I.ok.above (BF I.lt)
theorem Inv.nofs(I:Inv X pins σ H s){a:Addr}(h:s.heap.objs.size<=a):a∉X.fs:=fun hb=>by
 obtain⟨_,o,ho,_⟩:=I.ok.GW.mem hb;exact absurd (Bc (Eg ho) (Bm I.sz h)) (Bx _)
theorem Inv.cne(I:Inv X pins σ H s):∀x c,X.env.cells.lookup x=some c->c≠X.env.locals:=fun x c e z=>by
 obtain⟨v,o,ho,hd⟩:=I.cell x c e;obtain⟨m,⟨o',es,ep,ho',hd',_⟩,_⟩:=I.loc;rw[z,ho'] at ho;cases ho;rw[hd'] at hd;cases hd
theorem Inv.GW(I:Inv X pins σ H s):s.heap.FunFrames X.base X.outer:=by
 have all:∀(l:List Env),(∀b∈frs l,b∈X.fs)->X.s₀.heap.FunFrames X.base l->s.heap.FunFrames X.base l:=by
  intro l;induction l with
  |nil=>intro _ _;trivial
  |cons env r ih=>
   intro hs hl;obtain⟨hk,⟨L,o,hf,hn,ho,hd⟩,hr⟩:=hl;have hL:L∈X.fs:=hs L (by unfold frs;rw[Dw,hf];exact Bj);obtain⟨sl,e⟩:=I.base.slot L o ho (I.ok.frf L hL) hL fun z=>I.ok.HX L z hL;exact⟨hk,⟨L,_,hf,hn,e,hd⟩,ih (fun b hb=>hs b (by unfold frs;rw[Dw,hf];exact By _ hb)) hr⟩
 exact all X.outer (fun _ hb=>hb) I.ok.GW
theorem Inv.stack(I:Inv X pins σ H s):s.heap.FunFrames X.base X.stack:=by
 rcases I.ok.stk with e|⟨e,hf⟩
 ·rw[e];exact I.GW
 ·rw[e];obtain⟨m,hn,_⟩:=I.loc;refine .cons (by rw[I.ok.kind];decide) hf hn ?_ I.GW;exact Heap.get?_none_of_le (Bm I.ok.bsz I.ok.above)
theorem Inv.GN(I:Inv X pins σ H s):∀b∈frs X.stack,b∈X.env.locals::X.fs:=fun b hb=>by
 rcases I.ok.stk with e|⟨e,hf⟩
 ·rw[e] at hb;exact By _ hb
 ·rw[e] at hb;unfold frs at hb;rw[Dw,hf] at hb;exact hb
theorem Inv.Gs(I:Inv X pins σ H s):∀b∈frs X.stack,H b=none:=fun b hb=>by
 rcases Bl.mp (I.GN b hb) with e|hb
 ·rw[e];exact I.free
 ·obtain⟨_,o,ho,_⟩:=I.ok.GW.mem hb;exact I.base.free b o ho (I.ok.frf b hb) fun z=>I.ok.HX b z hb
theorem Inv.step{g':Array GenState}{t':Nat}{d':Drawn}{ch:List Addr}(I:Inv X pins σ H s)
  (hch:∀b∈ch,(b∈X.ex\/X.s₀.heap.get? b=none)/\b≠X.env.locals/\(∀x c,X.env.cells.lookup x=some c->c≠b)/\∀p∈X.pn++pins,p.1≠b)
  (keep:∀b o,b≠X.env.locals->b∉X.fs->b∉ch->s.heap.get? b=some o->H b=none->h'.get? b=some o)
  (slot:∀b o,b≠X.env.locals->b∈X.fs->b∉ch->s.heap.get? b=some o->H b=none->∃sl,h'.get? b=some {o with slots:=sl})(free:∀b o,b∉ch->s.heap.get? b=some o->H b=none->H' b=none)
  (there:∀b o,b∉ch->s.heap.get? b=some o->∃o',h'.get? b=some o')
  (HS:∀b xs,H b=some (.tup xs)->H' b=some (.tup xs))(HK:∀b o u,H b=some (.frz o u)->H' b=some (.frz o u))(Hy:∀b ps,H b=some (.tbl ps)->∃more,H' b=some (.tbl (ps++more)))
  (ns:∀m,s.heap.Ns X.env.locals m->h'.Ns X.env.locals m)(hok:HOk X.prog X.w H' h')(hg:AllBare g') :
  Inv X pins σ H' {s with heap:=h',gens:=g',drawn:=d',toks:=t'}:=by
 have neL:∀b o,X.s₀.heap.get? b=some o->b≠X.env.locals:=fun b o e=>AZ (Bc (Eg e) I.ok.above);have neC:∀b o,X.s₀.heap.get? b=some o->b∉X.ex->b∉ch:=fun b o e hx hb=>by
  rcases (hch b hb).1 with z|z
  ·exact hx z
  ·rw[z] at e;cases e
 have cellK:∀x c,X.env.cells.lookup x=some c->∀v,s.heap.IsCell c v->h'.IsCell c v:=fun x c e v hq1=>by
  obtain⟨o,ho,hd⟩:=hq1;have nch:c∉ch:=fun z=>(hch c z).2.2.1 x c e rfl;by_cases hc:c∈X.fs
  ·obtain⟨sl,q⟩:=slot c o (I.cne x c e) hc nch ho (I.Fm x c e);exact⟨_,q,hd⟩
  ·exact⟨o,keep c o (I.cne x c e) hc nch ho (I.Fm x c e),hd⟩
 refine⟨I.ok,I.os,hg,⟨fun b o e n hb hx=>?_,fun b o e n hb hx=>?_,fun b o e n hx=>?_,fun b o e hx=>?_,fun b xs e=>HS b xs (I.base.HS b xs e),fun b o xs e=>HK b o xs (I.base.HK b o xs e),fun b ps e=>?_⟩,?_,fun x c e=>?_,?_,fun x c e=>?_,fun p hp=>?_,hok,I.len⟩
 ·exact keep b o (neL b o e) hb (neC b o e hx) (I.base.keep b o e n hb hx) (I.base.free b o e n hx)
 ·obtain⟨sl,e1⟩:=I.base.slot b o e n hb hx;obtain⟨sl',e2⟩:=slot b _ (neL b o e) hb (neC b o e hx) e1 (I.base.free b o e n hx);exact⟨sl',e2⟩
 ·obtain⟨o',e1⟩:=I.base.there b o e hx;exact free b o' (neC b o e hx) e1 (I.base.free b o e n hx)
 ·obtain⟨o',e1⟩:=I.base.there b o e hx;exact there b o' (neC b o e hx) e1
 ·obtain⟨m1,e1⟩:=I.base.Hy b ps e;obtain⟨m2,e2⟩:=Hy b _ e1;exact⟨m1++m2,by rw[e2,Array.append_assoc]⟩
 ·obtain⟨m,hn,hl⟩:=I.loc;refine⟨m,ns m hn,fun i x v e1 e2 e3=>?_⟩;obtain⟨u,r,l⟩:=hl i x v e1 e2 e3;refine⟨u,r,?_⟩;rcases l with l|⟨k,c,e,z⟩
  ·exact .inl l
  ·exact .inr ⟨k,c,e,cellK x c e _ z⟩
 ·obtain⟨v,z⟩:=I.cell x c e;exact⟨v,cellK x c e v z⟩
 ·obtain⟨m,⟨o,_,_,ho,_⟩,_⟩:=I.loc;exact free _ o (fun z=>(hch _ z).2.1 rfl) ho I.free
 ·obtain⟨v,o,ho,hd⟩:=I.cell x c e;exact free c o (fun z=>(hch c z).2.2.1 x c e rfl) ho (I.Fm x c e)
 ·obtain⟨e,n,ne,nf,d⟩:=I.pin p hp;have nch:p.1∉ch:=fun z=>(hch p.1 z).2.2.2 p hp rfl;exact⟨keep p.1 p.2 ne nf nch e n,free p.1 p.2 nch e n,ne,nf,d⟩
theorem Inv.un{t':Nat}(I:Inv X pins σ H s)(u:Un X.fs [] H H' s.heap h')(hok:HOk X.prog X.w H' h'):Inv X pins σ H' {s with heap:=h',toks:=t'}:=by
 obtain⟨m,⟨o,es,ep,ho,r⟩,_⟩:=id I.loc;obtain⟨sl,hL⟩:=u.any ho I.free (by simp)
 exact I.step (g':=s.gens) (d':=s.drawn) (ch:=[]) (fun _ z=>nomatch z) (fun b o _ hb _ e n=>u.keep b o e n hb (by simp)) (fun b o _ hb _ e n=>u.slot b o e n hb (by simp)) (fun b o _ e n=>u.free b o e n (by simp)) (fun b o _ e=>u.there b o e (by simp)) u.HS u.HK u.Hy (fun m' hm=>by
  obtain⟨o',es',ep',ho',r'⟩:=hm;rw[ho] at ho';cases ho'
  exact⟨_,es',ep',hL,r'⟩) hok I.bare
theorem Inv.call{g':Array GenState}{t':Nat}{d':Drawn}{ch:List Addr}(I:Inv X pins σ H s)(u:Un (frs X.stack) ch H H' s.heap h')(hok:HOk X.prog X.w H' h')(hg:AllBare g')
  (hch:∀b∈ch,(b∈X.ex\/X.s₀.heap.get? b=none)/\b≠X.env.locals/\(∀x c,X.env.cells.lookup x=some c->c≠b)/\∀p∈X.pn++pins,p.1≠b) :
  Inv X pins σ H' {s with heap:=h',gens:=g',drawn:=d',toks:=t'}:=by
 obtain⟨m,⟨o,es,ep,ho,r⟩,_⟩:=id I.loc;obtain⟨sl,hL⟩:=u.any ho I.free fun z=>(hch _ z).2.1 rfl
 exact I.step (ch:=ch) hch (fun b o hL hb hc e n=>u.keep b o e n (fun z=>(Bl.mp (I.GN b z)).elim hL hb) hc) (fun b o _ _ hc e n=>u.any e n hc) (fun b o hc e n=>u.free b o e n hc) (fun b o hc e=>u.there b o e hc) u.HS u.HK u.Hy (fun m' hm=>by
  obtain⟨o',es',ep',ho',r'⟩:=hm;rw[ho] at ho';cases ho'
  exact⟨_,es',ep',hL,r'⟩) hok hg
theorem Inv.turned{t':Nat}{it:Addr}(I:Inv X pins σ H s)(k:∀b o,b≠it->s.heap.get? b=some o->h'.get? b=some o)(hn:H it=none)(hL:it≠X.env.locals)
  (h1:it∈X.ex\/X.s₀.heap.get? it=none)(h2:∀x c,X.env.cells.lookup x=some c->c≠it)(h3:∀p∈X.pn++pins,p.1≠it):Inv X pins σ H {s with heap:=h',toks:=t'}:=by
 have nit:∀b u,H b=some u->b≠it:=fun b u e z=>by rw[z,hn] at e;cases e
 refine I.step (g':=s.gens) (d':=s.drawn) (ch:=[it]) (fun b hb=>?_) (fun b o _ _ hc e _=>k b o (fun z=>hc (by simp[z])) e) (fun b o _ _ hc e _=>⟨o.slots,k b o (fun z=>hc (by simp[z])) e⟩) (fun _ _ _ _ n=>n)
  (fun b o hc e=>⟨o,k b o (fun z=>hc (by simp[z])) e⟩) (fun _ _ e=>e) (fun _ _ _ e=>e) (fun b ps e=>⟨#[],by rw[e];simp⟩) (fun m hm=>?_) (fun b u e=>?_) I.bare
 ·have e:b=it:=by simpa using hb
  subst e;exact⟨h1,hL,h2,h3⟩
 ·obtain⟨o,es,ep,ho,r⟩:=hm;exact⟨o,es,ep,k _ o (Er hL) ho,r⟩
 ·refine(I.hok b u e).Hr (fun c v hc q=>k c v ?_ q) (fun _ q=>q) fun _ _ q=>q;rcases hc with z|z
  ·rw[z];exact nit b u e
  ·exact nit c _ z
theorem Inv.tok(I:Inv X pins σ H s)(t:Nat):Inv X pins σ H {s with toks:=t}:=I.un (h':=s.heap) (t':=t) Un.refl I.hok
theorem Inv.kept{t':Nat}(I:Inv X pins σ H s)(k:∀b u,s.heap.get? b=some u->h'.get? b=some u):Inv X pins σ H {s with heap:=h',toks:=t'}:=I.un (Un.kept k) (I.hok.kept k)
theorem Inv.laid{a:Addr}{o:HO}{t':Nat}(I:Inv X pins σ H s)(k:∀b u,s.heap.get? b=some u->h'.get? b=some u)(hp:s.heap.objs.size<=a)(new:EY X.prog X.w (upd H a o) h' a o) :
  Inv X pins σ (upd H a o) {s with heap:=h',toks:=t'}:=I.un (Un.laid k hp (I.hok.fresh hp)) (I.hok.laid k hp new)
theorem Inv.write{x e:Addr}{o:HO}{t':Nat}(I:Inv X pins σ H s)(mu:Mut (H x))(he:e=x\/H e=some (.own x))(k:∀b u,b≠e->s.heap.get? b=some u->h'.get? b=some u)(heo:∃u,h'.get? e=some u)
  (new:EY X.prog X.w (upd H x o) h' x o):Inv X pins σ (upd H x o) {s with heap:=h',toks:=t'}:=I.un (Un.write mu he k heo) (I.hok.write mu he k heo new)
theorem Inv.Fo{pins':List (Addr×Obj)}(I:Inv X pins σ H s)(h:∀p∈pins',s.heap.get? p.1=some p.2/\H p.1=none/\p.1≠X.env.locals/\p.1∉X.fs/\∀v,p.2.data≠.cell v):Inv X pins' σ H s:=
 ⟨I.ok,I.os,I.bare,I.base,I.loc,I.cell,I.free,I.Fm,fun p hp=>(Bb.mp hp).elim (fun z=>I.pin p (Bn _ z)) (h p),I.hok,I.len⟩
theorem gy{N:List Str}(hN:N.Nodup){i j:Nat}{x:Str}(a:N[i]?=some x)(b:N[j]?=some x):i=j:=by
 obtain⟨h1,e1⟩:=Be.mp a;obtain⟨h2,e2⟩:=Be.mp b;exact(List.getElem_inj hN).mp (e1.trans e2.symm)
theorem eZ{M:Model}{A:Around}{E:Value->Shared->Prop}{i:Nat}{x:Str}{v:V}{u:Value}{Q:Unit->Shared->Prop}(I:Inv X pins σ H s)(hN:X.N.Nodup)(hi:X.N[i]?=some x)(hx:Loc X.env.scope x)(r:RelV v u)
  (h:∀s',Inv X pins (σ.set i (some v)) H s'->(∃a,Heap.SameBut a s.heap s'.heap/\(a=X.env.locals\/X.env.cells.lookup x=some a))->Q () s')(hf:X.fn x=true\/X.env.scope.names.lookup x=some .local:=by first|exact .inl rfl|exact .inr rfl|assumption):wpAny M A (storeName X.env x u) Q E s:=by
 obtain⟨m,hn,hl⟩:=id I.loc;have hcls:(X.env.scope.kind==.class||(X.env.scope.kind==.module&&X.env.locals != X.env.globals))=false:=by rw[I.ok.kind];rfl
 have hiσ:i<σ.length:=by rw[I.len];exact(Be.mp hi).1
 have cne:=I.cne;have tracked:∀{a:Addr}{h':Heap},(∃o,s.heap.get? a=some o/\H a=none)->Heap.SameBut a s.heap h'->HOk X.prog X.w H h':=fun {a h'} ha hs b ob e=>by
  obtain⟨_,_,hfree⟩:=ha;refine(I.hok b ob e).Hr (fun c w' hc q=>(hs.2 c ?_).trans q) (fun _ q=>q) fun _ _ q=>q;rintro rfl;rcases hc with rfl|hc
  ·rw[hfree] at e;cases e
  ·rw[hfree] at hc;cases hc
 rcases hx with hk|hk
 ·refine wpAny_storeName_local hk hn (fun h' hn' hs=>?_) hcls;obtain⟨oL,_,_,hoL,_⟩:=id hn;refine h _ ⟨I.ok,I.os,I.bare,⟨fun b o e n hb hx=>?_,fun b o e n hb hx=>?_,I.base.free,fun b o e hx=>?_,I.base.HS,I.base.HK,I.base.Hy⟩,⟨_,hn',fun j y v' e1 e2 e3=>?_⟩,fun y c e=>?_,I.free,I.Fm,fun p hp=>?_,tracked ⟨oL,hoL,I.free⟩ hs,by simpa using I.len⟩ ⟨_,hs,.inl rfl⟩
  ·exact(hs.2 b (AZ (Bc (Eg e) I.ok.above))).trans (I.base.keep b o e n hb hx)
  ·obtain⟨sl,e1⟩:=I.base.slot b o e n hb hx;exact⟨sl,(hs.2 b (AZ (Bc (Eg e) I.ok.above))).trans e1⟩
  ·obtain⟨o',e1⟩:=I.base.there b o e hx;exact⟨o',(hs.2 b (AZ (Bc (Eg e) I.ok.above))).trans e1⟩
  ·by_cases hj:j=i
   ·subst hj;rw[hi] at e1;cases e1;rw[CH hiσ] at e2;cases e2;exact⟨u,r,.inl ⟨hk,by simp⟩⟩
   ·rw[CI (Er hj)] at e2;obtain⟨u',r',q⟩:=hl j y v' e1 e2 e3;refine⟨u',r',?_⟩;rcases q with ⟨k,e⟩|⟨k,c,e,z⟩
    ·refine .inl ⟨k,?_⟩;have:y≠x:=fun e=>hj (gy hN e1 (e▸hi));simp[this,e]
    ·exact .inr ⟨k,c,e,z.sameBut hs (cne y c e)⟩
  ·obtain⟨w',z⟩:=I.cell y c e;exact⟨w',z.sameBut hs (cne y c e)⟩
  ·obtain⟨e,n,ne,nf,d⟩:=I.pin p hp;exact⟨(hs.2 p.1 ne).trans e,n,ne,nf,d⟩
 ·have hfn:X.fn x=true:=by
   rcases hf with z|z
   ·exact z
   ·rw[z] at hk;cases hk
  obtain⟨c,hc⟩:=I.ok.has x (.inl hk);obtain⟨w',z⟩:=I.cell x c hc;refine wpAny_storeName_cell I.ok.kind hk hc z (fun h' hc' hs=>?_);obtain⟨oc,hoc,hocd⟩:=id z;refine h {s with heap:=h'} ⟨I.ok,I.os,I.bare,⟨fun b o e n hb hx=>?_,fun b o e n hb hx=>?_,I.base.free,fun b o e hx=>?_,I.base.HS,I.base.HK,I.base.Hy⟩,⟨m,hn.sameBut hs (Er (cne x c hc)),fun j y v' e1 e2 e3=>?_⟩,fun y c' e=>?_,I.free,I.Fm,fun p hp=>?_,tracked ⟨oc,hoc,I.Fm x c hc⟩ hs,by simpa using I.len⟩ ⟨c,hs,.inr hc⟩
  ·exact(hs.2 b (AZ (Bc (Eg e) (I.ok.cab x c hfn hc)))).trans (I.base.keep b o e n hb hx)
  ·obtain⟨sl,e1⟩:=I.base.slot b o e n hb hx;exact⟨sl,(hs.2 b (AZ (Bc (Eg e) (I.ok.cab x c hfn hc)))).trans e1⟩
  ·obtain⟨o',e1⟩:=I.base.there b o e hx;exact⟨o',(hs.2 b (AZ (Bc (Eg e) (I.ok.cab x c hfn hc)))).trans e1⟩
  ·by_cases hj:j=i
   ·subst hj;rw[hi] at e1;cases e1;rw[CH hiσ] at e2;cases e2;exact⟨u,r,.inr ⟨.inl hk,c,hc,hc'⟩⟩
   ·rw[CI (Er hj)] at e2;obtain⟨u',r',q⟩:=hl j y v' e1 e2 e3;refine⟨u',r',?_⟩;rcases q with q|⟨k,c',e,z'⟩
    ·exact .inl q
    ·refine .inr ⟨k,c',e,z'.sameBut hs ?_⟩;rintro rfl;exact hj (gy hN e1 (I.ok.inj _ _ _ e hc▸hi))
  ·by_cases hcc:c'=c
   ·subst hcc;exact⟨_,hc'⟩
   ·obtain⟨w2,z2⟩:=I.cell y c' e;exact⟨w2,z2.sameBut hs hcc⟩
  ·obtain⟨e,n,ne,nf,d⟩:=I.pin p hp;refine⟨(hs.2 p.1 ?_).trans e,n,ne,nf,d⟩;intro q;rw[q,hoc] at e;have q':oc=p.2:=Eh e;exact d w' (by rw[<- q'];exact hocd)
theorem dA{M:Model}{A:Around}{E:Value->Shared->Prop}{i:Nat}{x:Str}{v:V}{u:Value}{Q:Unit->Shared->Prop}(I:Inv X pins σ H s)(hN:X.N.Nodup)(hi:X.N[i]?=some x)(hx:Loc X.env.scope x)(r:RelV v u)
  (h:∀s',Inv X pins (σ.set i (some v)) H s'->Q () s')(hf:X.fn x=true\/X.env.scope.names.lookup x=some .local:=by first|exact .inl rfl|exact .inr rfl|assumption):wpAny M A (storeName X.env x u) Q E s:=
 eZ I hN hi hx r (fun s' I' _=>h s' I') hf
theorem Inv.JG{s':Shared}{ch:List Addr}(I:Inv X pins σ H s)(ho:s'.os=s.os)(u:Un (frs X.stack) ch H H' s.heap s'.heap)(hok:HOk X.prog X.w H' s'.heap)(hg:AllBare s'.gens)
  (hch:∀b∈ch,(b∈X.ex\/X.s₀.heap.get? b=none)/\b≠X.env.locals/\(∀x c,X.env.cells.lookup x=some c->c≠b)/\∀p∈X.pn++pins,p.1≠b):Inv X pins σ H' s':=by
 obtain⟨h',g',d',t',o'⟩:=s';have e:o'=s.os:=ho;subst e;exact I.call (g':=g') (t':=t') (d':=d') u hok hg hch
end
abbrev XK:=Value->Option Addr->Hp->Prop
abbrev St:=List (Option V)
abbrev VK:=V->Hp->Prop
abbrev TE:=St->Hp->VK->Prop
abbrev TT:=St->Hp->(Bool->Hp->Prop)->Prop
abbrev TA:=St->Hp->(List V->Hp->Prop)->Prop
structure Ends where
 nx:St->Hp->Prop
 rt:VK
 bk:St->Hp->Prop:=fun _ _=>False
 ct:St->Hp->Prop:=fun _ _=>False
abbrev TS:=Ends->St->Hp->Prop
def EP (X:Cx)(pins:List (Addr×Obj))(σ:St)(Q:VK)(u:Value)(s':Shared):Prop:=∃v H',Inv X pins σ H' s'/\RelV v u/\Q v H'
def TP (X:Cx)(pins:List (Addr×Obj))(σ:St)(Q:Bool->Hp->Prop)(b:Bool)(s':Shared):Prop:=∃H',Inv X pins σ H' s'/\Q b H'
def AP (X:Cx)(pins:List (Addr×Obj))(σ:St)(Q:List V->Hp->Prop)(us:List Value)(s':Shared):Prop:=∃vs H',Inv X pins σ H' s'/\Vals vs us/\Q vs H'
def SP (X:Cx)(pins:List (Addr×Obj))(D:Ends)(f:Flow)(s':Shared):Prop:=
 match f with
 |.next=>∃σ' H',Inv X pins σ' H' s'/\D.nx σ' H'
 |.brk=>∃σ' H',Inv X pins σ' H' s'/\D.bk σ' H'
 |.cont=>∃σ' H',Inv X pins σ' H' s'/\D.ct σ' H'
 |.ret u=>∃v σ' H',Inv X pins σ' H' s'/\RelV v u/\D.rt v H'
def PE (X:Cx)(e:Expr)(t:TE):Prop:=
 ∀(pins:List (Addr×Obj))(s:Shared)(σ:St)(H:Hp)(Q:VK),Inv X pins σ H s->t σ H Q->(wq X) (eval e X.env) (EP X pins σ Q) X.xe s
def PT (X:Cx)(e:Expr)(t:TT):Prop:=
 ∀(pins:List (Addr×Obj))(s:Shared)(σ:St)(H:Hp)(Q:Bool->Hp->Prop),Inv X pins σ H s->t σ H Q->(wq X) (isTrue e X.env (eval e X.env)) (TP X pins σ Q) X.xe s
def PW (X:Cx)(e:Expr)(t:TT):Prop:=
 ∀(whole:Sem Value)(pins:List (Addr×Obj))(s:Shared)(σ:St)(H:Hp)(Q:Bool->Hp->Prop),Inv X pins σ H s->t σ H Q->(wq X) (isTrue e X.env whole) (TP X pins σ Q) X.xe s
theorem PW.pt{X:Cx}{e:Expr}{t:TT}(h:PW X e t):PT X e t:=h _
def PA (X:Cx)(es:List Expr)(t:TA):Prop:=
 ∀(pos:Pos)(pins:List (Addr×Obj))(s:Shared)(σ:St)(H:Hp)(Q:List V->Hp->Prop),Inv X pins σ H s->t σ H Q->(wq X) (spliced (backTo pos (starEach es X.env))) (AP X pins σ Q) X.xe s
def PS (X:Cx)(st:Stmt)(t:TS):Prop:=
 ∀(pins:List (Addr×Obj))(s:Shared)(σ:St)(H:Hp)(D:Ends),Inv X pins σ H s->t D σ H->(wq X) (exec st X.env) (SP X pins D) X.xe s
def PSs (X:Cx)(st:List Stmt)(t:TS):Prop:=
 ∀(pins:List (Addr×Obj))(s:Shared)(σ:St)(H:Hp)(D:Ends),Inv X pins σ H s->t D σ H->(wq X) (execs st X.env) (SP X pins D) X.xe s
theorem thn{α:Type}{t:Sem α}{Q Q':α->Shared->Prop}{M:Model}{A:Around}{E:Value->Shared->Prop}{s:Shared}(h:wpAny M A t Q E s)(hQ:∀a s,Q a s->Q' a s):wpAny M A t Q' E s:=Ed h hQ fun _ _ x=>x
section
variable {X:Cx}
def rm (i:Nat):TE:=fun σ H Q=>∃v,σ[i]?=some (some v)/\Q v H
def tC (v:V):TE:=fun _ H Q=>Q v H
theorem sJ{i:Nat}{x:Str}{pos:Pos}(hN:X.N[i]?=some x)(hv:Vis X.env.scope x)(hd:(x==("__debug__":Str))=false:=by decide)(hcd:(x==("__classdict__":Str))=false:=by decide):PE X (.Name x pos) (rm i):=by
 intro pins s σ H Q I h;obtain⟨v,e,h⟩:=h;obtain⟨m,hn,hl⟩:=I.loc;obtain⟨u,r,l⟩:=hl i x v hN e hv;have fin:EP X pins σ Q u s:=⟨v,H,I,r,h⟩
 rcases l with ⟨hk,hm⟩|⟨hk,c,hc,hcell⟩
 ·exact wpAny_Name (wpAny_loadName_local I.ok.kind hk hn hm fin) hd
 ·rcases hk with hk|hk
  ·exact wpAny_Name (wpAny_loadName_cell I.ok.kind hk hc hcell fin) hd
  ·exact wpAny_Name (wpAny_loadName_free I.ok.kind hk hc hcell fin hcd) hd
theorem ag{i j pos}:PE X (.Constant (.int i) j pos) (tC (.int i)):=fun _ _ _ H _ I h=>wpAny_Constant_int ⟨.int i,H,I.tok _,⟨_,rfl⟩,h⟩
theorem iI{b j pos}:PE X (.Constant (.bool b) j pos) (tC (.bl b)):=fun _ _ _ H _ I h=>Constant_bool ⟨.bl b,H,I,rfl,h⟩
theorem fJ{j pos}:PE X (.Constant .none j pos) (tC .non):=fun _ _ _ H _ I h=>Constant_none ⟨.non,H,I,rfl,h⟩
theorem aQ{x j pos}:PE X (.Constant (.str x) j pos) (tC (.str x)):=fun _ _ _ H _ I h=>Calls.Constant_str ⟨.str x,H,I.tok _,⟨_,rfl⟩,h⟩
def Gl (X:Cx)(x:Str):Prop:=X.env.kindOf x=some .globalImplicit
theorem dU{E:Value->Shared->Prop}{pins:List (Addr×Obj)}{s:Shared}{σ:St}{H:Hp}{x:Str}{u:Value}{pos:Pos}{Q:Value->Shared->Prop}(I:Inv X pins σ H s)(hg:Gl X x)(hm:X.mg x=some u)(h:Q u s)
  (hd:(x==("__debug__":Str))=false:=by decide):(wq X) (eval (.Name x pos) X.env) Q E s:=
 Calls.Name_function_global I.ok.kind hg (Calls.loadGlobal_global (by rw[I.ok.glob];exact I.mod.glob.keeps I.bk) hm h) hd
theorem dG{E:Value->Shared->Prop}{pins:List (Addr×Obj)}{s:Shared}{σ:St}{H:Hp}{x:Str}{u:Value}{pos:Pos}{Q:Value->Shared->Prop}(I:Inv X pins σ H s)(hg:Gl X x)(hm:X.mg x=none)(hv:bootBuiltins x=some u)(h:Q u s)
  (hn:x≠"__name__":=by decide)(hd:(x==("__debug__":Str))=false:=by decide):(wq X) (eval (.Name x pos) X.env) Q E s:=by
 obtain⟨mb,h1,h2⟩:=I.mod.blt;exact Calls.Name_function_global I.ok.kind hg (Calls.loadGlobal_builtin (by rw[I.ok.glob];exact I.mod.glob.keeps I.bk) hm (by rw[I.ok.blt];exact h1.keeps I.bk) ((h2 x hn).trans hv) h) hd
theorem bA{x:Str}{v:V}{u:Value}{pos:Pos}(hg:Gl X x)(hm:X.mg x=some u)(r:RelV v u)(hd:(x==("__debug__":Str))=false:=by decide):PE X (.Name x pos) (tC v):=
 fun _ _ _ H _ I h=>dU I hg hm ⟨v,H,I,r,h⟩ hd
theorem cX{x:Str}{v:V}{u:Value}{pos:Pos}(hg:Gl X x)(hm:X.mg x=none)(hv:bootBuiltins x=some u)(r:RelV v u)(hn:x≠"__name__":=by decide)(hd:(x==("__debug__":Str))=false:=by decide):PE X (.Name x pos) (tC v):=
 fun _ _ _ H _ I h=>dG I hg hm hv ⟨v,H,I,r,h⟩ hn hd
variable {a b:Expr}{ta tb:TE}{pos:Pos}
def PC (X:Cx)(op:CmpOp)(a b:Expr)(t:TE):Prop:=
 ∀(pins:List (Addr×Obj))(s:Shared)(σ:St)(H:Hp)(Q:VK),Inv X pins σ H s->t σ H Q ->
  (wq X) (eval a X.env) (fun v s₁=>(wq X) (eval b X.env) (fun u s₂=>(wq X) (compareOp op v u) (EP X pins σ Q) X.xe s₂) X.xe s₁) X.xe s
theorem cj(b:Expr){op:CmpOp}(h:op≠.In)(h2:op≠.NotIn):behindInMarks op b=false:=by
 have e1:(op==CmpOp.In)=false:=by cases op<;>first|rfl|exact absurd rfl h
 have e2:(op==CmpOp.NotIn)=false:=by cases op<;>first|rfl|exact absurd rfl h2
 cases b<;>simp[behindInMarks,e1,e2]
def tB (t:TE):TT:=fun σ H Q=>t σ H fun x H1=>∃c,x=.bl c/\Q c H1
theorem qz{op:CmpOp}{t:TE}(h:PC X op a b t)(h1:behindInMarks op b=false:=by first|exact cj _ (by decide) (by decide)|rfl):PE X (.Compare a [op] [b] pos) t:=fun pins s σ H Q I hw=>wpAny_Compare1 (h pins s σ H Q I hw) h1
theorem mR{op:CmpOp}{t:TE}(h:PC X op a b t)(h1:behindInMarks op b=false:=by first|exact cj _ (by decide) (by decide)|rfl):PT X (.Compare a [op] [b] pos) (tB t):=by
 intro pins s σ H Q I hw;refine wpAny_isTrue_Compare1 (thn (h pins s σ H _ I hw) fun v s1 h1=>thn h1 fun u s2 h2=>thn h2 fun c s3 hq2=>?_) h1;obtain⟨x,H1,I1,r1,q1⟩:=hq2;obtain⟨d,rfl,q⟩:=q1;cases r1;exact wpAny_truthy_bool ⟨H1,I1,q⟩
theorem cb{e:Expr}{t:TE}(h:PE X e t)(he:∀whole,isTrue e X.env whole=(do let v <- whole;standAt e.pos;holding [v] (truthy v)):=by intro _;rfl):PT X e (tB t):=by
 intro pins s σ H Q I hw;refine isTrue_plain (thn (h pins s σ H _ I hw) fun v s1 hq3=>?_) (he _);obtain⟨x,H1,I1,r1,q1⟩:=hq3;obtain⟨d,rfl,q⟩:=q1;cases r1;exact wpAny_truthy_bool ⟨H1,I1,q⟩
variable {tA tB':TT}{rest:List Expr}
def tAnd (t u:TT):TT:=fun σ H Q=>t σ H fun c H1=>if c=true then u σ H1 Q else Q false H1
def tOr (t u:TT):TT:=fun σ H Q=>t σ H fun c H1=>if c=true then Q true H1 else u σ H1 Q
def tNot (t:TT):TT:=fun σ H Q=>t σ H fun c H1=>Q (!c) H1
theorem mH(ha:PT X a tA):PW X (.BoolOp .And [a] pos) tA:=by
 intro wh pins s σ H Q I h;refine isTrue_and (thn (ha pins s σ H Q I h) fun c s1 e=>?_);cases c with
 |true=>exact isTrue_and_nil e
 |false=>exact e
theorem ft(ha:PT X a tA):PW X (.BoolOp .Or [a] pos) tA:=by
 intro wh pins s σ H Q I h;refine isTrue_or (thn (ha pins s σ H Q I h) fun c s1 e=>?_);cases c with
 |false=>exact isTrue_or_nil e
 |true=>exact e
theorem qE(ha:PT X a tA)(hb:PW X (.BoolOp .And (b::rest) pos) tB'):PW X (.BoolOp .And (a::b::rest) pos) (tAnd tA tB'):=by
 intro wh pins s σ H Q I h;refine isTrue_and (thn (ha pins s σ H _ I h) fun c s1 hq4=>?_);obtain⟨H1,I1,q1⟩:=hq4;cases c with
 |true=>exact hb wh pins s1 σ H1 Q I1 q1
 |false=>exact⟨H1,I1,q1⟩
theorem kA(ha:PT X a tA)(hb:PW X (.BoolOp .Or (b::rest) pos) tB'):PW X (.BoolOp .Or (a::b::rest) pos) (tOr tA tB'):=by
 intro wh pins s σ H Q I h;refine isTrue_or (thn (ha pins s σ H _ I h) fun c s1 hq5=>?_);obtain⟨H1,I1,q1⟩:=hq5;cases c with
 |true=>exact⟨H1,I1,q1⟩
 |false=>exact hb wh pins s1 σ H1 Q I1 q1
theorem dv(ha:PT X a tA):PT X (.UnaryOp .Not a pos) (tNot tA):=by
 intro pins s σ H Q I h;exact isTrue_not (ha pins s σ H (fun c H1=>Q (!c) H1) I h)
def uO (ta tb:TE):TE:=fun σ H Q=>ta σ H fun x H1=>∃c,x=.bl c/\if c=true then tb σ H1 Q else Q (.bl false) H1
def vB (ta:TE):TE:=fun σ H Q=>ta σ H fun x H1=>∃c,x=.bl c/\Q (.bl (!c)) H1
theorem iL{op}{t:TE}(h:PE X a t):PE X (.BoolOp op [a] pos) t:=fun pins s σ H Q I hw=>BoolOp_one (h pins s σ H Q I hw)
theorem fE(ha:PE X a ta)(hb:PE X (.BoolOp .And (b::rest) pos) tb):PE X (.BoolOp .And (a::b::rest) pos) (uO ta tb):=by
 intro pins s σ H Q I h;refine BoolOp_and (thn (ha pins s σ H _ I h) fun v s1 hq6=>?_);obtain⟨x,H1,I1,r1,q1⟩:=hq6;obtain⟨c,rfl,q1⟩:=q1;cases r1;refine wpAny_truthy_bool ?_;cases c with
 |true=>exact hb pins s1 σ H1 Q I1 q1
 |false=>exact⟨.bl false,H1,I1,rfl,q1⟩
theorem tG(ha:PE X a ta):PE X (.UnaryOp .Not a pos) (vB ta):=by
 intro pins s σ H Q I h;refine UnaryOp_ (thn (ha pins s σ H _ I h) fun v s1 hq7=>?_);obtain⟨x,H1,I1,r1,q1⟩:=hq7;obtain⟨c,rfl,q1⟩:=q1;cases r1;exact not_of (wpAny_truthy_bool ⟨.bl (!c),H1,I1,rfl,q1⟩)
def tIf (t:TT)(ta tb:TE):TE:=fun σ H Q=>t σ H fun c H1=>if c=true then ta σ H1 Q else tb σ H1 Q
theorem jQ{c:Expr}(hc:PT X c tA)(ha:PE X a ta)(hb:PE X b tb):PE X (.IfExp c a b pos) (tIf tA ta tb):=by
 intro pins s σ H Q I h;refine wpAny_IfExp (thn (hc pins s σ H _ I h) fun d s1 hq8=>?_);obtain⟨H1,I1,q1⟩:=hq8;cases d with
 |true=>exact ha pins s1 σ H1 Q I1 q1
 |false=>exact hb pins s1 σ H1 Q I1 q1
end
def SqL (K:W.Frag)(H:Hp)(a:Addr)(xs:List V):Prop:=
 Rd H a (.lst xs) \/
  ∃(o:Obj)(its:Array Value)(n:Nat),K.lookup a=some o/\o.cls=.type "list"/\o.dict=none/\o.data=.seq its n/\its.size<=sizeLine/\Vals xs its.toList
def SqT (K:W.Frag)(H:Hp)(a:Addr)(xs:List V):Prop:=
 Rd H a (.tup xs) \/
  ∃(o:Obj)(its:Array Value)(n:Nat),K.lookup a=some o/\o.cls=.type "tuple"/\o.data=.seq its n/\its.size<=sizeLine/\Vals xs its.toList
def absV:Value->Option V
 |.none=>some .non
 |.bool b=>some (.bl b)
 |.int i _=>some (.int i)
 |.str x _=>some (.str x)
 |.bytes b _=>some (.byt b)
 |.float b _=>some (.flt b)
 |.ref a=>some (.ref a)
 |.type n=>some (.ty n)
 |_=>none
theorem RelV.abs{x:V}{u:Value}(r:RelV x u):absV u=some x:=by
 cases x with
 |non=>cases r;rfl
 |bl _=>cases r;rfl
 |int _=>obtain⟨t,rfl⟩:=r;rfl
 |str _=>obtain⟨t,rfl⟩:=r;rfl
 |byt _=>obtain⟨t,rfl⟩:=r;rfl
 |flt _=>obtain⟨t,rfl⟩:=r;rfl
 |ref _=>cases r;rfl
 |ty _=>cases r;rfl
theorem RelV.inj{x y:V}{u:Value}(r:RelV x u)(q:RelV y u):x=y:=Eh (r.abs.symm.trans q.abs)
theorem Vals.inj:∀{xs ys:List V}{us:List Value},Vals xs us->Vals ys us->xs=ys
 |_,_,_,.nil,.nil=>rfl
 |_,_,_,.cons r t,.cons r' t'=>by rw[r.inj r',Vals.inj t t']
section
variable {X:Cx}{pins:List (Addr×Obj)}{σ:St}{H:Hp}{s:Shared}{a:Addr}{xs ys:List V}
theorem SqL.of{K:W.Frag}(h:H a=some (.lst xs)):SqL K H a xs:=.inl (.inl h)
theorem SqT.of{K:W.Frag}(h:H a=some (.tup xs)):SqT K H a xs:=.inl (.inl h)
theorem Inv.list(I:Inv X pins σ H s)(h:SqL X.K H a xs):∃its:List Value,Vals xs its/\PlainL s.heap a its.toArray/\xs.length<=sizeLine:=by
 rcases h with h|⟨o,its,n,hk,hc,hd,hs,hz,r⟩
 ·obtain⟨z,its,n,r,e⟩:=h.ok I.hok;exact⟨its,r,⟨_,n,e,rfl,rfl,rfl⟩,z⟩
 ·refine⟨its.toList,r,⟨o,n,I.kIn a o hk,hc,hd,by simpa using hs⟩,?_⟩;have e:=r.length;simp only[Bu] at e;lia
theorem Inv.tuple(I:Inv X pins σ H s)(h:SqT X.K H a xs):∃its:List Value,Vals xs its/\IsTup s.heap a its.toArray/\xs.length<=sizeLine:=by
 rcases h with h|⟨o,its,n,hk,hc,hs,hz,r⟩
 ·obtain⟨z,its,r,p⟩:=h.ok I.hok;exact⟨its,r,p,z⟩
 ·refine⟨its.toList,r,⟨o,I.kIn a o hk,hc,n,by simpa using hs⟩,?_⟩;have e:=r.length;simp only[Bu] at e;lia
theorem Inv.HM(I:Inv X pins σ H s)(h:SqL X.K H a xs)(h':SqL X.K H a ys):xs=ys:=by
 obtain⟨its,r,⟨o,n,e,_,_,d⟩,_⟩:=I.list h;obtain⟨its',r',⟨o',n',e',_,_,d'⟩,_⟩:=I.list h';rw[e] at e';cases e';rw[d] at d';injection d' with d1 _;have:its=its':=by simpa using congrArg Array.toList d1
 subst this;exact r.inj r'
theorem Inv.Io(I:Inv X pins σ H s)(h:SqT X.K H a xs)(h':SqT X.K H a ys):xs=ys:=by
 obtain⟨its,r,⟨o,e,_,n,d⟩,_⟩:=I.tuple h;obtain⟨its',r',⟨o',e',_,n',d'⟩,_⟩:=I.tuple h';rw[e] at e';cases e';rw[d] at d';injection d' with d1 _;have:its=its':=by simpa using congrArg Array.toList d1
 subst this;exact r.inj r'
end
abbrev Cx.Fg(X:Cx)(E:Value->Shared->Prop):Cx:={X with xe:=E}
abbrev Cx.nox(X:Cx):Cx:=X.Fg fun _ _=>False
theorem Cx.Ok.Fg{X:Cx}(ok:X.Ok)(E:Value->Shared->Prop):(X.Fg E).Ok:=
 ⟨ok.mod,ok.kind,ok.glob,ok.blt,ok.above,ok.inj,ok.has,ok.cab,ok.hd,ok.frames,ok.stk,ok.exf,ok.bs,ok.bsz,ok.IQ,ok.HX,ok.GW,ok.frf⟩
theorem Cx.Ok.FL{X:Cx}{E:Value->Shared->Prop}(ok:(X.Fg E).Ok):X.Ok:=
 ⟨ok.mod,ok.kind,ok.glob,ok.blt,ok.above,ok.inj,ok.has,ok.cab,ok.hd,ok.frames,ok.stk,ok.exf,ok.bs,ok.bsz,ok.IQ,ok.HX,ok.GW,ok.frf⟩
section
variable {X:Cx}{pins:List (Addr×Obj)}{σ:St}{H:Hp}{s:Shared}{E:Value->Shared->Prop}
theorem Inv.Fg(I:Inv X pins σ H s)(E:Value->Shared->Prop):Inv (X.Fg E) pins σ H s:=⟨I.ok.Fg E,I.os,I.bare,I.base,I.loc,I.cell,I.free,I.Fm,I.pin,I.hok,I.len⟩
theorem Inv.FL(I:Inv (X.Fg E) pins σ H s):Inv X pins σ H s:=⟨I.ok.FL,I.os,I.bare,I.base,I.loc,I.cell,I.free,I.Fm,I.pin,I.hok,I.len⟩
theorem SP.FL{D:Ends}{f:Flow}{s':Shared}(h:SP (X.Fg E) pins D f s'):SP X pins D f s':=by
 cases f with
 |next=>obtain⟨σ',H',I,q⟩:=h;exact⟨σ',H',I.FL,q⟩
 |brk=>obtain⟨σ',H',I,q⟩:=h;exact⟨σ',H',I.FL,q⟩
 |cont=>obtain⟨σ',H',I,q⟩:=h;exact⟨σ',H',I.FL,q⟩
 |ret u=>obtain⟨v,σ',H',I,r,q⟩:=h;exact⟨v,σ',H',I.FL,r,q⟩
theorem PSs.nox{st:List Stmt}{t:TS}(h:PSs X.nox st t):PSs X st t:=fun pins s σ H D I hw=>
 Ed (h pins s σ H D (I.Fg _) hw) (fun _ _ q=>q.FL) fun _ _ z=>False.elim z
end
section
variable {X:Cx}{st:Stmt}{rest:List Stmt}{t u:TS}{e:Expr}{te:TE}{pos:Pos}
def La:TS:=fun D σ H=>D.nx σ H
def sX (t u:TS):TS:=fun D σ H=>t {D with nx:=u D} σ H
theorem EO:PSs X [] La:=fun _ _ σ H _ I h=>wpAny_execs_nil ⟨σ,H,I,h⟩
theorem ah(h1:PS X st t)(h2:PSs X rest u):PSs X (st::rest) (sX t u):=by
 intro pins s σ H D I h;refine wpAny_execs_cons (thn (h1 pins s σ H {D with nx:=u D} I h) fun f s1 q=>?_);cases f with
 |next=>
  obtain⟨σ',H',I',q⟩:=q;exact h2 pins s1 σ' H' D I' q
 |ret v=>exact q
 |brk=>exact q
 |cont=>exact q
theorem aj(h1:PS X st t):PSs X [st] t:=by
 intro pins s σ H D I h;refine wpAny_execs_cons (thn (h1 pins s σ H D I h) fun f s1 q=>?_);cases f with
 |next=>exact wpAny_execs_nil q
 |ret v=>exact q
 |brk=>exact q
 |cont=>exact q
theorem Inv.quiet{pins:List (Addr×Obj)}{σ:St}{H:Hp}{s:Shared}(I:Inv X pins σ H s):interactive X.env=false:=by simp[interactive,I.ok.kind]
def vh (te:TE):TS:=fun D σ H=>te σ H fun _ H1=>D.nx σ H1
theorem bg(he:PE X e te)(hs:swapsWith e none pos.line X.env=pure false:=by rfl):PS X (.Expr e pos) (vh te):=by
 intro pins s σ H D I h;refine wpAny_Expr_any (thn (he pins s σ H _ I h) fun v s1 hq9=>?_) I.quiet hs;obtain⟨x,H1,I1,r1,q1⟩:=hq9;exact⟨σ,H1,I1,q1⟩
def tRet (te:TE):TS:=fun D σ H=>te σ H D.rt
theorem aF(he:PE X e te):PS X (.Return (some e) pos) (tRet te):=by
 intro pins s σ H D I h;refine wpAny_Return_some (thn (he pins s σ H _ I h) fun v s1 hq10=>?_);obtain⟨x,H1,I1,r1,q1⟩:=hq10;exact⟨x,σ,H1,I1,r1,q1⟩
def tIfS (c:TT)(t u:TS):TS:=fun D σ H=>c σ H fun b H1=>if b=true then t D σ H1 else u D σ H1
theorem br{c:Expr}{a b:List Stmt}{tc:TT}(hc:PT X c tc)(ha:PSs X a t)(hb:PSs X b u):PS X (.If c a b pos) (tIfS tc t u):=by
 intro pins s σ H D I h;refine wpAny_If (thn (hc pins s σ H _ I h) fun d s1 hq11=>?_);obtain⟨H1,I1,q1⟩:=hq11;cases d with
 |true=>exact ha pins s1 σ H1 D I1 q1
 |false=>exact hb pins s1 σ H1 D I1 q1
def KI:TS:=fun _ _ _=>False
theorem nO{sts:List Stmt}:PSs X sts KI:=fun _ _ _ _ _ _ h=>h.elim
end
abbrev TG:=V->St->Hp->(St->Hp->Prop)->Prop
abbrev TGs:=List V->St->Hp->(St->Hp->Prop)->Prop
def PG (X:Cx)(target:Expr)(t:TG):Prop:=
 ∀(pins:List (Addr×Obj))(s:Shared)(σ:St)(H:Hp)(v:V)(u:Value)(Q:St->Hp->Prop),Inv X pins σ H s->RelV v u->t v σ H Q ->
  (wq X) (assign target X.env u) (fun _ s'=>∃σ' H',Inv X pins σ' H' s'/\Q σ' H') X.xe s
def PGs (X:Cx)(ts:List Expr)(t:TGs):Prop:=
 ∀(pins:List (Addr×Obj))(s:Shared)(σ:St)(H:Hp)(vs:List V)(us:List Value)(Q:St->Hp->Prop),Inv X pins σ H s->Vals vs us->t vs σ H Q ->
  (wq X) (assignInOrder ((assignEach ts X.env).map (·.2)) us) (fun _ s'=>∃σ' H',Inv X pins σ' H' s'/\Q σ' H') X.xe s
abbrev Lj:=V->V->V->Hp->(Hp->Prop)->Prop
def wa (X:Cx)(t:Lj):Prop:=
 ∀(pins:List (Addr×Obj))(s:Shared)(σ:St)(H:Hp)(o i v:V)(ov iv u:Value)(Q:Hp->Prop),Inv X pins σ H s->RelV o ov->RelV i iv->RelV v u->t o i v H Q ->
  (wq X) (setItem ov iv u) (fun _ s'=>∃H',Inv X pins σ H' s'/\Q H') X.xe s
section
variable {X:Cx}{pos:Pos}
def lY (i:Nat):TG:=fun v σ H Q=>Q (σ.set i (some v)) H
theorem au{i:Nat}{x:Str}(hN:X.N.Nodup)(hi:X.N[i]?=some x)(hx:Loc X.env.scope x)(hf:X.fn x=true\/X.env.scope.names.lookup x=some .local:=by first|exact .inl rfl|exact .inr rfl|assumption):PG X (.Name x pos) (lY i):=by
 intro pins s σ H v u Q I r h;exact wpAny_assign_Name (dA I hN hi hx r (fun s' I'=>⟨_,H,I',h⟩) hf)
def gNil:TGs:=fun vs σ H Q=>vs=[]/\Q σ H
def vw (t:TG)(u:TGs):TGs:=fun vs σ H Q=>∃v r,vs=v::r/\t v σ H fun σ' H'=>u r σ' H' Q
theorem EV:PGs X [] gNil:=by
 intro pins s σ H vs us Q I r h;obtain⟨e,h⟩:=h;subst e;cases r;exact assignInOrder_nil ⟨σ,H,I,h⟩
theorem aB{e:Expr}{es:List Expr}{t:TG}{u:TGs}(h1:PG X e t)(h2:PGs X es u)
  (hs:(assignEach (e::es) X.env).map (·.2)=assign e X.env::(assignEach es X.env).map (·.2):=by rfl):PGs X (e::es) (vw t u):=by
 intro pins s σ H vs us Q I r h;obtain⟨v,vr,e1,h⟩:=h;subst e1;cases r with
 |cons r rr=>
  rw[hs];refine assignInOrder_cons (thn (h1 pins s σ H _ _ _ I r h) fun _ s1 hq12=>?_);obtain⟨σ1,H1,I1,q1⟩:=hq12;exact h2 pins s1 σ1 H1 _ _ Q I1 rr q1
def vY (K:W.Frag)(n:Nat)(t:TGs):TG:=fun v σ H Q=>∃a xs,v=.ref a/\SqT K H a xs/\xs.length=n/\t xs σ H Q
theorem fq{es:List Expr}{k:Nat}{t:TGs}{n:Nat}(hc:X.calm=true)(h:PGs X es t)
  (hn:(assignEach es X.env).length=n:=by rfl)(hst:(assignEach es X.env).findIdx? (·.1)=none:=by rfl):PG X (.Tuple es k pos) (vY X.K n t):=by
 intro pins s σ H v u Q I r hw;obtain⟨a,xs,e1,hq,hl,hw⟩:=hw;subst e1;cases r;obtain⟨its,rv,ht,hz⟩:=I.tuple hq;refine assign_Tuple_tuple (I.ok.hd hc) ht (by simp[hn,<- hl,rv.length]) hst fun h' hx=>?_;have I1:Inv X pins σ H {s with heap:=h'}:=I.kept (t':=s.toks) fun b o e=>hx b o (AZ (Eg e)) e;exact h pins _ σ H xs _ Q I1 (by simpa using rv) hw
def gSub (to ti:TE)(t:Lj):TG:=fun v σ H Q=>to σ H fun o H1=>ti σ H1 fun i H2=>t o i v H2 fun H3=>Q σ H3
theorem qC{o i:Expr}{to ti:TE}{t:Lj}(ho:PE X o to)(hi:PE X i ti)(hs:wa X t)
  (ha:∀v,assign (.Subscript o i pos) X.env v=(do
   let ov <- holding [v] (eval o X.env)
   let iv <- holding [v,ov] (eval i X.env)
   standAt pos
   holding [v,ov,iv] (setItem ov iv v)
   release [v,ov,iv] []):=by intro _; rfl):PG X (.Subscript o i pos) (gSub to ti t):=by
 intro pins s σ H v u Q I r h;rw[ha];refine DU (Ee (thn (ho pins s σ H _ I h) fun ov s1 hq13=>?_));obtain⟨x,H1,I1,r1,q1⟩:=hq13;refine DU (Ee (thn (hi pins s1 σ H1 _ I1 q1) fun iv s2 hq14=>?_));obtain⟨y,H2,I2,r2,q2⟩:=hq14;refine DU (wpAny_standAt (DU (Ee (thn (hs pins s2 σ H2 x y v ov iv u _ I2 r1 r2 r q2) fun _ s3 hq15=>?_))));obtain⟨H3,I3,q3⟩:=hq15;exact wpAny_release ⟨σ,H3,I3,q3⟩
def vN (te:TE)(g:TG):TS:=fun D σ H=>te σ H fun x H1=>g x σ H1 D.nx
theorem fK{tg e:Expr}{te:TE}{g:TG}(he:PE X e te)(hg:PG X tg g)(hs:swapsWithSole [tg] e pos.line X.env=pure false:=by rfl)(hw:swappedStores [tg] e X.env=pure none:=by rfl)
  (h1:(assignEach [tg] X.env).map (·.2)=[assign tg X.env]:=by rfl):PS X (.Assign [tg] e pos) (vN te g):=by
 intro pins s σ H D I h;refine wpAny_Assign_stores (thn (he pins s σ H _ I h) fun v s1 hq16=>?_) hs hw;obtain⟨x,H1,I1,r1,q1⟩:=hq16;rw[h1];exact thn (hg pins s1 σ H1 x v _ I1 r1 q1) fun _ s2 q=>q
theorem aw{i:Nat}{x:Str}{e:Expr}{te:TE}{pos':Pos}(hN:X.N.Nodup)(hi:X.N[i]?=some x)(hx:Loc X.env.scope x)(he:PE X e te)(hs:swapsWith e (some (.Name x pos')) pos.line X.env=pure false:=by rfl)(hf:X.fn x=true\/X.env.scope.names.lookup x=some .local:=by first|exact .inl rfl|exact .inr rfl|assumption) :
  PS X (.Assign [.Name x pos'] e pos) (vN te (lY i)):=by
 intro pins s σ H D I h;refine wpAny_Assign_Name (thn (he pins s σ H _ I h) fun v s1 hq17=>?_) hs;obtain⟨y,H1,I1,r1,q1⟩:=hq17;exact dA I1 hN hi hx r1 (fun s2 I2=>⟨_,H1,I2,q1⟩) hf
def tPar (i j:Nat)(ta:TA):TS:=fun D σ H=>ta σ H fun vs H1=>∃v w,vs=[v,w]/\D.nx ((σ.set i (some v)).set j (some w)) H1
theorem qu{i j:Nat}{x y:Str}{a b:Expr}{ta:TA}{px py pt:Pos}{kt k2 pt2}(hc:X.calm=true)(hN:X.N.Nodup)(hi:X.N[i]?=some x)(hj:X.N[j]?=some y)(hij:i≠j)
  (hx:X.env.scope.names.lookup x=some .local)(hy:X.env.scope.names.lookup y=some .local)(ha:PA X [a,b] ta)
  (hw:swappedStores [.Tuple [.Name x px,.Name y py] kt pt] (.Tuple [a,b] k2 pt2) X.env=pure (some [x,y]))
  (hs:swapsWithSole [.Tuple [.Name x px,.Name y py] kt pt] (.Tuple [a,b] k2 pt2) pos.line X.env=pure false:=by rfl) :
  PS X (.Assign [.Tuple [.Name x px,.Name y py] kt pt] (.Tuple [a,b] k2 pt2) pos) (tPar i j ta):=by
 intro pins s σ H D I h;rw[exec_Assign_arm];refine DU (wpAny_standAt ?_);rw[hs];refine DU (DV ?_);rw[DY (by decide)];refine DU (Tuple_ (thn (ha _ pins s σ H _ I h) fun us s1 hq18=>?_));obtain⟨vs,H1,I1,r1,q1⟩:=hq18;obtain⟨v,w,e1,q1⟩:=q1;subst e1;obtain⟨u1,u2,rfl,rv,rw'⟩:∃u1 u2,us=[u1,u2]/\RelV v u1/\RelV w u2:=by
  cases r1 with
  |cons p q=>
   cases q with
   |cons p' q'=>
    cases q';exact⟨_,_,rfl,p,p'⟩
 refine wpAny_newObj_type ?_ (by show 2<=sizeLine;decide);have I2:Inv X pins σ H1 {s1 with heap:=s1.heap.push {cls:=.type "tuple",data:=.seq [u1,u2].toArray}}:=I1.kept (t':=s1.toks) fun b o e=>Es _ e;rw[hw];refine DU (DV ?_);show (wq X) (do rule "assign.swapped-stores";let items <- unpackItems (.ref s1.heap.objs.size) 2 none;assignInOrder [fun v=>bindName X.env y v,fun v=>bindName X.env x v] items.reverse;pure Flow.next) _ _ _;refine DU (EB (DU (unpackItems_tuple (items:=#[u1,u2]) (I.ok.hd hc) (IsTup.new s1.heap _) fun h' hx'=>?_)));have I3:=I2.kept (h':=h') (t':=s1.toks) fun b o e=>hx' b o (AZ (Eg e)) e;show wpAny _ _ (assignInOrder [fun v=>bindName X.env y v,fun v=>bindName X.env x v] [u2,u1] >>= fun _=>pure Flow.next) _ _ _;refine DU (assignInOrder_cons (wpAny_bindName (dA I3 hN hj (.inl hy) rw' (fun s2 I4=>?_) (.inr hy))));refine assignInOrder_cons (wpAny_bindName (dA I4 hN hi (.inl hx) rv (fun s3 I5=>assignInOrder_nil (DV ?_)) (.inr hx)));rw[List.set_comm _ _ (Er hij)] at I5;exact⟨_,H1,I5,q1⟩
def tQ (c:TT)(tb:TS):TS:=fun D σ H=>∃W:Nat->St->Hp->Prop,(∃m,W m σ H)/\∀m σ H,W m σ H ->
 c σ H fun b H1=>if b=true then ∃N:St->Hp->Prop,(∀σ' H',N σ' H'->∃m',m'<m/\W m' σ' H')/\tb {D with nx:=N,ct:=N,bk:=D.nx} σ H1 else D.nx σ H1
theorem gE{c:Expr}{body:List Stmt}{tc:TT}{tb:TS}(hp:PassesOwn (model X.prog X.w) X.A X.env X.xe)(hc:PT X c tc)(hb:PSs X body tb):PS X (.While c body [] pos) (tQ tc tb):=by
 intro pins s σ H D I h;obtain⟨W,⟨m0,w0⟩,turn⟩:=h;refine wpAny_While (codeAny_whileLoop (fun n s'=>∃σ' H',Inv X pins σ' H' s'/\W n σ' H') ?_ m0 ⟨σ,H,I,w0⟩);rintro n s1 ⟨σ1,H1,I1,w1⟩;refine wpAny_passesOwn hp (thn (hc pins s1 σ1 H1 _ I1 (turn n σ1 H1 w1)) fun b s2 hq19=>?_);obtain⟨H2,I2,q2⟩:=hq19;cases b with
 |true=>
  obtain⟨N,hN,q2⟩:=q2;rw[DZ rfl];refine wpAny_passesOwn hp (thn (hb pins s2 σ1 H2 _ I2 q2) fun f s3 q3=>?_);cases f with
  |next=>
   obtain⟨σ3,H3,I3,n3⟩:=q3;obtain⟨m',hm,w3⟩:=hN σ3 H3 n3;exact⟨m',hm,σ3,H3,I3,w3⟩
  |cont=>
   obtain⟨σ3,H3,I3,n3⟩:=q3;obtain⟨m',hm,w3⟩:=hN σ3 H3 n3;exact⟨m',hm,σ3,H3,I3,w3⟩
  |brk=>exact q3
  |ret v=>exact q3
 |false=>
  rw[DY Bt];exact wpAny_execs_nil ⟨σ1,H2,I2,q2⟩
end
structure It where
 go:Nat->Hp->Prop
 yld:Nat->Hp->V->Hp->Prop
 stop:Nat->Hp->Prop
def EW (X:Cx)(pins:List (Addr×Obj))(H:Hp)(b:Addr):Prop:=
 H b=none/\b≠X.env.locals/\b∉X.fs/\(b∈X.ex\/X.s₀.heap.get? b=none)/\(∀x c,X.env.cells.lookup x=some c->c≠b)/\∀p∈X.pn++pins,p.1≠b
theorem Inv.IJ{X:Cx}{pins:List (Addr×Obj)}{σ:St}{H H':Hp}{s:Shared}{b:Addr}(I:Inv X pins σ H s)(hb:s.heap.objs.size<=b)(hn:H' b=none):EW X pins H' b:=by
 refine⟨hn,CO (Bc I.lt hb),I.nofs hb,.inr (Heap.get?_none_of_le (Bm I.sz hb)),fun x c e z=>?_,fun p hp z=>?_⟩
 ·obtain⟨v,q⟩:=I.cell x c e;exact absurd (Bc q.lt (by rw[z];exact hb)) (Bx _)
 ·exact absurd (Bc (Eg (I.pin p hp).1) (by rw[z];exact hb)) (Bx _)
structure Turn(P:Program)(w:World)(K:W.Frag)(tg:Expr)(J:It)(fp:List Addr)(it:Addr)(tn:Nat->Heap->Prop):Prop where
 mem:it∈fp
 obj:∀i h,tn i h->∀b∈fp,∃o,h.get? b=some o/\∀v,o.data≠.cell v
 keep:∀i h h',tn i h->(∀b∈fp,∀o,h.get? b=some o->h'.get? b=some o)->tn i h'
 item:∀(X:Cx),X.prog=P->X.w=w->X.K=K->X.calm=true->∀(i:Nat)(pins:List (Addr×Obj))(s:Shared)(σ:St)(H:Hp)(E:Value->Shared->Prop),Inv X pins σ H s->(∀b∈fp,EW X pins H b)->tn i s.heap->J.go i H ->
  wpAny (model P w) X.A (pyNext (.ref it)) (fun r s1=>∃u,r=some u /\
   wpAny (model P w) X.A (letOwnedTupleGo tg (.ref it) u) (fun _ s2=>∃x H',Inv X pins σ H' s2/\RelV x u/\J.yld i H x H'/\tn (i+1) s2.heap/\∀b∈fp,H' b=none) E s1) E s
 done:∀(X:Cx),X.prog=P->X.w=w->X.K=K->X.calm=true->∀(i:Nat)(pins:List (Addr×Obj))(s:Shared)(σ:St)(H:Hp)(E:Value->Shared->Prop),Inv X pins σ H s->(∀b∈fp,EW X pins H b)->tn i s.heap->J.stop i H ->
  wpAny (model P w) X.A (pyNext (.ref it)) (fun r s1=>r=none/\Inv X pins σ H s1) E s
 self:∀(A:Around)(i:Nat)(s:Shared)(Q:Value->Shared->Prop)(E:Value->Shared->Prop),tn i s.heap->Q (.ref it) s->wpAny (model P w) A (pyIter (.ref it)) Q E s
abbrev TI:=St->Hp->(It->Hp->Prop)->Prop
def PIE (X:Cx)(pins:List (Addr×Obj))(σ:St)(tg:Expr)(R:It->Hp->Prop)(itv:Value)(s2:Shared):Prop:=
 ∃(it:Addr)(fp:List Addr)(tn:Nat->Heap->Prop)(J:It)(H':Hp),itv=.ref it/\Inv X pins σ H' s2/\Turn X.prog X.w X.K tg J fp it tn/\tn 0 s2.heap/\(∀b∈fp,EW X pins H' b)/\R J H'
def PI (X:Cx)(tg iter:Expr)(wi:TI):Prop:=
 ∀(pins:List (Addr×Obj))(s:Shared)(σ:St)(H:Hp)(R:It->Hp->Prop),Inv X pins σ H s->wi σ H R ->
  (wq X) (eval iter X.env) (fun v s1=>(wq X) (pyIter v) (PIE X pins σ tg R) X.xe s1) X.xe s
theorem lg{M:Model}{A:Around}{E:Value->Shared->Prop}{s:Shared}{tg:Expr}{it:Addr}{u:Value}{o:Obj}{n:String}{vs:Array Value}{Q:Unit->Shared->Prop}(ho:s.heap.get? it=some o)(hc:o.cls=.type n)(hd:o.data=.fields vs)
    (hn:["enumerate","zip","dict_itemiterator","dict_reverseitemiterator","odict_iterator","itertools.zip_longest","itertools.pairwise"].contains n=false)(hQ:Q () s):wpAny M A (letOwnedTupleGo tg (.ref it) u) Q E s:=by
  unfold letOwnedTupleGo;cases tg<;>first
    |exact DV hQ
    | (cases u <;> first
        |exact DV hQ
        | (refine DU (wpAny_load ho ?_)
           rw[hc,hd];show wpAny M A (if (["enumerate","zip","dict_itemiterator","dict_reverseitemiterator","odict_iterator","itertools.zip_longest","itertools.pairwise"].contains n&&vs[0]?==some (rawInt _))=true then _ else _) Q E s;rw[DY (by intro h;rw[hn,Bool.false_and] at h;cases h)]
           exact DV hQ))
def Itl (K:W.Frag)(a:Addr):It:=
 ⟨fun i H=>∃xs x,SqL K H a xs/\xs[i]?=some x,fun i H x H'=>H'=H/\∀xs,SqL K H a xs->xs[i]?=some x,fun i H=>∃xs,SqL K H a xs/\xs.length<=i⟩
def Itt (K:W.Frag)(a:Addr):It:=
 ⟨fun i H=>∃xs x,SqT K H a xs/\xs[i]?=some x,fun i H x H'=>H'=H/\∀xs,SqT K H a xs->xs[i]?=some x,fun i H=>∃xs,SqT K H a xs/\xs.length<=i⟩
def Itr (lo:Int)(n:Nat):It:=⟨fun i _=>i<n,fun i H x H'=>H'=H/\x=.int (lo+i),fun i _=>n<=i⟩
theorem lT{P:Program}{w:World}{K:W.Frag}{tg:Expr}(a it:Addr):Turn P w K tg (Itl K a) [it] it (fun i h=>h.IsListIter it a i) where
 mem:=by simp
 obj:=fun i h st b hb=>by
  have e:b=it:=by simpa using hb
  subst e;obtain⟨o,e,c,d⟩:=st;exact⟨o,e,fun v z=>by rw[d] at z;cases z⟩
 keep:=fun i h h' st k=>st.at fun o e=>k it (by simp) o e
 item:=by
  intro X hP hw hK hc i pins s σ H E I hf st hg;subst hP hw hK;obtain⟨xs,x,hq,hx⟩:=hg;obtain⟨its,rv,p,hz⟩:=I.list hq;obtain⟨u,hu,ru⟩:=rv.get hx;obtain⟨f0,f1,f2,f3,f4,f5⟩:=hf it (by simp);refine wpAny_pyNext_list_item st p.isList (x:=u) (by simpa using hu) fun h' st' sb=>?_;have I1:Inv X pins σ H {s with heap:=h'}:=I.turned (t':=s.toks) (fun b o hb e=>(sb.2 b hb).trans e) f0 f1 f3 f4 f5;obtain⟨o,e,c,d⟩:=id st';exact⟨u,rfl,lg (s:={s with heap:=h'}) e c d (by decide) ⟨x,H,I1,ru,⟨rfl,fun ys hy=>by rw[I.HM hy hq];exact hx⟩,st',fun b hb=>(hf b hb).1⟩⟩
 done:=by
  intro X hP hw hK hc i pins s σ H E I hf st hg;subst hP hw hK;obtain⟨xs,hq,hx⟩:=hg;obtain⟨its,rv,p,hz⟩:=I.list hq;obtain⟨f0,f1,f2,f3,f4,f5⟩:=hf it (by simp);have hl:=rv.length;exact wpAny_pyNext_list_end (I.ok.hd hc) st p.isList (by simp;lia) fun h' eb=>⟨rfl,I.turned (t':=s.toks) (fun b o hb e=>eb b o hb e) f0 f1 f3 f4 f5⟩
 self:=fun _ _ _ _ _ st h=>wpAny_pyIter_listiter st h
theorem kF{P:Program}{w:World}{K:W.Frag}{tg:Expr}(a it:Addr):Turn P w K tg (Itt K a) [it] it (fun i h=>h.IsTupleIter it a i) where
 mem:=by simp
 obj:=fun i h st b hb=>by
  have e:b=it:=by simpa using hb
  subst e;obtain⟨o,e,c,d⟩:=st;exact⟨o,e,fun v z=>by rw[d] at z;cases z⟩
 keep:=fun i h h' st k=>st.at fun o e=>k it (by simp) o e
 item:=by
  intro X hP hw hK hc i pins s σ H E I hf st hg;subst hP hw hK;obtain⟨xs,x,hq,hx⟩:=hg;obtain⟨its,rv,p,hz⟩:=I.tuple hq;obtain⟨u,hu,ru⟩:=rv.get hx;obtain⟨f0,f1,f2,f3,f4,f5⟩:=hf it (by simp);refine wpAny_pyNext_tuple_item st (show s.heap.IsTuple a its.toArray from p) (x:=u) (by simpa using hu) fun h' st' sb=>?_;have I1:Inv X pins σ H {s with heap:=h'}:=I.turned (t':=s.toks) (fun b o hb e=>(sb.2 b hb).trans e) f0 f1 f3 f4 f5;obtain⟨o,e,c,d⟩:=id st';exact⟨u,rfl,lg (s:={s with heap:=h'}) e c d (by decide) ⟨x,H,I1,ru,⟨rfl,fun ys hy=>by rw[I.Io hy hq];exact hx⟩,st',fun b hb=>(hf b hb).1⟩⟩
 done:=by
  intro X hP hw hK hc i pins s σ H E I hf st hg;subst hP hw hK;obtain⟨xs,hq,hx⟩:=hg;obtain⟨its,rv,p,hz⟩:=I.tuple hq;obtain⟨f0,f1,f2,f3,f4,f5⟩:=hf it (by simp);have hl:=rv.length;exact wpAny_pyNext_tuple_end (I.ok.hd hc) st (show s.heap.IsTuple a its.toArray from p) (by simp;lia) fun h' eb=>⟨rfl,I.turned (t':=s.toks) (fun b o hb e=>eb b o hb e) f0 f1 f3 f4 f5⟩
 self:=fun _ _ _ _ _ st h=>wpAny_pyIter_tupleiter st h
theorem kQ{P:Program}{w:World}{K:PySem.W.Frag}{tg:Expr}(it:Addr)(lo:Int)(n:Nat):Turn P w K tg (Itr lo n) [it] it (fun i h=>IsRangeIter h it (lo+(i:Nat)*1) ((n:Int)-(i:Nat)) 1) where
 mem:=by simp
 obj:=fun i h st b hb=>by
  have e:b=it:=by simpa using hb
  subst e
  exact⟨_,st,fun v z=>by
   have z':Data.fields _=Data.cell v:=z
   cases z'⟩
 keep:=fun i h h' st k=>k it (by simp) _ st
 item:=by
  intro X hP hw hK hc i pins s σ H E I hf st hg;subst hP hw hK;obtain⟨f0,f1,f2,f3,f4,f5⟩:=hf it (by simp);have W:=Walks.range (prog:=X.prog) (w:=X.w) (I.ok.hd hc) it lo 1 n;refine W.item i s _ _ hg st fun v h' tk hv st' kk=>?_;obtain⟨t,rfl⟩:=hv;have I1:Inv X pins σ H {s with heap:=h',toks:=tk}:=I.turned (fun b o hb e=>kk b o (by simpa using hb) e) f0 f1 f3 f4 f5;refine⟨_,rfl,lg (s:={s with heap:=h',toks:=tk}) (n:="range_iterator") st' rfl rfl (by decide) ⟨.int (lo+i),H,I1,⟨t,?_⟩,⟨rfl,rfl⟩,st',fun b hb=>(hf b hb).1⟩⟩;rw[Int.mul_one]
 done:=by
  intro X hP hw hK hc i pins s σ H E I hf st hg;subst hP hw hK;obtain⟨f0,f1,f2,f3,f4,f5⟩:=hf it (by simp);exact wpAny_pyNext_range_end (I.ok.hd hc) st (by have:n<=i:=hg;lia) fun h' eb=>⟨rfl,I.turned (t':=s.toks) (fun b o hb e=>eb b o hb e) f0 f1 f3 f4 f5⟩
 self:=fun _ _ _ _ _ st h=>wpAny_pyIter_rangeiter st h
section
variable {X:Cx}{tg:Expr}
def ua (K:W.Frag)(tl:TE):TI:=fun σ H R=>tl σ H fun x H1=>∃a,x=.ref a/\(∃xs,SqL K H1 a xs)/\R (Itl K a) H1
def iTup (K:W.Frag)(tl:TE):TI:=fun σ H R=>tl σ H fun x H1=>∃a,x=.ref a/\(∃xs,SqT K H1 a xs)/\R (Itt K a) H1
theorem aZ{l:Expr}{tl:TE}(hl:PE X l tl):PI X tg l (ua X.K tl):=by
 intro pins s σ H R I h;refine thn (hl pins s σ H _ I h) fun v s1 hq20=>?_;obtain⟨x,H1,I1,r1,q1⟩:=hq20;obtain⟨a,e,⟨xs,hq⟩,q⟩:=q1;subst e;cases r1;obtain⟨its,rv,p,hz⟩:=I1.list hq;refine wpAny_pyIter_list p.isList ?_;refine⟨s1.heap.objs.size,[s1.heap.objs.size],_,_,H1,rfl,I1.kept (t':=s1.toks) fun b o e=>Es _ e,lT a _,⟨_,Et _ rfl,rfl,rfl⟩,fun b hb=>?_,q⟩;have e:b=s1.heap.objs.size:=by simpa using hb
 subst e;exact I1.IJ (AW _) (I1.hok.fresh (AW _))
theorem qx{l:Expr}{tl:TE}(hl:PE X l tl):PI X tg l (iTup X.K tl):=by
 intro pins s σ H R I h;refine thn (hl pins s σ H _ I h) fun v s1 hq21=>?_;obtain⟨x,H1,I1,r1,q1⟩:=hq21;obtain⟨a,e,⟨xs,hq⟩,q⟩:=q1;subst e;cases r1;obtain⟨its,rv,p,hz⟩:=I1.tuple hq;refine wpAny_pyIter_tuple (show s1.heap.IsTuple a its.toArray from p) ?_;refine⟨s1.heap.objs.size,[s1.heap.objs.size],_,_,H1,rfl,I1.kept (t':=s1.toks) fun b o e=>Es _ e,kF a _,⟨_,Et _ rfl,rfl,rfl⟩,fun b hb=>?_,q⟩;have e:b=s1.heap.objs.size:=by simpa using hb
 subst e;exact I1.IJ (AW _) (I1.hok.fresh (AW _))
theorem jR{pins:List (Addr×Obj)}{σ:St}{H:Hp}{s:Shared}{R:It->Hp->Prop}{E:Value->Shared->Prop}{lo hi:Int}{t u v:Tok}{tk:Nat}(I:Inv X pins σ H s)(h1:-(2^62)<=lo)(h2:lo<2^62)(h3:-(2^62)<=hi)(h4:hi<2^62)
  (q:R (Itr lo (hi-lo).toNat) H):(wq X) (pyIter (.ref s.heap.objs.size)) (PIE X pins σ tg R) E {s with heap:=s.heap.push {cls:=.type "range",data:=.fields #[.int lo t,.int hi u,.int 1 v]},toks:=tk}:=by
 refine wpAny_pyIter_range (IsRange.new ..) (small_one h1 h2 h3 h4) ?_;have I1:Inv X pins σ H {s with heap:=s.heap.push {cls:=.type "range",data:=.fields #[.int lo t,.int hi u,.int 1 v]},toks:=tk}:=I.kept fun b o e=>Es _ e
 refine⟨(s.heap.push { cls:=.type "range",data:=.fields #[.int lo t,.int hi u,.int 1 v] }).objs.size,[(s.heap.push { cls:=.type "range",data:=.fields #[.int lo t,.int hi u,.int 1 v] }).objs.size],_,_,H,rfl,
  I1.kept (t':=tk) fun b o e=>Es _ e,kQ _ lo (hi-lo).toNat,?_,fun b hb=>?_,q⟩
 ·have e1:lo+((0:Nat):Int)*1=lo:=by simp
  have e2:(((hi-lo).toNat:Nat):Int)-((0:Nat):Int)=Builtin.Range.rangeSize lo hi 1:=by rw[rangeSize_one];split<;>lia
  show IsRangeIter _ _ (lo+((0:Nat):Int)*1) ((((hi-lo).toNat:Nat):Int)-((0:Nat):Int)) 1;rw[e1,e2];exact Et _ rfl
 ·have e:b=(s.heap.push {cls:=.type "range",data:=.fields #[.int lo t,.int hi u,.int 1 v]}).objs.size:=by simpa using hb
  subst e;exact I1.IJ (AW _) (I1.hok.fresh (AW _))
def vf (ta:TA):TI:=fun σ H R=>ta σ H fun vs H1=>∃j:Int,vs=[.int j]/\-(2^62)<=j/\j<2^62/\R (Itr 0 j.toNat) H1
def vL (ta:TA):TI:=fun σ H R=>ta σ H fun vs H1=>∃i j:Int,vs=[.int i,.int j]/\(-(2^62)<=i/\i<2^62/\-(2^62)<=j/\j<2^62)/\R (Itr i (j-i).toNat) H1
theorem bF{a:Expr}{ta:TA}{p pos:Pos}(hg:Gl X "range")(hm:X.mg "range"=none)(ha:PA X [a] ta)(hs:starEach [a] X.env=[(false,eval a X.env)]:=by rfl):PI X tg (.Call (.Name "range" p) [a] [] pos) (vf ta):=by
 intro pins s σ H R I h;refine Call_ (dG I hg hm boot_range (PyProof.Rows.callWith_type1 (thn (ha pos pins s σ H _ I h) fun us s1 hq22=>?_) hs rfl));obtain⟨vs,H1,I1,r1,q1⟩:=hq22;obtain⟨j,e,q1,q2,q⟩:=q1;subst e;cases r1 with
 |cons r rr=>
  cases rr;obtain⟨t,rfl⟩:=r;exact call_range_1 (jR I1 (by lia) (by lia) q1 q2 (by simpa using q))
theorem iw{a b:Expr}{ta:TA}{p pos:Pos}(hg:Gl X "range")(hm:X.mg "range"=none)(ha:PA X [a,b] ta)(hs:starEach [a,b] X.env=[(false,eval a X.env),(false,eval b X.env)]:=by rfl)(hs2:starEach [b] X.env=[(false,eval b X.env)]:=by rfl) :
  PI X tg (.Call (.Name "range" p) [a,b] [] pos) (vL ta):=by
 intro pins s σ H R I h;refine Call_ (dG I hg hm boot_range (PyProof.Rows.callWith_type1 (thn (ha pos pins s σ H _ I h) fun us s1 hq23=>?_) (by rw[hs,hs2]) (by rw[hs2];rfl)));obtain⟨vs,H1,I1,r1,q1⟩:=hq23;obtain⟨i,j,e,⟨q1,q2,q3,q4⟩,q⟩:=q1;subst e;cases r1 with
 |cons r rr=>
  cases rr with
  |cons r' rr=>
   cases rr;obtain⟨t,rfl⟩:=r;obtain⟨t',rfl⟩:=r';exact call_range_2 (jR I1 q1 q2 q3 q4 q)
def tFor (wi:TI)(g:TG)(tb:TS):TS:=fun D σ H=>wi σ H fun J H1=>∃W:Nat->Nat->St->Hp->Prop,(∃m,W 0 m σ H1)/\∀i m σ H,W i m σ H ->
 (J.stop i H/\D.nx σ H)\/(J.go i H/\∃N:St->Hp->Prop,(∀σ' H',N σ' H'->∃m',m'<m/\W (i+1) m' σ' H')/\∀x H',J.yld i H x H'->g x σ H' fun σ2 H2=>tb {D with nx:=N,ct:=N,bk:=D.nx} σ2 H2)
def bO (fp:List Addr)(h:Heap):List (Addr×Obj):=fp.filterMap fun b=>(h.get? b).map fun o=>(b,o)
theorem aS{fp:List Addr}{h:Heap}{b:Addr}{o:Obj}(hb:b∈fp)(e:h.get? b=some o):(b,o)∈bO fp h:=Cz.mpr ⟨b,hb,by rw[e];rfl⟩
theorem gY{fp:List Addr}{h:Heap}{p:Addr×Obj}(hp:p∈bO fp h):p.1∈fp/\h.get? p.1=some p.2:=by
 obtain⟨b,hb,e⟩:=Cz.mp hp;cases q:h.get? b with
 |none=>rw[q] at e;cases e
 |some o=>
  rw[q] at e;have e':(b,o)=p:=Eh e;subst e';exact⟨hb,q⟩
theorem Inv.pinned{pins:List (Addr×Obj)}{σ:St}{H:Hp}{s:Shared}{fp:List Addr}(I:Inv X pins σ H s)(hf:∀b∈fp,EW X pins H b)(ho:∀b∈fp,∃o,s.heap.get? b=some o/\∀v,o.data≠.cell v):Inv X (pins++bO fp s.heap) σ H s:=
 I.Fo fun p hp=>(Bb.mp hp).elim (fun z=>I.pin p (AY _ z)) fun z=>by
  obtain⟨hb,e⟩:=gY z;obtain⟨f0,f1,f2,_⟩:=hf p.1 hb;obtain⟨o,e',d⟩:=ho p.1 hb;rw[e] at e';cases e';exact⟨e,f0,f1,f2,d⟩
theorem Inv.ES{pins pl:List (Addr×Obj)}{σ:St}{H:Hp}{s:Shared}(I:Inv X (pins++pl) σ H s):Inv X pins σ H s:=I.Fo fun p hp=>I.pin p (AY _ (Bn _ hp))
theorem dC{iter:Expr}{body:List Stmt}{wi:TI}{g:TG}{tb:TS}{pos:Pos}(hp:PassesOwn (model X.prog X.w) X.A X.env X.xe)(hc:X.calm=true)(hi:PI X tg iter wi)(hg:PG X tg g)(hb:PSs X body tb)
  (hs:∀x,foldedSetIterable iter X.env x=pure x:=by intro _;rfl):PS X (.For tg iter body [] pos) (tFor wi g tb):=by
 intro pins s σ H D I h;refine wpAny_For (thn (hi pins s σ H _ I h) fun v s1 h1=>thn h1 fun itv s2 h2=>?_) hs;obtain⟨it,fp,tn,J,H2,e,I2,T,st2,f2,W,⟨m0,w0⟩,turn⟩:=h2;subst e;have stat:∀{H':Hp},(∀b∈fp,H' b=none)->∀b∈fp,EW X pins H' b:=fun hn b hb=>⟨hn b hb,(f2 b hb).2⟩
 refine codeAny_forLoop_any (fun n s'=>∃i σ' H',Inv X pins σ' H' s'/\tn i s'.heap/\(∀b∈fp,H' b=none)/\W i n σ' H') ?_ m0 ⟨0,σ,H2,I2,st2,fun b hb=>(f2 b hb).1,w0⟩;rintro n s3 ⟨i,σ3,H3,I3,st3,fr3,w3⟩;rcases turn i n σ3 H3 w3 with ⟨stop,qn⟩|⟨go,N,hN,step⟩
 ·refine wpAny_passesOwn hp (thn (T.done X rfl rfl rfl hc i pins s3 σ3 H3 X.xe I3 (stat fr3) st3 stop) fun r s4 hq24=>?_);obtain⟨hr,I4⟩:=hq24;subst hr;exact wpAny_execs_nil ⟨σ3,H3,I4,qn⟩
 ·refine wpAny_passesOwn hp (thn (T.item X rfl rfl rfl hc i pins s3 σ3 H3 X.xe I3 (stat fr3) st3 go) fun r s4 hq25=>?_);obtain⟨u,hr,h4⟩:=hq25;subst hr;refine wpAny_passesOwn hp (thn h4 fun _ s5 hq26=>?_);obtain⟨x,H5,I5,r5,y5,st5,fr5⟩:=hq26;have I5':=I5.pinned (stat fr5) (T.obj _ _ st5);refine wpAny_passesOwn hp (thn (hg _ s5 σ3 H5 x u _ I5' r5 (step x H5 y5)) fun _ s6 hq27=>?_);obtain⟨σ6,H6,I6,q6⟩:=hq27;refine wpAny_passesOwn hp (thn (hb _ s6 σ6 H6 _ I6 q6) fun f s7 q7=>?_);have again:∀{σ7:St}{H7:Hp},Inv X (pins++bO fp s5.heap) σ7 H7 s7->N σ7 H7->∃m,m<n/\∃i σ' H',Inv X pins σ' H' s7/\tn i s7.heap/\(∀b∈fp,H' b=none)/\W i m σ' H':=fun {σ7 H7} I7 n7=>by
   obtain⟨m',hm,w7⟩:=hN σ7 H7 n7;refine⟨m',hm,i+1,σ7,H7,I7.ES,T.keep _ _ _ st5 fun b hb o e=>(I7.pin (b,o) (AY _ (AY _ (aS hb e)))).1,fun b hb=>?_,w7⟩;obtain⟨o,e,d⟩:=T.obj _ _ st5 b hb;exact(I7.pin (b,o) (AY _ (AY _ (aS hb e)))).2.1
  cases f with
  |next=>obtain⟨σ7,H7,I7,n7⟩:=q7;exact again I7 n7
  |cont=>obtain⟨σ7,H7,I7,n7⟩:=q7;exact again I7 n7
  |brk=>obtain⟨σ7,H7,I7,q7⟩:=q7;exact⟨σ7,H7,I7.ES,q7⟩
  |ret v=>obtain⟨x7,σ7,H7,I7,r7,q7⟩:=q7;exact⟨x7,σ7,H7,I7.ES,r7,q7⟩
end
theorem jP{K:PySem.W.Frag}{a:Addr}{xs:List V}{g:TG}{tb:TS}{D:Ends}{σ:St}{H:Hp}(Pv:Nat->St->Hp->Prop)(h0:Pv 0 σ H)(hl:∀i σ H,i<=xs.length->Pv i σ H->SqL K H a xs)
  (hs:∀i x σ H,xs[i]?=some x->Pv i σ H->g x σ H fun σ2 H2=>tb {D with nx:=Pv (i+1),ct:=Pv (i+1),bk:=D.nx} σ2 H2)(hd:∀σ H,Pv xs.length σ H->D.nx σ H) :
  ∃W:Nat->Nat->St->Hp->Prop,(∃m,W 0 m σ H)/\∀i m σ H,W i m σ H ->
   ((Itl K a).stop i H/\D.nx σ H)\/((Itl K a).go i H/\∃N:St->Hp->Prop,(∀σ' H',N σ' H'->∃m',m'<m/\W (i+1) m' σ' H')/\∀x H',(Itl K a).yld i H x H'->g x σ H' fun σ2 H2=>tb {D with nx:=N,ct:=N,bk:=D.nx} σ2 H2):=by
 refine⟨fun i m σ H=>m=xs.length-i/\i<=xs.length/\Pv i σ H,⟨xs.length,by simp,Bo _,h0⟩,?_⟩;rintro i m σ H ⟨rfl,hi,p⟩;have q:=hl i σ H hi p;by_cases hlt:i<xs.length
 ·refine .inr ⟨⟨xs,xs[i],q,by simp[hlt]⟩,Pv (i+1),fun σ' H' p'=>⟨xs.length-(i+1),by lia,rfl,hlt,p'⟩,fun x H' y=>?_⟩;obtain⟨e,y⟩:=y;subst e;exact hs i x σ _ (y xs q) p
 ·have e:i=xs.length:=by lia
  subst e;exact .inl ⟨⟨xs,q,AW _⟩,hd σ H p⟩
theorem rA{K:PySem.W.Frag}{a:Addr}{xs:List V}{g:TG}{tb:TS}{D:Ends}{σ:St}{H:Hp}(Pv:Nat->St->Hp->Prop)(h0:Pv 0 σ H)(hl:∀i σ H,i<=xs.length->Pv i σ H->SqT K H a xs)
  (hs:∀i x σ H,xs[i]?=some x->Pv i σ H->g x σ H fun σ2 H2=>tb {D with nx:=Pv (i+1),ct:=Pv (i+1),bk:=D.nx} σ2 H2)(hd:∀σ H,Pv xs.length σ H->D.nx σ H) :
  ∃W:Nat->Nat->St->Hp->Prop,(∃m,W 0 m σ H)/\∀i m σ H,W i m σ H ->
   ((Itt K a).stop i H/\D.nx σ H)\/((Itt K a).go i H/\∃N:St->Hp->Prop,(∀σ' H',N σ' H'->∃m',m'<m/\W (i+1) m' σ' H')/\∀x H',(Itt K a).yld i H x H'->g x σ H' fun σ2 H2=>tb {D with nx:=N,ct:=N,bk:=D.nx} σ2 H2):=by
 refine⟨fun i m σ H=>m=xs.length-i/\i<=xs.length/\Pv i σ H,⟨xs.length,by simp,Bo _,h0⟩,?_⟩;rintro i m σ H ⟨rfl,hi,p⟩;have q:=hl i σ H hi p;by_cases hlt:i<xs.length
 ·refine .inr ⟨⟨xs,xs[i],q,by simp[hlt]⟩,Pv (i+1),fun σ' H' p'=>⟨xs.length-(i+1),by lia,rfl,hlt,p'⟩,fun x H' y=>?_⟩;obtain⟨e,y⟩:=y;subst e;exact hs i x σ _ (y xs q) p
 ·have e:i=xs.length:=by lia
  subst e;exact .inl ⟨⟨xs,q,AW _⟩,hd σ H p⟩
theorem iB{lo:Int}{n:Nat}{g:TG}{tb:TS}{D:Ends}{σ:St}{H:Hp}(Pv:Nat->St->Hp->Prop)(h0:Pv 0 σ H)
  (hs:∀i σ H,i<n->Pv i σ H->g (.int (lo+i)) σ H fun σ2 H2=>tb {D with nx:=Pv (i+1),ct:=Pv (i+1),bk:=D.nx} σ2 H2)(hd:∀σ H,Pv n σ H->D.nx σ H) :
  ∃W:Nat->Nat->St->Hp->Prop,(∃m,W 0 m σ H)/\∀i m σ H,W i m σ H ->
   ((Itr lo n).stop i H/\D.nx σ H)\/((Itr lo n).go i H/\∃N:St->Hp->Prop,(∀σ' H',N σ' H'->∃m',m'<m/\W (i+1) m' σ' H')/\∀x H',(Itr lo n).yld i H x H'->g x σ H' fun σ2 H2=>tb {D with nx:=N,ct:=N,bk:=D.nx} σ2 H2):=by
 refine⟨fun i m σ H=>m=n-i/\i<=n/\Pv i σ H,⟨n,by simp,Bo _,h0⟩,?_⟩;rintro i m σ H ⟨rfl,hi,p⟩;by_cases hlt:i<n
 ·refine .inr ⟨hlt,Pv (i+1),fun σ' H' p'=>⟨n-(i+1),by lia,rfl,hlt,p'⟩,fun x H' y=>?_⟩;obtain⟨e,y⟩:=y;subst e y;exact hs i σ _ hlt p
 ·have e:i=n:=by lia
  subst e;exact .inl ⟨AW _,hd σ H p⟩
abbrev R2:=V->V->Hp->VK->Prop
def OpR (X:Cx)(f:Value->Value->Sem Value)(r:R2):Prop:=
 ∀(pins:List (Addr×Obj))(s:Shared)(σ:St)(H:Hp)(x y:V)(v u:Value)(Q:VK),Inv X pins σ H s->RelV x v->RelV y u->r x y H Q ->
  (wq X) (f v u) (EP X pins σ Q) X.xe s
def UnR (X:Cx)(f:Value->Sem Value)(r:V->Hp->VK->Prop):Prop:=
 ∀(pins:List (Addr×Obj))(s:Shared)(σ:St)(H:Hp)(x:V)(v:Value)(Q:VK),Inv X pins σ H s->RelV x v->r x H Q ->
  (wq X) (f v) (EP X pins σ Q) X.xe s
def cy (X:Cx)(f:Value)(r:List V->Hp->VK->Prop):Prop:=
 ∀(pins:List (Addr×Obj))(s:Shared)(σ:St)(H:Hp)(xs:List V)(us:List Value)(Q:VK),Inv X pins σ H s->Vals xs us->r xs H Q ->
  (wq X) (call f us) (EP X pins σ Q) X.xe s
def TruR (X:Cx)(r:V->Hp->(Bool->Hp->Prop)->Prop):Prop:=
 ∀(pins:List (Addr×Obj))(s:Shared)(σ:St)(H:Hp)(x:V)(v:Value)(Q:Bool->Hp->Prop),Inv X pins σ H s->RelV x v->r x H Q ->
  (wq X) (truthy v) (TP X pins σ Q) X.xe s
def tOp (r:R2)(ta tb:TE):TE:=fun σ H Q=>ta σ H fun x H1=>tb σ H1 fun y H2=>r x y H2 Q
def tUn (r:V->Hp->VK->Prop)(ta:TE):TE:=fun σ H Q=>ta σ H fun x H1=>r x H1 Q
def rI (C:Int->Int->Prop)(g:Int->Int->V):R2:=fun x y H Q=>∃i j,x=.int i/\y=.int j/\C i j/\Q (g i j) H
def rI0 (g:Int->Int->V):R2:=fun x y H Q=>∃i j,x=.int i/\y=.int j/\Q (g i j) H
def rU (g:Int->V):V->Hp->VK->Prop:=fun x H Q=>∃i,x=.int i/\Q (g i) H
section
variable {X:Cx}{a b c:Expr}{ta tb tc:TE}{pos:Pos}
theorem uK(ha:PE X a ta)(hb:PE X b tb){pins:List (Addr×Obj)}{s:Shared}{σ:St}{H:Hp}{R:V->V->Hp->Prop}(I:Inv X pins σ H s)
  (h:ta σ H fun x H1=>tb σ H1 fun y H2=>R x y H2){Q:Value->Shared->Prop}{f:Value->Value->Sem Value}
  (hf:∀v u s2 x y H2,Inv X pins σ H2 s2->RelV x v->RelV y u->R x y H2->(wq X) (f v u) Q X.xe s2) :
  (wq X) (eval a X.env) (fun v s₁=>(wq X) (eval b X.env) (fun u s₂=>(wq X) (f v u) Q X.xe s₂) X.xe s₁) X.xe s:=by
 refine thn (ha pins s σ H _ I h) fun v s1 hq28=>?_;obtain⟨x,H1,I1,r1,q1⟩:=hq28;refine thn (hb pins s1 σ H1 _ I1 q1) fun u s2 hq29=>?_;obtain⟨y,H2,I2,r2,q2⟩:=hq29;exact hf v u s2 x y H2 I2 r1 r2 q2
theorem aC{op:Operator}{r:R2}(ho:OpR X (binaryOp op) r)(ha:PE X a ta)(hb:PE X b tb):PE X (.BinOp a op b pos) (tOp r ta tb):=by
 intro pins s σ H Q I h;exact wpAny_BinOp (uK ha hb I h fun v u s2 x y H2 I2 rx ry q=>ho pins s2 σ H2 x y v u Q I2 rx ry q)
theorem jt{op:UnaryOp}{r:V->Hp->VK->Prop}(ho:UnR X (unaryOp op) r)(ha:PE X a ta):PE X (.UnaryOp op a pos) (tUn r ta):=by
 intro pins s σ H Q I h;refine UnaryOp_ (thn (ha pins s σ H _ I h) fun v s1 hq30=>?_);obtain⟨x,H1,I1,r1,q1⟩:=hq30;exact ho pins s1 σ H1 x v Q I1 r1 q1
theorem opI{f:Value->Value->Sem Value}{C:Int->Int->Prop}{g:Int->Int->Int}
  (rule:∀(i j:Int)(t u:Tok)(s:Shared)(Q:Value->Shared->Prop)(E:Value->Shared->Prop),C i j->Q (.int (g i j) s.toks) {s with toks:=s.toks+1}->(wq X) (f (.int i t) (.int j u)) Q E s) :
  OpR X f (rI C fun i j=>.int (g i j)):=by
 intro pins s σ H x y v u Q I rx ry h;obtain⟨i,j,rfl,rfl,hc,q⟩:=h;obtain⟨t,rfl⟩:=rx;obtain⟨t',rfl⟩:=ry;exact rule i j t t' s _ _ hc ⟨.int (g i j),H,I.tok _,⟨_,rfl⟩,q⟩
theorem vX{f:Value->Value->Sem Value}{g:Int->Int->Int}
  (rule:∀(i j:Int)(t u:Tok)(s:Shared)(Q:Value->Shared->Prop)(E:Value->Shared->Prop),Q (.int (g i j) s.toks) {s with toks:=s.toks+1}->(wq X) (f (.int i t) (.int j u)) Q E s) :
  OpR X f (rI0 fun i j=>.int (g i j)):=by
 intro pins s σ H x y v u Q I rx ry h;obtain⟨i,j,rfl,rfl,q⟩:=h;obtain⟨t,rfl⟩:=rx;obtain⟨t',rfl⟩:=ry;exact rule i j t t' s _ _ ⟨.int (g i j),H,I.tok _,⟨_,rfl⟩,q⟩
theorem uM{f:Value->Value->Sem Value}{g:Int->Int->Bool}
  (rule:∀(i j:Int)(t u:Tok)(s:Shared)(Q:Value->Shared->Prop)(E:Value->Shared->Prop),Q (.bool (g i j)) s->(wq X) (f (.int i t) (.int j u)) Q E s) :
  OpR X f (rI0 fun i j=>.bl (g i j)):=by
 intro pins s σ H x y v u Q I rx ry h;obtain⟨i,j,rfl,rfl,q⟩:=h;obtain⟨t,rfl⟩:=rx;obtain⟨t',rfl⟩:=ry;exact rule i j t t' s _ _ ⟨.bl (g i j),H,I,rfl,q⟩
def CDiv (i j:Int):Prop:=0<j/\j<1073741824
def CPow (i j:Int):Prop:=0<=j/\j<=1000000/\i.natAbs<2^64
def Lg (i j:Int):Prop:=(-(2^64)<i/\i<2^64)\/(-(2^64)<j/\j<2^64)
theorem Lg.ok{i j:Int}(h:Lg i j):IntMulOk i j:=by
 rcases h with ⟨h1,h2⟩|⟨h1,h2⟩
 ·exact .of_left (intBits_le_64 h1 h2)
 ·exact .of_right (intBits_le_64 h1 h2)
theorem EU:OpR X (binaryOp .Add) (rI0 fun i j=>.int (i+j)):=vX fun _ _ _ _ _ _ _ q=>add_int q
theorem Gi:OpR X (binaryOp .Sub) (rI0 fun i j=>.int (i-j)):=vX fun _ _ _ _ _ _ _ q=>sub_int q
theorem Fw:OpR X (binaryOp .Mult) (rI Lg fun i j=>.int (i*j)):=opI fun _ _ _ _ _ _ _ hc q=>mul_int q hc.ok
theorem Ih:OpR X (binaryOp .FloorDiv) (rI CDiv fun i j=>.int (i/j)):=opI fun i j _ _ _ _ _ hc q=>by
 have h1:(0:Int)<j:=hc.1;have h2:j<1073741824:=hc.2;exact floordiv_int (by lia) (by rw[DQ i (by lia)];exact q) (.inl (PyProof.noPylong_small (by lia)))
theorem Fx:OpR X (binaryOp .Mod) (rI (fun _ j=>0<j) fun i j=>.int (i % j)):=opI fun i j _ _ _ _ _ hc q=>by
 have h1:(0:Int)<j:=hc;exact mod_int' (by lia) (by rw[Int.fmod_eq_emod_of_nonneg i (by lia)];exact q)
theorem Gj:OpR X (binaryOp .Pow) (rI CPow fun i j=>.int (i^j.toNat)):=opI fun _ _ _ _ _ _ _ hc q=>pow_int_small hc.1 hc.2.1 hc.2.2 q
theorem unI{f:Value->Sem Value}{g:Int->Int}
  (rule:∀(i:Int)(t:Tok)(s:Shared)(Q:Value->Shared->Prop)(E:Value->Shared->Prop),Q (.int (g i) s.toks) {s with toks:=s.toks+1}->(wq X) (f (.int i t)) Q E s) :
  UnR X f (rU fun i=>.int (g i)):=by
 intro pins s σ H x v Q I rx h;obtain⟨i,rfl,q⟩:=h;obtain⟨t,rfl⟩:=rx;exact rule i t s _ _ ⟨.int (g i),H,I.tok _,⟨_,rfl⟩,q⟩
theorem FR:UnR X (unaryOp .USub) (rU fun i=>.int (-i)):=unI fun _ _ _ _ _ q=>neg_int q
end
def LH:V->V->Bool
 |.non,.non=>true|.non,.int _=>true|.int _,.non=>true|.non,.bl _=>true|.bl _,.non=>true|.non,.str _=>true|.str _,.non=>true
 |.int _,.int _=>true|.bl _,.bl _=>true|.str _,.str _=>true|.byt _,.byt _=>true
 |.int _,.str _=>true|.str _,.int _=>true|.bl _,.str _=>true|.str _,.bl _=>true
 |_,_=>false
def rEq:R2:=fun x y H Q=>LH x y=true/\Q (.bl (decide (x=y))) H
def rNe:R2:=fun x y H Q=>LH x y=true/\Q (.bl (!decide (x=y))) H
theorem cE{i j:Int}:decide (V.int i=V.int j)=(i==j):=by
 rw[Eu];simp
theorem qy{i j:Bool}:decide (V.bl i=V.bl j)=(i==j):=by
 rw[Eu];simp
theorem nE{i j:Str}:decide (V.str i=V.str j)=(i==j):=by
 rw[Eu];simp
theorem mh{i j:Array UInt8}:decide (V.byt i=V.byt j)=(i.toList==j.toList):=by
 rw[Eu];cases i;cases j;simp
section
variable {X:Cx}{a b c:Expr}{ta tb tc:TE}{pos:Pos}
theorem aY{pins:List (Addr×Obj)}{σ:St}{H:Hp}{s:Shared}{Q:VK}{k k':Bool}(I:Inv X pins σ H s)(q:Q (.bl k) H)(e:k=k'):EP X pins σ Q (.bool k') s:=by
 subst e;exact⟨.bl k,H,I,rfl,q⟩
theorem Fn:OpR X (compareOp .Eq) rEq:=by
 intro pins s σ H x y v u Q I rx ry h;obtain⟨hs,q⟩:=h;cases x with
 |non=>
  cases rx;cases y with
  |non=>cases ry;exact PySem.EqNone.eq_none_none (aY I q (by simp))
  |bl j=>cases ry;exact PySem.EqNone.eq_none_bool (aY I q (by simp))
  |int j=>obtain⟨t',rfl⟩:=ry;exact PySem.EqNone.eq_none_int (aY I q (by simp))
  |str j=>obtain⟨t',rfl⟩:=ry;exact PySem.EqNone.eq_none_str (aY I q (by simp))
  |_=>exact absurd (show false=true from hs) Bt
 |bl i=>
  cases rx;cases y with
  |non=>cases ry;exact PySem.EqNone.eq_bool_none (aY I q (by simp))
  |bl j=>cases ry;exact eq_bool (aY I q qy)
  |str j=>obtain⟨t',rfl⟩:=ry;exact PySem.EqMixed.eq_bool_str (aY I q (by simp))
  |_=>exact absurd (show false=true from hs) Bt
 |int i=>
  obtain⟨t,rfl⟩:=rx;cases y with
  |non=>cases ry;exact PySem.EqNone.eq_int_none (aY I q (by simp))
  |int j=>obtain⟨t',rfl⟩:=ry;exact eq_int (aY I q cE)
  |str j=>obtain⟨t',rfl⟩:=ry;exact PySem.EqMixed.eq_int_str (aY I q (by simp))
  |_=>exact absurd (show false=true from hs) Bt
 |str i=>
  obtain⟨t,rfl⟩:=rx;cases y with
  |non=>cases ry;exact PySem.EqNone.eq_str_none (aY I q (by simp))
  |bl j=>cases ry;exact PySem.EqMixed.eq_str_bool (aY I q (by simp))
  |int j=>obtain⟨t',rfl⟩:=ry;exact PySem.EqMixed.eq_str_int (aY I q (by simp))
  |str j=>obtain⟨t',rfl⟩:=ry;exact eq_str (aY I q nE)
  |_=>exact absurd (show false=true from hs) Bt
 |byt i=>
  obtain⟨t,rfl⟩:=rx;cases y with
  |byt j=>obtain⟨t',rfl⟩:=ry;exact W.eq_bytes (aY I q mh)
  |_=>exact absurd (show false=true from hs) Bt
 |_=>cases y<;>exact absurd (show false=true from hs) Bt
theorem JZ:OpR X (compareOp .NotEq) rNe:=by
 intro pins s σ H x y v u Q I rx ry h;obtain⟨hs,q⟩:=h;cases x with
 |non=>
  cases rx;cases y with
  |non=>cases ry;exact PySem.EqNone.ne_none_none (aY I q (by simp))
  |bl j=>cases ry;exact PySem.EqNone.ne_none_bool (aY I q (by simp))
  |int j=>obtain⟨t',rfl⟩:=ry;exact PySem.EqNone.ne_none_int (aY I q (by simp))
  |str j=>obtain⟨t',rfl⟩:=ry;exact PySem.EqNone.ne_none_str (aY I q (by simp))
  |_=>exact absurd (show false=true from hs) Bt
 |bl i=>
  cases rx;cases y with
  |non=>cases ry;exact PySem.EqNone.ne_bool_none (aY I q (by simp))
  |bl j=>cases ry;exact ne_bool (aY I q (congrArg not qy))
  |str j=>obtain⟨t',rfl⟩:=ry;exact PySem.EqMixed.ne_bool_str (aY I q (by simp))
  |_=>exact absurd (show false=true from hs) Bt
 |int i=>
  obtain⟨t,rfl⟩:=rx;cases y with
  |non=>cases ry;exact PySem.EqNone.ne_int_none (aY I q (by simp))
  |int j=>obtain⟨t',rfl⟩:=ry;exact ne_int (aY I q (congrArg not cE))
  |str j=>obtain⟨t',rfl⟩:=ry;exact PySem.EqMixed.ne_int_str (aY I q (by simp))
  |_=>exact absurd (show false=true from hs) Bt
 |str i=>
  obtain⟨t,rfl⟩:=rx;cases y with
  |non=>cases ry;exact PySem.EqNone.ne_str_none (aY I q (by simp))
  |bl j=>cases ry;exact PySem.EqMixed.ne_str_bool (aY I q (by simp))
  |int j=>obtain⟨t',rfl⟩:=ry;exact PySem.EqMixed.ne_str_int (aY I q (by simp))
  |str j=>obtain⟨t',rfl⟩:=ry;exact ne_str (aY I q (congrArg not nE))
  |_=>exact absurd (show false=true from hs) Bt
 |byt i=>
  obtain⟨t,rfl⟩:=rx;cases y with
  |byt j=>obtain⟨t',rfl⟩:=ry;exact W.ne_bytes (aY I q (congrArg not mh))
  |_=>exact absurd (show false=true from hs) Bt
 |_=>cases y<;>exact absurd (show false=true from hs) Bt
theorem IM:OpR X (compareOp .Lt) (rI0 fun i j=>.bl (decide (i<j))):=uM fun _ _ _ _ _ _ _ q=>lt_int q
theorem Iw:OpR X (compareOp .LtE) (rI0 fun i j=>.bl (decide (i<=j))):=uM fun _ _ _ _ _ _ _ q=>le_int q
theorem JR:OpR X (compareOp .Gt) (rI0 fun i j=>.bl (decide (j<i))):=uM fun _ _ _ _ _ _ _ q=>gt_int q
theorem IL:OpR X (compareOp .GtE) (rI0 fun i j=>.bl (decide (j<=i))):=uM fun _ _ _ _ _ _ _ q=>ge_int q
theorem Jf:OpR X (compareOp .Is) (fun x y H Q=>y=.non/\Q (.bl (decide (x=.non))) H):=by
 intro pins s σ H x y v u Q I rx ry h;obtain⟨rfl,q⟩:=h;cases ry;refine is_none_gen (aY I q ?_);cases x<;>first
  |(cases rx;rfl)
  |(obtain⟨t,rfl⟩:=rx;rfl)
theorem JP:OpR X (compareOp .IsNot) (fun x y H Q=>y=.non/\Q (.bl (!decide (x=.non))) H):=by
 intro pins s σ H x y v u Q I rx ry h;obtain⟨rfl,q⟩:=h;cases ry;refine isnot_none_gen (aY I q ?_);cases x<;>first
  |(cases rx;rfl)
  |(obtain⟨t,rfl⟩:=rx;rfl)
theorem aI(b:Expr){op:CmpOp}(h:op≠.In:=by decide)(h2:op≠.NotIn:=by decide):behindInMarks op b=false:=by
 have e1:(op==CmpOp.In)=false:=by cases op<;>first|rfl|exact absurd rfl h
 have e2:(op==CmpOp.NotIn)=false:=by cases op<;>first|rfl|exact absurd rfl h2
 cases b<;>simp[behindInMarks,e1,e2]
theorem ck{op:CmpOp}{r:R2}(ho:OpR X (compareOp op) r)(ha:PE X a ta)(hb:PE X b tb)(hm:behindInMarks op b=false):PE X (.Compare a [op] [b] pos) (tOp r ta tb):=by
 intro pins s σ H Q I h;exact wpAny_Compare1 (uK ha hb I h fun v u s2 x y H2 I2 rx ry q=>ho pins s2 σ H2 x y v u Q I2 rx ry q) hm
def tV (t:TE):TT:=fun σ H Q=>t σ H fun x H'=>∃k,x=.bl k/\Q k H'
theorem aG{op:CmpOp}{r:R2}(ho:OpR X (compareOp op) r)(ha:PE X a ta)(hb:PE X b tb)(hm:behindInMarks op b=false):PT X (.Compare a [op] [b] pos) (tV (tOp r ta tb)):=by
 intro pins s σ H Q I h
 refine wpAny_isTrue_Compare1 (thn (ha pins s σ H _ I h) fun v s1 ⟨x,H1,I1,r1,q1⟩=>thn (hb pins s1 σ H1 _ I1 q1) fun u s2 ⟨y,H2,I2,r2,q2⟩ =>
  thn (ho pins s2 σ H2 x y v u _ I2 r1 r2 q2) fun c s3 ⟨z,H3,I3,r3,k,e,q3⟩=>?_) hm
 subst e;cases r3;exact wpAny_truthy_bool ⟨H3,I3,q3⟩
def uA (r r':R2)(ta tb tc:TE):TE:=fun σ H Q=>ta σ H fun x H1=>tb σ H1 fun y H2=>r x y H2 fun z H3=>∃k,z=.bl k /\
 (if k=true then tc σ H3 fun w' H4=>r' y w' H4 Q else Q (.bl false) H3)
theorem ko{op op':CmpOp}{r r':R2}(ho:OpR X (compareOp op) r)(ho':OpR X (compareOp op') r')(ha:PE X a ta)(hb:PE X b tb)(hc:PE X c tc)
  (hm:lastMarks [op,op'] [b,c]=false:=by with_unfolding_all rfl):PT X (.Compare a [op,op'] [b,c] pos) (tV (uA r r' ta tb tc)):=by
 intro pins s σ H Q I h
 refine isTrue_chain (thn (ha pins s σ H _ I h) fun v s1 ⟨x,H1,I1,r1,q1⟩=>test_link (thn (hb pins s1 σ H1 _ I1 q1) fun u s2 ⟨y,H2,I2,r2,q2⟩ =>
  thn (ho pins s2 σ H2 x y v u _ I2 r1 r2 q2) fun d s3 ⟨z,H3,I3,r3,k,e,q3⟩=>?_)) hm
 subst e;cases r3;refine wpAny_truthy_bool ?_;cases k with
 |false=>
  obtain⟨k',e',q'⟩:=q3;cases e';exact ite_ff ⟨H3,I3,q'⟩
 |true=>
  refine ite_tt (test_last (thn (hc pins s3 σ H3 _ I3 q3) fun w' s4 hq31=>?_));obtain⟨z',H4,I4,r4,q4⟩:=hq31;refine thn (ho' pins s4 σ H4 y z' u w' _ I4 r2 r4 q4) fun d' s5 ⟨z2,H5,I5,r5,k2,e2,q5⟩=>?_;subst e2;cases r5;exact wpAny_truthy_bool ⟨H5,I5,q5⟩
def wb (K:W.Frag)(x:V)(H:Hp)(k:Bool):Prop:=
 match x with
 |.non=>k=false
 |.bl b=>k=b
 |.int i=>k=(i != 0)
 |.str y=>y.length<=sizeLine/\k=((y.length:Int) != 0)
 |.byt y=>y.size<=sizeLine/\k=((y.size:Int) != 0)
 |.ref p=>(∃xs,SqL K H p xs/\k=!xs.isEmpty)\/(∃xs,SqT K H p xs/\k=!xs.isEmpty)\/∃kvs,H p=some (.dK kvs)/\k=!kvs.isEmpty
 |_=>False
theorem kE{κ:Type}{kvs:List (κ×V)}{vs:List (κ×Value)}(r:KV kvs vs):(!vs.isEmpty)=!kvs.isEmpty:=by
 cases r<;>rfl
theorem fG{xs:List V}{its:List Value}(r:Vals xs its):(!its.toArray.isEmpty)=!xs.isEmpty:=by
 cases r<;>simp
theorem FK:(sizeLine:Nat)<2^63:=by rw[sizeLine_eq];decide
theorem KJ:TruR X (fun x H Q=>∃k,wb X.K x H k/\Q k H):=by
 intro pins s σ H x v Q I rx h;obtain⟨k,e,q⟩:=h;have hl:=FK;have hs:sizeLine=16777216:=sizeLine_eq;cases x with
 |non=>
  cases rx;have e':k=false:=e;subst e';exact truthy_none ⟨H,I,q⟩
 |bl b=>
  cases rx;have e':k=b:=e;subst e';exact wpAny_truthy_bool ⟨H,I,q⟩
 |int i=>
  obtain⟨t,rfl⟩:=rx;have e':k=(i != 0):=e;subst e';exact PySem.P.truthy_int ⟨H,I,q⟩
 |str y=>
  obtain⟨t,rfl⟩:=rx;obtain⟨hy,e'⟩:y.length<=sizeLine/\k=((y.length:Int) != 0):=e;subst e';exact PySem.P.truthy_str (by lia) ⟨H,I.tok _,q⟩
 |byt y=>
  obtain⟨t,rfl⟩:=rx;obtain⟨hy,e'⟩:y.size<=sizeLine/\k=((y.size:Int) != 0):=e;subst e';exact W.truthy_bytes (by lia) ⟨H,I.tok _,q⟩
 |ref p=>
  cases rx;have e':(∃xs,SqL X.K H p xs/\k=!xs.isEmpty)\/(∃xs,SqT X.K H p xs/\k=!xs.isEmpty)\/∃kvs,H p=some (.dK kvs)/\k=!kvs.isEmpty:=e;rcases e' with ⟨xs,hx,e'⟩|⟨xs,hx,e'⟩|⟨kvs,hx,e'⟩
  ·subst e';obtain⟨its,r,pl,hz⟩:=I.list hx;have hlen:=r.length;exact wpAny_truthy_list pl.isList (by simp only[Bi];lia) ⟨H,I.tok _,by rw[fG r];exact q⟩
  ·subst e';obtain⟨its,r,pl,hz⟩:=I.tuple hx;have hlen:=r.length;exact truthy_tuple pl (by simp only[Bi];lia) ⟨H,I.tok _,by rw[fG r];exact q⟩
  ·subst e';obtain⟨hz,hS,vs,r,m⟩:kvs.length<=sizeLine/\(p==sysModules)=false/\∃vs,KV kvs vs/\s.heap.DictOf (aH X.prog X.w) p vs:=I.hok p _ hx;have hlen:kvs.length=vs.length:=Paired.length r;exact wpAny_truthy_dict hS m (by lia) ⟨H,I.tok _,by rw[kE r];exact q⟩
 |_=>exact(show False from e).elim
theorem gj(ha:PE X a ta)(he:∀whole,isTrue a X.env whole=(do let v <- whole;standAt a.pos;holding [v] (truthy v))) :
  PT X a (fun σ H Q=>ta σ H fun x H'=>∃k,wb X.K x H' k/\Q k H'):=by
 intro pins s σ H Q I h;refine isTrue_plain (thn (ha pins s σ H _ I h) fun v s1 hq32=>?_) (he _);obtain⟨x,H1,I1,r1,q1⟩:=hq32;exact KJ pins s1 σ H1 x v Q I1 r1 q1
theorem Fb:OpR X (binaryOp .Add) (fun x y H Q=>∃i j,x=.str i/\y=.str j/\i.length+j.length<=sizeLine/\Q (.str (i++j)) H):=by
 intro pins s σ H x y v u Q I rx ry h;obtain⟨i,j,rfl,rfl,hz,q⟩:=h;obtain⟨t,rfl⟩:=rx;obtain⟨t',rfl⟩:=ry;exact add_str (fun t' tk=>⟨.str (i++j),H,I.tok _,⟨_,rfl⟩,q⟩) hz
def pF (b:Expr):Prop:=∀o i,subscripted b false o i=operate [o,i] (getItem o i)
theorem ff(ha:PE X a ta)(hb:PE X b tb)(hs:pF b) :
  PE X (.Subscript a b pos) (tOp (fun x y H Q=>∃z i c,x=.str z/\y=.int i/\0<=i/\i<2^63/\i<z.length/\z.cps[i.toNat]?=some c/\Q (.str ⟨#[c]⟩) H) ta tb):=by
 intro pins s σ H Q I h;refine Subscript_ (uK ha hb I h fun v u s2 x y H2 I2 rx ry q=>?_);obtain⟨z,i,c,rfl,rfl,h0,h63,h1,hc,q⟩:=q;obtain⟨t,rfl⟩:=rx;obtain⟨t',rfl⟩:=ry;have e:seqIndex? i z.length=some i.toNat:=PySem.StrLaws.seqIndex_nonneg h0 h1
 exact tail_any (typeIs_str s2 z t) slot_str_getitem.lookup (getItem_str (c:=c) (by
  have e1:decide (i < -(2^63:Int))=false:=Eb (by lia);have e2:decide (i≥2^63)=false:=Eb (by lia)
  rw[e1,e2] <;> rfl) (by rw[e]; exact hc) ⟨.str ⟨#[c]⟩,H2,I2.tok _,⟨_,rfl⟩,q⟩) (hs _ _)
theorem dh{x:V}{us:List Value}(r:Vals [x] us):∃u,us=[u]/\RelV x u:=by
 cases r with
 |cons r1 r2=>cases r2;exact⟨_,rfl,r1⟩
theorem pE{x y:V}{us:List Value}(r:Vals [x,y] us):∃u w',us=[u,w']/\RelV x u/\RelV y w':=by
 cases r with
 |cons r1 r2=>
  cases r2 with
  |cons r3 r4=>cases r4;exact⟨_,_,rfl,r1,r3⟩
theorem mq(hc:X.calm=true):cy X (.builtin "max") (fun xs H Q=>∃i j,xs=[.int i,.int j]/\Q (.int (if j>i then j else i)) H):=by
 intro pins s σ H xs us Q I r h;obtain⟨i,j,rfl,q⟩:=h;obtain⟨u,w',rfl,⟨t,rfl⟩,⟨t',rfl⟩⟩:=pE r;refine max_two_ints (I.ok.hd hc) fun h' tk k=>⟨_,H,I.kept k,?_,q⟩
 by_cases hj:j>i
 ·rw[DZ hj,DZ hj];exact⟨_,rfl⟩
 ·rw[DY hj,DY hj];exact⟨_,rfl⟩
theorem mP(hc:X.calm=true):cy X (.builtin "min") (fun xs H Q=>∃i j,xs=[.int i,.int j]/\Q (.int (if j<i then j else i)) H):=by
 intro pins s σ H xs us Q I r h;obtain⟨i,j,rfl,q⟩:=h;obtain⟨u,w',rfl,⟨t,rfl⟩,⟨t',rfl⟩⟩:=pE r;refine min_two_ints (I.ok.hd hc) fun h' tk k=>⟨_,H,I.kept k,?_,q⟩
 by_cases hj:j<i
 ·rw[DZ hj,DZ hj];exact⟨_,rfl⟩
 ·rw[DY hj,DY hj];exact⟨_,rfl⟩
theorem Hb:cy X (.type "int") (fun xs H Q=>(∃i,xs=[.int i]/\Q (.int i) H)\/∃k,xs=[.bl k]/\Q (.int (if k then 1 else 0)) H):=by
 intro pins s σ H xs us Q I r h;rcases h with ⟨i,rfl,q⟩|⟨k,rfl,q⟩
 ·obtain⟨u,rfl,t,rfl⟩:=dh r;exact call_int_int ⟨.int i,H,I,⟨_,rfl⟩,q⟩
 ·obtain⟨u,rfl,r1⟩:=dh r;cases r1;exact call_int_bool ⟨.int (if k then 1 else 0),H,I.tok _,⟨_,rfl⟩,q⟩
end
structure Lc(h:Heap)(x dx C:Addr)(mA:Str->Option Value):Prop where
 obj:h.get? x=some (W.instObj C dx)
 ns:h.Ns1 dx mA
 ne:dx≠x
theorem lB{h:Heap}{dx:Addr}{mA:Str->Option Value}(n:h.Ns1 dx mA):∃od,h.get? dx=some od/\∀name,W.lookIn name od=some (mA name):=by
 obtain⟨o,es,ep,ho,hd,hk,_,hm⟩:=n;refine⟨o,ho,fun name=>?_⟩;have e:=hm name;unfold nsFind findBy at e;rw[<- Array.find?_toList] at e;unfold W.lookIn;rw[hd];dsimp only;split
 ·rename_i y q;rw[q] at e;exact congrArg some e
 ·rename_i q;rw[q] at e;have a:es.toList.any (·.refKey)=false:=by
   rw[List.any_eq_false];intro y hy;obtain⟨z,t,hkey⟩:=hk y (Array.mem_toList_iff.mp hy);simp[DictEntry.refKey,hkey]
  have a':¬es.toList.any (·.refKey)=true:=by rw[a];exact Bt
  rw[DY a'];exact congrArg some e
theorem Lc.look{h:Heap}{x dx C:Addr}{mA:Str->Option Value}(I:Lc h x dx C mA):∃od,W.InstAt h x (W.instObj C dx) C (some od)/\∀name,W.lookIn name od=some (mA name):=
 let ⟨od,ho,hl⟩:=lB I.ns
 ⟨od,⟨I.obj,rfl,rfl,ho⟩,hl⟩
theorem HW.some_of{v:V}{o:Option Value}(r:HW (some v) o):∃u,o=some u/\RelV v u:=by
 cases o with
 |none=>exact(show False from r).elim
 |some u=>exact⟨u,rfl,r⟩
section
variable {P:Program}{w:World}{H H':Hp}{h h':Heap}{a C dx:Addr}{fs fs':List (Str×V)}
theorem rT(hok:HOk P w H h)(e:H a=some (.ins C dx fs)):∃mA,Lc h a dx C mA/\(∀f,HW (fs.lookup f) (mA f))/\PySem.Within mA (fs.map (·.1))/\fs.length<=1000/\H dx=some (.own a):=by
 obtain⟨d,z,ne,ob,mA,n,r,q⟩:=(show EY P w H h a (.ins C dx fs) from hok a _ e)
 exact⟨mA,⟨ob,n,ne⟩,r,q,z,d⟩
end
structure Cls(K:W.Frag)(C:Addr):Prop where
 pg:W.plainGet K C Str.empty=true
 hd:W.hasDictIn K C=true
 po:W.plainOver K C=true
 sa:W.findIn K (.ref C) "__setattr__"=some (some (.builtin "object.__setattr__"))
theorem Cls.get{K:W.Frag}{C:Addr}(c:Cls K C)(f:Str):W.plainGet K C f=true:=c.pg
section
variable {X:Cx}{pins:List (Addr×Obj)}{σ:St}{H:Hp}{s:Shared}{A:Around}{E:Value->Shared->Prop}{Q:Value->Shared->Prop}{c:Value}{b:Bool}
inductive Hg(K:W.Frag)(H:Hp):V->Value->Prop where
 |non:Hg K H .non (.type "NoneType")
 |bl (x:Bool):Hg K H (.bl x) (.type "bool")
 |int (i:Int):Hg K H (.int i) (.type "int")
 |str (x:Str):Hg K H (.str x) (.type "str")
 |flt (x:UInt64):Hg K H (.flt x) (.type "float")
 |lst {a:Addr}{xs:List V} (e:H a=some (.lst xs)):Hg K H (.ref a) (.type "list")
 |frz {a:Addr}{o:Obj}{xs:List V} (e:H a=some (.frz o (.lst xs))):Hg K H (.ref a) (.type "list")
 |tup {a:Addr}{xs:List V} (e:H a=some (.tup xs)):Hg K H (.ref a) (.type "tuple")
 |dK {a:Addr}{kvs:List (Key×V)} (e:H a=some (.dK kvs)):Hg K H (.ref a) (.type "dict")
 |dT {a:Addr}{kvs:List (List Key×V)} (e:H a=some (.dT kvs)):Hg K H (.ref a) (.type "dict")
 |ins {a C dx:Addr}{fs:List (Str×V)} (e:H a=some (.ins C dx fs)) (cl:Cls K C) (ha:W.findIn K (.ref C) "__class__"=some (some (.builtin "object.__class__")))
   (hn:W.specialIn K (.builtin "object.__class__") "__get__"=some (some (.builtin "getset_descriptor.__get__"))) (htk:W.takesIn K (.builtin "object.__class__")=some true)
   (hm:W.mroIn K C (.type "object")=some true):Hg K H (.ref a) (.ref C)
theorem nh{x:V}{u t:Value}(I:Inv X pins σ H s)(rx:RelV x u)(ty:Hg X.K H x t)(e:W.kitOne X.K t c=some b)(h:∀tk,Q (.bool b) {s with toks:=tk}) :
  wpAny (model X.prog X.w) A (call (.builtin "isinstance") [u,c]) Q E s:=by
 cases ty with
 |non=>cases (show u=Value.none from rx);exact W.kia_one W.kitx_none I.kIn True.intro e (fun z=>nomatch z) h
 |bl y=>cases (show u=Value.bool y from rx);exact W.kia_one W.kitx_bool I.kIn True.intro e (fun z=>nomatch z) h
 |int i=>obtain⟨t,q⟩:=(show ∃t,u=Value.int i t from rx);cases q;exact W.kia_one W.kitx_int I.kIn True.intro e (fun z=>nomatch z) h
 |str y=>obtain⟨t,q⟩:=(show ∃t,u=Value.str y t from rx);cases q;exact W.kia_one W.kitx_str I.kIn True.intro e (fun z=>nomatch z) h
 |flt y=>obtain⟨t,q⟩:=(show ∃t,u=Value.float y t from rx);cases q;exact W.kia_one W.kitx_float I.kIn True.intro e (fun z=>nomatch z) h
 |@lst a xs ea=>
  cases (show u=Value.ref a from rx);obtain⟨_,_,n,_,h1⟩:=(show EY X.prog X.w H s.heap a (.lst xs) from I.hok a _ ea)
  exact W.kia_one W.kitx_list I.kIn ⟨_,h1,rfl⟩ e (fun z=>nomatch z) h
 |@frz a ob xs ea=>
  cases (show u=Value.ref a from rx);obtain⟨_,_,_,n,_,h1⟩:=(show EY X.prog X.w H s.heap a (.frz ob (.lst xs)) from I.hok a _ ea)
  exact W.kia_one W.kitx_list I.kIn ⟨_,h1,rfl⟩ e (fun z=>nomatch z) h
 |@tup a xs ea=>
  cases (show u=Value.ref a from rx);obtain⟨_,_,_,p⟩:=(show EY X.prog X.w H s.heap a (.tup xs) from I.hok a _ ea)
  obtain⟨o,h1,h2,_⟩:=p;exact W.kia_one W.kitx_tuple I.kIn ⟨o,h1,h2⟩ e (fun z=>nomatch z) h
 |@dK a kvs ea=>
  cases (show u=Value.ref a from rx);obtain⟨_,_,vs,_,p⟩:=(show EY X.prog X.w H s.heap a (.dK kvs) from I.hok a _ ea)
  obtain⟨o,es,ep,h1,h2,_⟩:=p;exact W.kia_one W.kitx_dict I.kIn ⟨o,h1,h2.1⟩ e (fun z=>nomatch z) h
 |@dT a kvs ea=>
  cases (show u=Value.ref a from rx);obtain⟨_,_,xs,_,o,es,ep,h1,h2,_⟩:=(show EY X.prog X.w H s.heap a (.dT kvs) from I.hok a _ ea)
  exact W.kia_one W.kitx_dict I.kIn ⟨o,h1,h2.1⟩ e (fun z=>nomatch z) h
 |@ins a C dx fs ea cl ha hn htk hm=>
  cases (show u=Value.ref a from rx);obtain⟨mA,O,_⟩:=rT I.hok ea;obtain⟨od,J,_⟩:=O.look;exact W.kia_one (W.kitx_own (cl.get _) cl.hd ha hn htk hm) I.kIn J e (fun z=>nomatch z) h
end
structure FC(k:Nat)(A:Around):Prop where
 hd:A.handled=none
 dp:A.depth+3*k+5<recursionLimit
 un:A.units+16*k+200<cLine
theorem FC.mono{j k:Nat}{A:Around}(r:FC k A)(h:j<=k):FC j A:=⟨r.hd,by have:=r.dp;lia,by have:=r.un;lia⟩
theorem FC.deeper{k:Nat}{A:Around}(r:FC (k+1) A)(env:Env):FC k (A.deeper env):=
 ⟨r.hd,by have:=r.dp;show A.depth+1+3*k+5<_;lia,by have:=r.un;show A.units+3+16*k+200<_;lia⟩
theorem FC.in1{k:Nat}{A:Around}(r:FC (k+1) A):FC k A.in1:=
 ⟨r.hd,by have:=r.dp;show A.depth+3*k+5<_;lia,by have:=r.un;show A.units+1+16*k+200<_;lia⟩
theorem FC.depth{k:Nat}{A:Around}(r:FC k A):A.depth<recursionLimit:=by have:=r.dp;lia
theorem FC.units{k:Nat}{A:Around}(r:FC k A):A.units+64<cLine:=by have:=r.un;lia
def ID:TA:=fun _ H Q=>Q [] H
def fY (ta:TE)(tr:TA):TA:=fun σ H Q=>ta σ H fun x H1=>tr σ H1 fun xs H2=>Q (x::xs) H2
section
variable {X:Cx}{e:Expr}{es:List Expr}{te:TE}{t:TA}{pos:Pos}
theorem Fe:PA X [] ID:=fun _ _ _ _ H Q I h=>Calls.spliced_nil ⟨[],H,I,.nil,h⟩
theorem EF(ha:PE X e te)(hr:PA X es t)(hs:starEach (e::es) X.env=(false,eval e X.env)::starEach es X.env:=by rfl):PA X (e::es) (fY te t):=by
 intro pos pins s σ H Q I h;rw[hs];show wpAny _ _ (spliced ((false,eval e X.env)::backTo pos (starEach es X.env))) _ _ s;refine Calls.spliced_cons (thn (ha pins s σ H _ I h) fun u s1 hq33=>?_);obtain⟨x,H1,I1,r1,q1⟩:=hq33;refine thn (hr pos pins s1 σ H1 _ I1 q1) fun us s2 hq34=>?_;obtain⟨xs,H2,I2,r2,q2⟩:=hq34;exact⟨x::xs,H2,I2,.cons r1 r2,q2⟩
def tTup (t:TA):TE:=fun σ H Q=>t σ H fun xs H1=>xs.length<=sizeLine/\∀p,H1 p=none->Q (.ref p) (upd H1 p (.tup xs))
def tLst (t:TA):TE:=fun σ H Q=>t σ H fun xs H1=>xs.length<=sizeLine/\∀p,H1 p=none->Q (.ref p) (upd H1 p (.lst xs))
theorem aO{x1}(h:PA X es t):PE X (.Tuple es x1 pos) (tTup t):=by
 intro pins s σ H Q I hq;refine wpAny_Tuple_spliced (thn (h pos pins s σ H _ I hq) fun us s1 hq35=>?_);obtain⟨xs,H1,I1,r,z,q⟩:=hq35;refine⟨by rw[<- r.length];exact z,?_⟩;have hf:H1 s1.heap.objs.size=none:=I1.hok.fresh (AW _);refine⟨.ref s1.heap.objs.size,upd H1 s1.heap.objs.size (.tup xs),I1.laid (t':=s1.toks) (fun b u e=>Es _ e) (AW _) ?_,rfl,q _ hf⟩;exact⟨z,us,r,⟨_,Et _ rfl,rfl,_,rfl⟩⟩
theorem aV(h:PA X es t):PE X (.List es pos) (tLst t):=by
 intro pins s σ H Q I hq;refine wpAny_List_spliced (thn (h pos pins s σ H _ I hq) fun us s1 hq36=>?_);obtain⟨xs,H1,I1,r,z,q⟩:=hq36;refine⟨by rw[<- r.length];exact z,?_⟩;have hf:H1 s1.heap.objs.size=none:=I1.hok.fresh (AW _);refine⟨.ref s1.heap.objs.size,upd H1 s1.heap.objs.size (.lst xs),I1.laid (t':=s1.toks) (fun b u e=>Es _ e) (AW _) ?_,rfl,q _ hf⟩;exact⟨z,us,0,r,Et _ rfl⟩
end
abbrev Sp:=List V->Hp->VK->XK->Prop
abbrev CXT:=List Env->Hp->Shared->XK->Value->Shared->Prop
structure Jh(P:Program)(w:World)(K:W.Frag)(mg:Str->Option Value)(base:Heap)(A:Around)(outer:List Env)(s:Shared)(H:Hp):Prop where
 frames:A.frames=some outer
 mod:Mod K mg base
 bs:∀b o,base.get? b=some o->s.heap.get? b=some o/\H b=none
 bsz:base.objs.size<=s.heap.objs.size
 GW:s.heap.FunFrames base outer
 frf:∀b∈frs outer,H b=none
 hok:HOk P w H s.heap
 bare:AllBare s.gens
def CE (outer:List Env)(P:Program)(w:World)(H:Hp)(s:Shared)(Q:VK)(u:Value)(s':Shared):Prop:=
 ∃v H',s'.os=s.os/\AllBare s'.gens/\Un (frs outer) [] H H' s.heap s'.heap/\HOk P w H' s'.heap/\RelV v u/\Q v H'
def CR (CX:CXT)(outer:List Env)(P:Program)(w:World)(H:Hp)(s:Shared)(Q:VK)(E:XK)(r:Result)(s':Shared):Prop:=
 match r with
 |.ok (.ret u)=>CE outer P w H s Q u s'
 |.ok _=>False
 |.error e=>CX outer H s E e s'
structure EK(P:Program)(w:World)(K:W.Frag)(mg:Str->Option Value)(base:Heap)(CX:CXT)(k:Nat)(f:Addr)(fd:FuncData)(ps:List Str)(sp:Sp):Prop where
 len:∀vs H Q E,sp vs H Q E->vs.length=ps.length
 run:∀(A:Around)(outer:List Env)(s:Shared)(H:Hp)(args:Args)(us:List Value)(vs:List V)(Q:VK)(E:XK),FC k A->Jh P w K mg base A outer s H->BindsTo s fd args (ps.zip us)->Vals vs us->sp vs H Q E ->
  codeAny (model P w) A (.call (.ref f) args) (CR CX outer P w H s Q E) s
theorem EK.mono{P:Program}{w:World}{K:W.Frag}{mg:Str->Option Value}{base:Heap}{CX:CXT}{j k:Nat}{f:Addr}{fd:FuncData}{ps:List Str}{sp:Sp}(F:EK P w K mg base CX j f fd ps sp)(h:j<=k) :
  EK P w K mg base CX k f fd ps sp:=⟨F.len,fun A outer s H args us vs Q E hr=>F.run A outer s H args us vs Q E (hr.mono h)⟩
theorem EK.imp{P:Program}{w:World}{K:W.Frag}{mg:Str->Option Value}{base:Heap}{CX:CXT}{k:Nat}{f:Addr}{fd:FuncData}{ps:List Str}{sp sp':Sp}(F:EK P w K mg base CX k f fd ps sp)
  (h:∀vs H Q E,sp' vs H Q E->sp vs H Q E):EK P w K mg base CX k f fd ps sp':=
 ⟨fun vs H Q E q=>F.len vs H Q E (h _ _ _ _ q),fun A outer s H args us vs Q E hr he hb hv hs=>F.run A outer s H args us vs Q E hr he hb hv (h _ _ _ _ hs)⟩
theorem Jh.in1{P:Program}{w:World}{K:W.Frag}{mg:Str->Option Value}{base:Heap}{A:Around}{outer:List Env}{s:Shared}{H:Hp}(e:Jh P w K mg base A outer s H) :
  Jh P w K mg base A.in1 outer s H:=⟨e.frames,e.mod,e.bs,e.bsz,e.GW,e.frf,e.hok,e.bare⟩
section
variable {X:Cx}{pins:List (Addr×Obj)}{σ:St}{H:Hp}{s s':Shared}
theorem Inv.KS(I:Inv X pins σ H s):Jh X.prog X.w X.K X.mg X.base X.A X.stack s H:=
 ⟨I.ok.frames,I.ok.mod,I.bs,Bm I.ok.bsz I.sz,I.stack,I.Gs,I.hok,I.bare⟩
theorem Inv.after{Q:VK}{u:Value}(I:Inv X pins σ H s)(h:CE X.stack X.prog X.w H s Q u s'):EP X pins σ Q u s':=by
 obtain⟨v,H',os,bare,un,hok,r,q⟩:=h;obtain⟨hh,g,d,t,os'⟩:=s';obtain rfl:os'=s.os:=os;exact⟨v,H',I.call (h':=hh) (g':=g) (d':=d) (t':=t) (ch:=[]) un hok bare (fun b z=>absurd z (by simp)),r,q⟩
end
def og (sp:Sp)(dvs:List V)(E:XK)(t:TA):TE:=fun σ H Q=>t σ H fun vs H1=>sp (vs++dvs) H1 Q E
def Binds(K:W.Frag)(fd:FuncData)(ps:List Str)(ds:List Value):Prop:=
 ∀(s:Shared)(us:List Value),K.In s.heap->(us++ds).length=ps.length->BindsTo s fd ⟨us,[]⟩ (ps.zip (us++ds))
theorem Binds.all{K:W.Frag}{fd:FuncData}{ps:List Str}(h:∀us:List Value,us.length=ps.length->bindArgs fd ⟨us,[]⟩=pure (ps.zip us)):Binds K fd ps []:=fun s us _ hl=>by
 rw[BD] at hl ⊢;exact .of_eq (h us hl)
def lU (CX:CXT)(X:Cx)(E:XK):Prop:=∀(pins:List (Addr×Obj))(σ:St)(H:Hp)(s:Shared)(e:Value)(s':Shared),Inv X pins σ H s->CX X.stack H s E e s'->X.xe e s'
section
variable {X:Cx}{CX:CXT}{k:Nat}{f C:Addr}{fd:FuncData}{ps:List Str}{sp:Sp}{dvs:List V}{ds:List Value}{E:XK}{x m:Str}{p pos apos:Pos}{e o:Expr}{es:List Expr}{ta:TE}{t:TA}
theorem tI{pins:List (Addr×Obj)}{σ:St}{H:Hp}{s:Shared}{Q:VK}{us:List Value}{vs:List V}(F:EK X.prog X.w X.K X.mg X.base CX k f fd ps sp)(hr:FC k X.A)(hb:Binds X.K fd ps ds)(hd:Vals dvs ds)(hx:lU CX X E)
  (I:Inv X pins σ H s)(r:Vals vs us)(h:sp (vs++dvs) H Q E):(wq X) (call (.ref f) us) (EP X pins σ Q) X.xe s:=by
 have r2:Vals (vs++dvs) (us++ds):=r.append hd;have hl:(us++ds).length=ps.length:=by rw[<- r2.length];exact F.len _ _ _ _ h
 refine wpAny_call (codeAny_mono (F.run X.A X.stack s H ⟨us,[]⟩ (us++ds) (vs++dvs) Q E hr I.KS (hb s us I.kIn hl) r2 h) fun r s' hq=>?_);cases r with
 |error e=>exact hx pins σ H s e s' I hq
 |ok fl=>
  cases fl with
  |ret u=>exact I.after hq
  |next=>exact False.elim hq
  |brk=>exact False.elim hq
  |cont=>exact False.elim hq
theorem mi(F:EK X.prog X.w X.K X.mg X.base CX k f fd ps sp)(hr:FC k X.A)(hg:Gl X x)(hm:X.mg x=some (.ref f))(hk:W.keepIn X.K (.ref f)=true)(hb:Binds X.K fd ps ds)(hd:Vals dvs ds)(hx:lU CX X E)
  (ha:PA X (e::es) t)(hdb:(x==("__debug__":Str))=false:=by decide)(he:starEach (e::es) X.env=(false,eval e X.env)::starEach es X.env:=by rfl)(hpl:(backTo pos (starEach es X.env)).any (·.1)=false:=by rfl) :
  PE X (.Call (.Name x p) (e::es) [] pos) (og sp dvs E t):=by
 intro pins s σ H Q I h;refine wpAny_Call_Name_kw (dU I hg hm ?_ hdb);refine W.callWith_K (h₀:=X.base) I.ok.mod.kin hk (thn (ha pos pins s σ H _ I h) fun us s1 hq37=>?_) he hpl;obtain⟨vs,H1,I1,r,q⟩:=hq37;refine⟨I1.kIn,?_⟩;exact tI F hr hb hd hx I1 r q
end
def PK (X:Cx)(kws:List Keyword)(t:TA):Prop:=
 ∀(pos:Pos)(pins:List (Addr×Obj))(s:Shared)(σ:St)(H:Hp)(Q:List V->Hp->Prop),Inv X pins σ H s->t σ H Q->(wq X) (evalAll ((backToKw pos (keywordEach kws X.env)).map (·.2))) (AP X pins σ Q) X.xe s
section
variable {X:Cx}{CX:CXT}{k:Nat}{f C:Addr}{fd:FuncData}{ps ks:List Str}{sp:Sp}{E:XK}{x m:Str}{p pos apos kpos:Pos}{e o:Expr}{es:List Expr}{kws:List Keyword}{te ta:TE}{t tk:TA}{nm:Option Str}
theorem Jt:PK X [] ID:=fun _ _ _ _ H Q I h=>wpAny_evalAll_nil ⟨[],H,I,.nil,h⟩
theorem jq(ha:PE X e te)(hr:PK X kws t):PK X (⟨nm,e,kpos⟩::kws) (fY te t):=by
 intro pos pins s σ H Q I h;show wpAny _ _ (evalAll ((do let v <- eval e X.env;standAt pos;pure v)::(backToKw pos (keywordEach kws X.env)).map (·.2))) _ _ s;refine wpAny_evalAll_cons (DU (thn (ha pins s σ H _ I h) fun u s1 hq38=>?_));obtain⟨x,H1,I1,r1,q1⟩:=hq38;refine DU (wpAny_standAt (DV ?_));refine thn (hr pos pins s1 σ H1 _ I1 q1) fun us s2 hq39=>?_;obtain⟨xs,H2,I2,r2,q2⟩:=hq39;exact⟨x::xs,H2,I2,.cons r1 r2,q2⟩
variable {g:List Value->List Value->List Value}{gV:List V->List V->List V}
end
structure EG(N P:List Str)(sc:Scope):Prop where
 kind:sc.kind=.function
 co:sc.isCoroutine=false
 gen:sc.isGenerator=false
 nd:N.Nodup
 pre:N.take P.length=P
 par:∀x∈P,sc.names.lookup x=some .local\/sc.names.lookup x=some .cell
 Kd:∀y∈sc.names,y.2≠.free
theorem iO{kindOf:Str->Option NameKind}{x:Str}:∀{binds:List (Str×Value)}{m:Str->Option Value},(∀v,(x,v)∉binds)->bindL kindOf binds m x=m x
 |[],_,_=>rfl
 |(n,v)::r,m,h=>by
  unfold bindL;rw[iO fun w hw=>h w (By _ hw)];split
  ·have:x≠n:=by rintro rfl;exact h v Bj
   simp[this]
  ·rfl
theorem iN{kindOf:Str->Option NameKind}{x:Str}:∀{binds:List (Str×Value)}{m:Str->Option Value},(∀v,(x,v)∉binds)->bindC kindOf binds m x=m x
 |[],_,_=>rfl
 |(n,v)::r,m,h=>by
  unfold bindC;rw[iN fun w hw=>h w (By _ hw)];split
  ·rfl
  ·have:x≠n:=by rintro rfl;exact h v Bj
   simp[this]
theorem ir{kindOf:Str->Option NameKind}{x:Str}{v:Value}:∀{P:List Str}{vs:List Value}{i:Nat}{m:Str->Option Value},P.Nodup->P[i]?=some x->vs[i]?=some v->kindOf x=some .local ->
  bindL kindOf (P.zip vs) m x=some v
 |[],_,_,_,_,h,_,_=>by simp at h
 |_::_,[],_,_,_,_,h,_=>by simp at h
 |p::P,w::vs,0,m,nd,h1,h2,hk=>by
  simp at h1 h2;subst h1;subst h2;show bindL kindOf ((p,w)::P.zip vs) m p=_;unfold bindL;rw[iO fun v hv=>(CP.mp nd).1 (Dd hv).1,DZ hk];simp
 |p::P,w::vs,i+1,m,nd,h1,h2,hk=>by
  show bindL kindOf ((p,w)::P.zip vs) m x=_;unfold bindL;exact ir (i:=i) (CP.mp nd).2 (by simpa using h1) (by simpa using h2) hk
theorem iC{kindOf:Str->Option NameKind}{x:Str}{v:Value}:∀{P:List Str}{vs:List Value}{i:Nat}{m:Str->Option Value},P.Nodup->P[i]?=some x->vs[i]?=some v->kindOf x≠some .local ->
  bindC kindOf (P.zip vs) m x=some v
 |[],_,_,_,_,h,_,_=>by simp at h
 |_::_,[],_,_,_,_,h,_=>by simp at h
 |p::P,w::vs,0,m,nd,h1,h2,hk=>by
  simp at h1 h2;subst h1;subst h2;show bindC kindOf ((p,w)::P.zip vs) m p=_;unfold bindC;rw[iN fun v hv=>(CP.mp nd).1 (Dd hv).1,DY hk];simp
 |p::P,w::vs,i+1,m,nd,h1,h2,hk=>by
  show bindC kindOf ((p,w)::P.zip vs) m x=_;unfold bindC;exact iC (i:=i) (CP.mp nd).2 (by simpa using h1) (by simpa using h2) hk
def start(N:List Str)(vs:List V):St:=vs.map some++List.replicate (N.length-vs.length) none
def bB (CX:CXT)(P:Program)(w:World)(K:W.Frag)(mg:Str->Option Value)(base:Heap)(N:List Str)(qual:Str)(scope:Scope)(f:Addr)(cd:Value)(A:Around)(outer:List Env)(s:Shared)(H:Hp)(E:XK):Cx where
 prog:=P
 w:=w
 K:=K
 mg:=mg
 base:=base
 A:=A.deeper (envOfC qual scope s.heap.objs.size f cd)
 N:=N
 s₀:=s
 H₀:=H
 env:=envOfC qual scope s.heap.objs.size f cd
 outer:=outer
 stack:=envOfC qual scope s.heap.objs.size f cd::outer
 ex:=[]
 calm:=A.handled.isNone
 fn:=fun _=>true
 pn:=[]
 xe:=fun e s'=>wpAny (model P w) (A.deeper (envOfC qual scope s.heap.objs.size f cd)) (leaving (envOfC qual scope s.heap.objs.size f cd) e) (fun _ s''=>CX outer H s E e s'') (fun e' s''=>CX outer H s E e' s'') s'
theorem kj{sc:Scope}{n:Nat}{x:Str}(h:sc.names.lookup x=some .cell):∃c,(cellsFrom n sc.names []).lookup x=some c:=by
 have q:=W.cellsFrom_some sc.names n [] (.inl h);exact CA.mp q
theorem iF{CX:CXT}{P:Program}{w:World}{K:W.Frag}{mg:Str->Option Value}{base:Heap}{N ps:List Str}{qual:Str}{scope:Scope}{f:Addr}{cd:Value}{A:Around}{outer:List Env}{s s1:Shared}{H:Hp}{E:XK}{us:List Value}{vs:List V}
  (S:EG N ps scope)(e0:Jh P w K mg base A outer s H)(hl:vs.length=ps.length)(r:Vals vs us)
  (x:InCallC s s.heap.objs.size (bindL (envOfC qual scope s.heap.objs.size f cd).kindOf (ps.zip us) fun _=>none) (cellsFrom (s.heap.objs.size+1) scope.names []) (bindC (envOfC qual scope s.heap.objs.size f cd).kindOf (ps.zip us) fun _=>none) s1) :
  Inv (bB CX P w K mg base N qual scope f cd A outer s H E) [] (start N vs) H s1:=by
 have hpl:ps.length<=N.length:=by have:=congrArg List.length S.pre;rw[Bq] at this;lia
 obtain⟨h1,tk,rfl,hk⟩:=x.done;have noA:∀b:Addr,b∉(bB CX P w K mg base N qual scope f cd A outer s H E).ex:=fun b z=>absurd (show b∈([]:List Addr) from z) (by simp)
 refine⟨⟨e0.mod,S.kind,rfl,rfl,AW _,fun y z c h1 h2=>?_,fun y hy=>?_,fun y c _ h=>?_,fun h=>DR.mp h,Around.frames_deeper e0.frames,.inr ⟨rfl,rfl⟩,fun b z=>absurd z (noA b),e0.bs,e0.bsz,fun b _ _=>noA b,fun b z=>absurd z (noA b),e0.GW,e0.frf⟩,
  rfl,e0.bare,Un.kept hk,⟨_,x.toInCall.ns,fun i y v h1 h2 h3=>?_⟩,fun y c h=>⟨_,x.cell y c h⟩,e0.hok.fresh (AW _),fun y c h=>?_,fun p hp=>absurd (show p∈([]:List (Addr×Obj)) from hp) (by simp),e0.hok.kept hk,?_⟩
 ·exact name_of_addr x.apart (PySem.mem_of_lookup h1) (PySem.mem_of_lookup h2)
 ·have hy:scope.names.lookup y=some .cell\/scope.names.lookup y=some .free:=hy;rcases hy with hy|hy
  ·exact kj hy
  ·exact absurd rfl (S.Kd _ (PySem.mem_of_lookup hy))
 ·exact BF (x.above y c (PySem.mem_of_lookup h))
 ·have hi:i<vs.length:=by
   unfold start at h2;by_cases hi:i<vs.length
   ·exact hi
   ·rw[BV (by simpa using hi)] at h2;rw[Dx] at h2;split at h2<;>cases h2
  have ha:vs[i]?=some v:=by
   unfold start at h2;rw[CJ (by simpa using hi),Br] at h2;cases e:vs[i]? with
   |none=>rw[e] at h2;cases h2
   |some a=>rw[e] at h2;cases h2;rfl
  obtain⟨u,hu,rv⟩:=r.get ha;have hp:ps[i]?=some y:=by
   rw[<- S.pre,BZ (by lia)];exact h1
  have ndP:ps.Nodup:=by rw[<- S.pre];exact S.nd.sublist (List.take_sublist _ _)
  refine⟨u,rv,?_⟩;rcases S.par y (Bp hp) with k|k
  ·exact .inl ⟨k,ir ndP hp hu k⟩
  ·obtain⟨c,e⟩:=kj (n:=s.heap.objs.size+1) k;refine .inr ⟨.inl k,c,e,?_⟩;have q:=x.cell y c e;rw[iC ndP hp hu (by show scope.names.lookup y≠_;rw[k];decide)] at q;exact q
 ·exact e0.hok.fresh (BF (x.above y c (PySem.mem_of_lookup h)))
 ·unfold start;show _=N.length;rw[Ba,AX,CB];lia
theorem se{CX:CXT}{P:Program}{w:World}{K:W.Frag}{mg:Str->Option Value}{base:Heap}{k:Nat}{f:Addr}{name qual:Str}{params:Arguments}{body:List Stmt}{scope:Scope}{dV kV doc pm cdv ct oc:Value}{an od:Option Addr}
  {osl:Array (Option Value)}{N ps:List Str}{sp:Sp}(lk:K.lookup f=some ⟨oc,od,.func (W.fnOf name qual params body scope dV kV doc pm an cdv ct),osl⟩)(hcd:W.codeIn K cdv qual=true)(S:EG N ps scope)
  (len:∀vs H Q E,sp vs H Q E->vs.length=ps.length)
  (hbody:∀(A:Around) (outer:List Env) (s:Shared) (H:Hp) (vs:List V) (Q:VK) (E:XK),FC k (A.deeper (envOfC qual scope s.heap.objs.size f cdv))->sp vs H Q E ->
   ∃t,PSs (bB CX P w K mg base N qual scope f cdv A outer s H E) body t/\t { nx:=fun _ H'=>Q .non H',rt:=Q } (start N vs) H) :
  EK P w K mg base CX (k+1) f (W.fnOf name qual params body scope dV kV doc pm an cdv ct) ps sp:=by
 refine⟨len,fun A outer s H args us vs Q E hr e0 hb r hsp=>?_⟩;have hl:=len _ _ _ _ hsp;have KX:K.In s.heap:=e0.mod.kin.keeps fun b o e=>(e0.bs b o e).1;have lim:s.heap.NoLimit:=e0.mod.nolimit.keeps fun b o e=>(e0.bs b o e).1;have hkind:∀y∈ps.zip us,scope.names.lookup y.1=some .local\/(scope.names.lookup y.1=some .cell/\((cellsFrom (s.heap.objs.size+1) scope.names []).lookup y.1).isSome=true):=fun⟨n,v⟩ hy=>by
  rcases S.par n (Dd hy).1 with q|q
  ·exact .inl q
  ·exact .inr ⟨q,W.cellsFrom_some _ _ _ (.inl q)⟩
 refine codeAny_call_function hr.depth (KX _ _ lk) rfl S.co S.gen rfl (W.codeRec_of KX hcd) (hb _ _ _ _ ?_);refine wpAny_newFunctionEnv_cells S.kind hkind fun env he s1 x=>?_;subst he;refine⟨lim.keeps x.toInCall.keep,codeAny_func ?_⟩;obtain⟨t,ht,hq⟩:=hbody A outer s H vs Q E (hr.deeper _) hsp;have I:Inv (bB CX P w K mg base N qual scope f cdv A outer s H E) [] (start N vs) H s1:=iF S e0 hl r x;refine Ed (ht [] s1 (start N vs) H _ I hq) (fun fl s' hs=>?_) fun e s' hs=>hs;have fin:∀{σ':St}{H':Hp}{v:V}{u:Value},Inv (bB CX P w K mg base N qual scope f cdv A outer s H E) [] σ' H' s'->RelV v u->Q v H'->CE outer P w H s Q u s':=
  fun {σ' H' v u} J rv q=>⟨v,H',J.os,J.bare,J.base,J.hok,rv,q⟩
 cases fl with
 |ret u=>
  obtain⟨v,σ',H',J,rv,q⟩:=hs;exact fin J rv q
 |next=>
  obtain⟨σ',H',J,q⟩:=hs;exact fin (v:=V.non) (u:=Value.none) J rfl q
 |brk=>
  obtain⟨_,_,_,q⟩:=hs;exact False.elim q
 |cont=>
  obtain⟨_,_,_,q⟩:=hs;exact False.elim q
section
variable {X:Cx}{x:Str}{p pos:Pos}{e:Expr}{es:List Expr}{t:TA}{id T:String}{r:List V->Hp->VK->Prop}
def tCB (r:List V->Hp->VK->Prop)(t:TA):TE:=fun σ H Q=>t σ H fun vs H1=>r vs H1 Q
theorem aE(hc:cy X (.builtin id) r)(hg:Gl X x)(hm:X.mg x=none)(hv:bootBuiltins x=some (.builtin id))(ha:PA X (e::es) t)(hn:x≠"__name__":=by decide)(hdb:(x==("__debug__":Str))=false:=by decide)
  (he:starEach (e::es) X.env=(false,eval e X.env)::starEach es X.env:=by rfl)(hpl:(backTo pos (starEach es X.env)).any (·.1)=false:=by rfl):PE X (.Call (.Name x p) (e::es) [] pos) (tCB r t):=by
 intro pins s σ H Q I h;refine wpAny_Call_Name_kw (dG I hg hm hv ?_ hn hdb);refine PyProof.Rows.callWith_builtin1 (thn (ha pos pins s σ H _ I h) fun us s1 hq40=>?_) he hpl;obtain⟨vs,H1,I1,r1,q1⟩:=hq40;exact hc pins s1 σ H1 vs us Q I1 r1 q1
theorem dz(hc:cy X (.type T) r)(hg:Gl X x)(hm:X.mg x=none)(hv:bootBuiltins x=some (.type T))(ha:PA X (e::es) t)(hn:x≠"__name__":=by decide)(hdb:(x==("__debug__":Str))=false:=by decide)
  (he:starEach (e::es) X.env=(false,eval e X.env)::starEach es X.env:=by rfl)(hpl:(backTo pos (starEach es X.env)).any (·.1)=false:=by rfl):PE X (.Call (.Name x p) (e::es) [] pos) (tCB r t):=by
 intro pins s σ H Q I h;refine wpAny_Call_Name_kw (dG I hg hm hv ?_ hn hdb);refine PyProof.Rows.callWith_type1 (thn (ha pos pins s σ H _ I h) fun us s1 hq41=>?_) he hpl;obtain⟨vs,H1,I1,r1,q1⟩:=hq41;exact hc pins s1 σ H1 vs us Q I1 r1 q1
end
end L2
namespace HT
open PySem PyProof.Rows
def lexLt:List Int->List Int->Bool
 |[],[]=>false
 |[],_::_=>true
 |_::_,[]=>false
 |x::xs,y::ys=>if x=y then lexLt xs ys else decide (x<y)
theorem FJ(x y:Int)(xs ys:List Int):lexLt (x::xs) (y::ys)=if x=y then lexLt xs ys else decide (x<y):=rfl
theorem Gq:lexLt [] []=false:=rfl
theorem Gd(y:Int)(ys:List Int):lexLt [] (y::ys)=true:=rfl
theorem FZ(x:Int)(xs:List Int):lexLt (x::xs) []=false:=rfl
theorem Hw(A:Around)(s:Shared)(a:Int)(t:Tok)(c:Int)(u:Tok):∃e,SeqAt.EqAt A s (.int a t) (.int c u) e/\(e=true↔a=c):=
 ⟨(a==c),SeqAt.EqAt.int_int a t c u,by simp⟩
theorem Gz(A:Around)(s:Shared)(a:Int)(t:Tok)(c:Int)(u:Tok)(prog:Program)(w:World)(E:Value->Shared->Prop)(Q:Value->Shared->Prop)(h:Q (.bool (decide (a<c))) s) :
  wpAny (model prog w) A (richCompare .Lt (.int a t) (.int c u)) Q E s:=
 (PyProof.Rows.lt_int h:wpAny (model prog w) A (compareOp .Lt (.int a t) (.int c u)) Q E s)
section
variable {prog:Program}{w:World}{A:Around}{E:Value->Shared->Prop}{s:Shared}
def sIx (n d:Nat):Option Int->Nat
 |none=>d
 |some v=>if v<0 then (v+(n:Int)).toNat else min v.toNat n
theorem FO(n d:Nat):sIx n d none=d:=rfl
theorem GF(n d k:Nat):sIx n d (some (k:Int))=min k n:=by
 show(if (k:Int)<0 then ((k:Int)+(n:Int)).toNat else min (k:Int).toNat n)=min k n;rw[DY (by lia),Ck]
theorem IZ(n d:Nat)(hd:d<=n)(o:Option Int):sIx n d o<=n:=by
 cases o with
 |none=>exact hd
 |some v=>
  show(if v<0 then (v+(n:Int)).toNat else min v.toNat n)<=n;by_cases hv:v<0
  ·rw[DZ hv];lia
  ·rw[DY hv];exact Nat.min_le_right _ _
end
end HT
namespace L2
open PySem PySem.Spec PyProof.Rows
abbrev TO:=St->Hp->(Option Int->Hp->Prop)->Prop
def PO (X:Cx)(e:Option Expr)(t:TO):Prop:=
 ∀(pins:List (Addr×Obj))(s:Shared)(σ:St)(H:Hp)(Q:Option Int->Hp->Prop),Inv X pins σ H s->t σ H Q ->
  (wq X) (evalPart e X.env) (fun u s'=>∃o H',Inv X pins σ H' s'/\IsPart u o/\Q o H') X.xe s
def JH:TO:=fun _ H Q=>Q none H
def uR (t:TE):TO:=fun σ H Q=>t σ H fun x H1=>∃i,x=.int i/\Q (some i) H1
theorem fH{ns:List Int}:∀{us:List Value},Vals (ns.map V.int) us->IntsAre us ns:=by
 induction ns with
 |nil=>intro us r;rw[De] at r;cases r;exact .nil
 |cons n ns ih=>
  intro us r;rw[Bv] at r;cases r with
  |cons r1 r2=>
   obtain⟨t,e⟩:=r1;subst e;exact .cons n t (ih r2)
section
variable {X:Cx}{e:Expr}{te:TE}{lo hi:Option Expr}{tl th:TO}{pos p2:Pos}
theorem ET:PO X none JH:=by
 intro pins s σ H Q I h;rw[evalPart_none];exact DV ⟨none,H,I,.none,h⟩
theorem bh(h:PE X e te):PO X (some e) (uR te):=by
 intro pins s σ H Q I hw;rw[evalPart_some];refine thn (h pins s σ H _ I hw) fun u s1 hq42=>?_;obtain⟨x,H1,I1,r1,q1⟩:=hq42;obtain⟨i,rfl,q⟩:=q1;obtain⟨t,rfl⟩:=r1;exact⟨some i,H1,I1,.int i t,q⟩
def SlR (X:Cx)(r:V->Option Int->Option Int->Hp->VK->Prop):Prop:=
 ∀(pins:List (Addr×Obj))(s:Shared)(σ:St)(H:Hp)(x:V)(v vl vu:Value)(lo hi:Option Int)(sl:Addr)(Q:VK),Inv X pins σ H s->RelV x v->s.heap.IsSliceOf sl vl vu .none->IsPart vl lo->IsPart vu hi->r x lo hi H Q ->
  ∃T id,typeLookup (.type T) "__getitem__"=pure (some (.builtin id))/\s.TypeIs v T/\(wq X) (getItem v (.ref sl)) (EP X pins σ Q) X.xe s
def tSl (r:V->Option Int->Option Int->Hp->VK->Prop)(te:TE)(tl th:TO):TE:=fun σ H Q=>te σ H fun x H1=>tl σ H1 fun l H2=>th σ H2 fun u H3=>r x l u H3 Q
theorem aW{r:V->Option Int->Option Int->Hp->VK->Prop}(hr:SlR X r)(he:PE X e te)(hl:PO X lo tl)(hu:PO X hi th):PE X (.Subscript e (.Slice lo hi none p2) pos) (tSl r te tl th):=by
 intro pins s σ H Q I h;refine Subscript_ (thn (he pins s σ H _ I h) fun v s1 hq43=>?_);obtain⟨x,H1,I1,r1,q1⟩:=hq43;refine wpAny_Slice (thn (hl pins s1 σ H1 _ I1 q1) fun vl s2 hq44=>?_);obtain⟨l,H2,I2,pl,q2⟩:=hq44;refine thn (hu pins s2 σ H2 _ I2 q2) fun vu s3 ⟨u,H3,I3,pu,q3⟩=>?_;rw[evalPart_none];refine DV ?_;have I4:Inv X pins σ H3 {s3 with heap:=s3.heap.push {cls:=.type "slice",data:=.fields #[vl,vu,.none]}}:=I3.kept (t':=s3.toks) fun b ob q=>Es _ q;obtain⟨T,id,hT,ht,hg⟩:=hr pins {s3 with heap:=s3.heap.push {cls:=.type "slice",data:=.fields #[vl,vu,.none]}} σ H3 x v vl vu l u s3.heap.objs.size Q I4 r1 (Heap.IsSliceOf.new ..) pl pu q3;show (wq X) (subscriptTail e (.Slice lo hi none p2) v (.ref s3.heap.objs.size)) (EP X pins σ Q) X.xe {s3 with heap:=s3.heap.push {cls:=.type "slice",data:=.fields #[vl,vu,.none]}};exact tail_any (ops:=[.ref s3.heap.objs.size,v]) ht hT hg (by with_unfolding_all rfl)
def qm (xs:List V)(lo hi:Option Int):List V:=(xs.drop (HT.sIx xs.length 0 lo)).take (HT.sIx xs.length xs.length hi-HT.sIx xs.length 0 lo)
theorem jF(xs:List V)(lo hi:Option Int):(qm xs lo hi).length<=xs.length:=by
 unfold qm;rw[Bq,BJ];lia
end
def ixN (n:Nat)(i:Int):Option Nat:=if 0<=i then (if i<n then some i.toNat else none) else if -(n:Int)<=i then some (i+n).toNat else none
def atI {α:Type}(xs:List α)(i:Int):Option α:=(ixN xs.length i).bind fun j=>xs[j]?
theorem ma{n:Nat}{i:Int}{j:Nat}(h:ixN n i=some j):seqIndex? i n=some j/\j<n/\-(n:Int)<=i/\i<n:=by
 unfold ixN at h;by_cases h0:0<=i
 ·rw[DZ h0] at h;by_cases h1:i<n
  ·rw[DZ h1] at h;have e:i.toNat=j:=Eh h;exact⟨by rw[seqIndex_of h0 h1,e],by lia,by lia,h1⟩
  ·rw[DY h1] at h;cases h
 ·rw[DY h0] at h;by_cases h1:-(n:Int)<=i
  ·rw[DZ h1] at h;have e:(i+n).toNat=j:=Eh h;exact⟨by rw[seqIndex_neg (by lia) h1,e],by lia,h1,by lia⟩
  ·rw[DY h1] at h;cases h
theorem jc{α:Type}{xs:List α}{i:Int}{v:α}(h:atI xs i=some v):∃j,seqIndex? i xs.length=some j/\xs[j]?=some v/\j<xs.length/\-(xs.length:Int)<=i/\i<xs.length:=by
 unfold atI at h;cases e:ixN xs.length i with
 |none=>rw[e] at h;cases h
 |some j=>
  rw[e] at h;obtain⟨h1,h2,h3,h4⟩:=ma e;exact⟨j,h1,h,h2,h3,h4⟩
theorem bD{α:Type}{xs:List α}{j:Nat}{v:α}(h:xs[j]?=some v):atI xs (j:Int)=some v:=by
 have hj:j<xs.length:=(Be.mp h).1;have e:ixN xs.length (j:Int)=some j:=by
  unfold ixN;rw[DZ (by lia),DZ (by lia)];simp
 unfold atI;rw[e];exact h
def rL (b:Expr):Prop:=∀o i,subscripted b false o i=operate [o,i] (getItem o i)
def IxR (X:Cx)(r:R2):Prop:=
 ∀(value slice:Expr)(pins:List (Addr×Obj))(s:Shared)(σ:St)(H:Hp)(x y:V)(v u:Value)(Q:VK),Inv X pins σ H s->RelV x v->RelV y u->r x y H Q ->
  subscripted slice false v u=operate [v,u] (getItem v u)->(wq X) (subscriptTail value slice v u) (EP X pins σ Q) X.xe s
def MtR (X:Cx)(id:String)(r:V->List V->Hp->VK->Prop):Prop:=
 ∀(pins:List (Addr×Obj))(s:Shared)(σ:St)(H:Hp)(x:V)(xs:List V)(v:Value)(us:List Value)(Q:VK),Inv X pins σ H s->RelV x v->Vals xs us->r x xs H Q ->
  (wq X) (call (.builtin id) (v::us)) (EP X pins σ Q) X.xe s
section
variable {X:Cx}{a b:Expr}{ta tb:TE}{pos:Pos}
theorem aP{r:R2}(hr:IxR X r)(ha:PE X a ta)(hb:PE X b tb)(hs:rL b):PE X (.Subscript a b pos) (tOp r ta tb):=by
 intro pins s σ H Q I h;exact Subscript_ (uK ha hb I h fun v u s2 x y H2 I2 rx ry q=>hr a b pins s2 σ H2 x y v u Q I2 rx ry q (hs _ _))
def fo (K:W.Frag):R2:=fun x y H Q=>∃p xs i v,x=.ref p/\y=.int i/\SqL K H p xs/\atI xs i=some v/\Q v H
def vV (K:W.Frag):R2:=fun x y H Q=>∃p xs i v,x=.ref p/\y=.int i/\SqT K H p xs/\atI xs i=some v/\Q v H
def rIxS:R2:=fun x y H Q=>∃z i c,x=.str z/\y=.int i/\z.length<=sizeLine/\atI z.cps.toList i=some c/\Q (.str ⟨#[c]⟩) H
theorem EI:IxR X (fo X.K):=by
 intro value slice pins s σ H x y v u Q I rx ry h hs;obtain⟨p,xs,i,z,rfl,rfl,hq,he,q⟩:=h;cases rx;obtain⟨t,rfl⟩:=ry;obtain⟨its,r,pl,hz⟩:=I.list hq;obtain⟨j,h1,h2,h3,h4,h5⟩:=jc he;obtain⟨w,ew,rw'⟩:=r.get h2;have hl:=r.length;have hn:=FK;have fin:EP X pins σ Q w s:=⟨z,H,I,rw',q⟩
 by_cases h0:0<=i
 ·have hj:i.toNat=j:=by
   rw[seqIndex_of h0 h5] at h1;exact Eh h1
  exact item_listR pl.isList h0 (by lia) (by rw[hj];simpa using ew) fin hs
 ·have hj:(i+(its.toArray.size:Int)).toNat=j:=by
   rw[seqIndex_neg (by lia) h4] at h1;rw[Bi,<- hl];exact Eh h1
  exact subscriptTail_builtinR (x:=w) pl.isList.typeIs slot_list_getitem.lookup
   (wpAny_getItem_list_neg (Q:=fun r s'=>r=w/\EP X pins σ Q r s') pl.isList (by lia) (by rw[Bi]<;>lia) (by lia) (by rw[hj];simpa using ew) ⟨rfl,fin⟩) hs
theorem FN:IxR X (vV X.K):=by
 intro value slice pins s σ H x y v u Q I rx ry h hs;obtain⟨p,xs,i,z,rfl,rfl,hq,he,q⟩:=h;cases rx;obtain⟨t,rfl⟩:=ry;obtain⟨its,r,pl,hz⟩:=I.tuple hq;obtain⟨j,h1,h2,h3,h4,h5⟩:=jc he;obtain⟨w,ew,rw'⟩:=r.get h2;have hl:=r.length;have hn:=FK;have fin:EP X pins σ Q w s:=⟨z,H,I,rw',q⟩
 exact subscriptTail_builtinR (x:=w) pl.typeIs slot_tuple_getitem.lookup
  (getItem_tuple (j:=j) (Q:=fun r s'=>r=w/\EP X pins σ Q r s') pl (by lia) (by lia) (by rw[Bi,<- hl];exact h1) (by simpa using ew) ⟨rfl,fin⟩) hs
theorem Kf:IxR X rIxS:=by
 intro value slice pins s σ H x y v u Q I rx ry h hs;obtain⟨z,i,c,rfl,rfl,hz,he,q⟩:=h;obtain⟨t,rfl⟩:=rx;obtain⟨t',rfl⟩:=ry;obtain⟨j,h1,h2,h3,h4,h5⟩:=jc he;have hl:z.cps.toList.length=z.length:=by simp[Str.length]
 rw[hl] at h1 h4 h5;have hn:=FK
 exact tail_any (typeIs_str s z t) slot_str_getitem.lookup (getItem_str (c:=c) (by
  have e1:decide (i < -(2^63:Int))=false:=Eb (by lia);have e2:decide (i≥2^63)=false:=Eb (by lia)
  rw[e1,e2,Bool.or_false]) (by rw[h1]; simpa using h2) ⟨.str ⟨#[c]⟩,H,I.tok _,⟨_,rfl⟩,q⟩) hs
theorem lh(its:List Value)(n j:Nat)(u:Value):Obj.mapSeq (·.setIfInBounds j u) {cls:=.type "list",data:=.seq its.toArray n}={cls:=.type "list",data:=.seq (its.set j u).toArray n}:=by
 simp[Obj.mapSeq]
theorem Inv.lst{pins:List (Addr×Obj)}{σ:St}{H:Hp}{s:Shared}{p:Addr}{xs:List V}(I:Inv X pins σ H s)(h:H p=some (.lst xs)) :
  ∃(its:List Value)(n:Nat),Vals xs its/\s.heap.get? p=some {cls:=.type "list",data:=.seq its.toArray n}/\xs.length<=sizeLine:=by
 obtain⟨z,its,n,r,e⟩:=I.hok p _ h;exact⟨its,n,r,e,z⟩
theorem Inv.KH{pins:List (Addr×Obj)}{σ:St}{H:Hp}{s:Shared}{p:Addr}{xs ys:List V}{its its':List Value}{n n':Nat}{f:Obj->Obj}(I:Inv X pins σ H s)(h:H p=some (.lst xs))
  (ho:s.heap.get? p=some {cls:=.type "list",data:=.seq its.toArray n})(hf:f {cls:=.type "list",data:=.seq its.toArray n}={cls:=.type "list",data:=.seq its'.toArray n'})(r:Vals ys its')(hz:ys.length<=sizeLine)(t:Nat) :
  Inv X pins σ (upd H p (.lst ys)) {s with heap:=s.heap.update p f,toks:=t}:=by
 have e:(s.heap.update p f).get? p=some {cls:=.type "list",data:=.seq its'.toArray n'}:=by
  rw[Heap.get?_update_self f ho (by rw[hf]<;>rfl),hf]
 refine I.write (x:=p) (e:=p) (by rw[h];trivial) (.inl rfl) (fun b u hb q=>(Heap.get?_update_other _ _ (Er hb)).trans q) ⟨_,e⟩ ?_;exact⟨hz,its',n',r,e⟩
def Lh:V->V->V->Hp->(Hp->Prop)->Prop:=fun o i v H Q=>∃p xs k j,o=.ref p/\i=.int k/\H p=some (.lst xs)/\ixN xs.length k=some j/\Q (upd H p (.lst (xs.set j v)))
theorem set_list:wa X Lh:=by
 intro pins s σ H o i v ov iv u Q I ro ri rv h;obtain⟨p,xs,k,j,rfl,rfl,hp,hj,q⟩:=h;cases ro;obtain⟨t,rfl⟩:=ri;obtain⟨its,n,r,ho,hz⟩:=I.lst hp;obtain⟨h1,h2,h3,h4⟩:=ma hj;have hl:=r.length;have hn:=FK;have I':Inv X pins σ (upd H p (.lst (xs.set j v))) {s with heap:=s.heap.update p (Obj.mapSeq (·.setIfInBounds j u))}:=
  I.KH hp ho (lh its n j u) (r.set rv j) (by rw[List.length_set];exact hz) s.toks
 by_cases h0:0<=k
 ·have hk:k.toNat=j:=by
   rw[seqIndex_of h0 h4] at h1;exact Eh h1
  exact W.ki_setAt ho h0 (by lia) (by rw[Bi,<- hl];exact h4) (by rw[hk];exact⟨_,I',q⟩)
 ·have hk:(k+(its.toArray.size:Int)).toNat=j:=by
   rw[seqIndex_neg (by lia) h3] at h1;rw[Bi,<- hl];exact Eh h1
  exact W.ki_setBack ho (by lia) (by rw[Bi,<- hl];exact h3) (by lia) (by rw[hk];exact⟨_,I',q⟩)
theorem ix(lo hi:Option Int)(n:Nat):(sliceBounds lo hi none n).1=((HT.sIx n 0 lo:Nat):Int)/\(sliceBounds lo hi none n).2.1=((HT.sIx n n hi:Nat):Int)/\(sliceBounds lo hi none n).2.2=1:=by
 refine⟨?_,?_,rfl⟩
 ·cases lo with
  |none=>simp[sliceBounds,HT.sIx]
  |some i=>
   simp only[sliceBounds,HT.sIx,Option.getD_none,show(1:Int)>0 by decide,if_true];by_cases h:i<0
   ·simp only[h,if_true]<;>lia
   ·simp only[h,if_false]<;>lia
 ·cases hi with
  |none=>simp[sliceBounds,HT.sIx]
  |some i=>
   simp only[sliceBounds,HT.sIx,Option.getD_none,show(1:Int)>0 by decide,if_true];by_cases h:i<0
   ·simp only[h,if_true]<;>lia
   ·simp only[h,if_false]<;>lia
theorem gk(its:List Value)(lo hi:Option Int):slicePick its.toArray lo hi none=((its.drop (HT.sIx its.length 0 lo)).take (HT.sIx its.length its.length hi-HT.sIx its.length 0 lo)).toArray:=by
 obtain⟨h1,h2,h3⟩:=ix lo hi its.toArray.size;unfold slicePick;rw[h1,h2,h3];simp only[sliceRange_one,pick_run,Bi]<;>rfl
def rSlL (K:W.Frag):V->Option Int->Option Int->Hp->VK->Prop:=fun x lo hi H Q=>∃a xs,x=.ref a/\SqL K H a xs/\∀p,H p=none->Q (.ref p) (upd H p (.lst (qm xs lo hi)))
theorem Ir:SlR X (rSlL X.K):=by
 intro pins s σ H x v vl vu lo hi sl Q I rx hs pl pu h;obtain⟨a,xs,rfl,hx,q⟩:=h;cases rx;obtain⟨its,r,ht,hz⟩:=I.list hx;have hlen:=r.length;refine⟨"list",_,slot_list_getitem.lookup,ht.isList.typeIs,?_⟩;refine wpAny_getItem_list_slice ht.isList hs pl pu .none (by simp) ?_ (by rw[Bi]<;>lia);rw[gk,<- hlen];refine⟨.ref s.heap.objs.size,_,I.laid (t':=s.toks) (o:=.lst (qm xs lo hi)) (fun b ob q=>Es _ q) (AW _) ?_,rfl,q _ (I.hok.fresh (AW _))⟩;exact⟨Bm (jF xs lo hi) hz,_,0,(r.drop (HT.sIx xs.length 0 lo)).take (HT.sIx xs.length xs.length hi-HT.sIx xs.length 0 lo),Et _ rfl⟩
def Ga:V->Bool
 |.non=>true
 |.bl _=>true
 |.int _=>true
 |.str _=>true
 |_=>false
def eqV:V->V->Bool
 |.non,.non=>true
 |.bl a,.bl b=>a==b
 |.bl a,.int b=>(if a then 1 else 0)==b
 |.int a,.bl b=>a==(if b then 1 else 0)
 |.int a,.int b=>a==b
 |.str a,.str b=>a==b
 |_,_=>false
theorem tK{A:Around}{s:Shared}{y x:V}{u v:Value}(ry:RelV y u)(rx:RelV x v)(fy:Ga y=true)(fx:Ga x=true):SeqAt.EqAt A s u v (eqV y x):=by
 cases y with
 |non=>
  cases ry;cases x with
  |non=>cases rx;exact SeqAt.EqAt.same _
  |bl b=>cases rx;exact SeqAt.EqAt.none_bool b
  |int b=>obtain⟨t,rfl⟩:=rx;exact SeqAt.EqAt.none_int b t
  |str b=>obtain⟨t,rfl⟩:=rx;exact SeqAt.EqAt.none_str b t
  |_=>exact absurd (show false=true from fx) Bt
 |bl a=>
  cases ry;cases x with
  |non=>cases rx;exact SeqAt.EqAt.bool_none a
  |bl b=>cases rx;exact SeqAt.EqAt.bool_bool a b
  |int b=>obtain⟨t,rfl⟩:=rx;exact SeqAt.EqAt.bool_int a b t
  |str b=>obtain⟨t,rfl⟩:=rx;exact SeqAt.EqAt.bool_str a b t
  |_=>exact absurd (show false=true from fx) Bt
 |int a=>
  obtain⟨t',rfl⟩:=ry;cases x with
  |non=>cases rx;exact SeqAt.EqAt.int_none a t'
  |bl b=>cases rx;exact SeqAt.EqAt.int_bool a t' b
  |int b=>obtain⟨t,rfl⟩:=rx;exact SeqAt.EqAt.int_int a t' b t
  |str b=>obtain⟨t,rfl⟩:=rx;exact SeqAt.EqAt.int_str a t' b t
  |_=>exact absurd (show false=true from fx) Bt
 |str a=>
  obtain⟨t',rfl⟩:=ry;cases x with
  |non=>cases rx;exact SeqAt.EqAt.str_none a t'
  |bl b=>cases rx;exact SeqAt.EqAt.str_bool a t' b
  |int b=>obtain⟨t,rfl⟩:=rx;exact SeqAt.EqAt.str_int a t' b t
  |str b=>obtain⟨t,rfl⟩:=rx;exact SeqAt.EqAt.str_str a t' b t
  |_=>exact absurd (show false=true from fx) Bt
 |_=>exact absurd (show false=true from fy) Bt
def eqU (x:V)(u:Value):Bool:=match u with
 |.none=>eqV .non x
 |.bool b=>eqV (.bl b) x
 |.int i _=>eqV (.int i) x
 |.str z _=>eqV (.str z) x
 |_=>false
theorem qh{x y:V}{u:Value}(r:RelV y u)(f:Ga y=true):eqU x u=eqV y x:=by
 cases y with
 |non=>cases r;rfl
 |bl b=>cases r;rfl
 |int i=>obtain⟨t,rfl⟩:=r;rfl
 |str z=>obtain⟨t,rfl⟩:=r;rfl
 |_=>exact absurd (show false=true from f) Bt
theorem eW{x:V}:∀{xs:List V}{us:List Value},Vals xs us->xs.all Ga=true->us.any (eqU x)=xs.any fun y=>eqV y x
 |_,_,.nil,_=>rfl
 |y::xs,u::us,.cons r t,f=>by
  rw[Df,BM] at f;rw[CC,CC,qh r f.1,eW t f.2]
theorem dE{A:Around}{s:Shared}{x:V}{v:Value}(rx:RelV x v)(fx:Ga x=true):∀{xs:List V}{us:List Value},Vals xs us->xs.all Ga=true->∀u∈us,SeqAt.EqAt A s u v (eqU x u)
 |_,_,.nil,_=>fun u hu=>by cases hu
 |y::xs,u::us,.cons r t,f=>fun u' hu=>by
  rw[Df,BM] at f;rcases Bl.mp hu with rfl|hu
  ·rw[qh r f.1];exact tK r rx f.1 fx
  ·exact dE rx fx t f.2 u' hu
def inV (x:V)(xs:List V):Bool:=xs.any fun y=>eqV y x
def rIn (K:W.Frag)(neg:Bool):R2:=fun x y H Q=>∃p xs,y=.ref p/\(SqL K H p xs\/SqT K H p xs)/\Ga x=true/\xs.all Ga=true/\Q (.bl (if neg then !inV x xs else inV x xs)) H
theorem Ii:OpR X (compareOp .In) (rIn X.K false):=by
 intro pins s σ H x y v u Q I rx ry h;obtain⟨p,xs,rfl,hq,fx,fs,q⟩:=h;cases ry;rcases hq with hq|hq
 ·obtain⟨its,r,pl,hz⟩:=I.list hq;refine SeqAt.in_listAt (eqU x) pl.isList (fun w hw=>dE rx fx r fs w (by simpa using hw)) ⟨.bl _,H,I,rfl,?_⟩;rw[show its.toArray.any (eqU x)=its.any (eqU x) by simp,eW r fs];exact q
 ·obtain⟨its,r,pl,hz⟩:=I.tuple hq;refine SeqAt.in_tupleAt (eqU x) pl (fun w hw=>dE rx fx r fs w (by simpa using hw)) ⟨.bl _,H,I,rfl,?_⟩;rw[show its.toArray.any (eqU x)=its.any (eqU x) by simp,eW r fs];exact q
theorem GV:OpR X (compareOp .NotIn) (rIn X.K true):=by
 intro pins s σ H x y v u Q I rx ry h;obtain⟨p,xs,rfl,hq,fx,fs,q⟩:=h;cases ry;rcases hq with hq|hq
 ·obtain⟨its,r,pl,hz⟩:=I.list hq;refine SeqAt.notIn_listAt (eqU x) pl.isList (fun w hw=>dE rx fx r fs w (by simpa using hw)) ⟨.bl _,H,I,rfl,?_⟩;rw[show its.toArray.any (eqU x)=its.any (eqU x) by simp,eW r fs];exact q
 ·obtain⟨its,r,pl,hz⟩:=I.tuple hq;refine SeqAt.notIn_tupleAt (eqU x) pl (fun w hw=>dE rx fx r fs w (by simpa using hw)) ⟨.bl _,H,I,rfl,?_⟩;rw[show its.toArray.any (eqU x)=its.any (eqU x) by simp,eW r fs];exact q
theorem EM:cy X (.builtin "len") (fun xs H Q=>∃p ys,xs=[.ref p]/\(SqL X.K H p ys\/SqT X.K H p ys)/\Q (.int ys.length) H):=by
 intro pins s σ H xs us Q I r h;obtain⟨p,ys,rfl,hq,q⟩:=h;obtain⟨u,rfl,rx⟩:=dh r;cases rx;have hn:=FK;rcases hq with hq|hq
 ·obtain⟨its,r',pl,hz⟩:=I.list hq;have hlen:=r'.length;exact Calls.call_len_list pl.isList (by simp only[Bi]<;>lia) ⟨.int ys.length,H,I.tok _,⟨s.toks+1,by rw[Bi,hlen]⟩,q⟩
 ·obtain⟨its,r',pl,hz⟩:=I.tuple hq;have hlen:=r'.length;exact len_tuple pl (by simp only[Bi]<;>lia) ⟨.int ys.length,H,I.tok _,⟨s.toks+1,by rw[Bi,hlen]⟩,q⟩
theorem EL:cy X (.builtin "len") (fun xs H Q=>∃z,xs=[.str z]/\z.length<=sizeLine/\Q (.int z.length) H):=by
 intro pins s σ H xs us Q I r h;obtain⟨z,rfl,hz,q⟩:=h;obtain⟨u,rfl,t,rfl⟩:=dh r;have hn:=FK;exact len_str (by lia) ⟨.int z.length,H,I.tok _,⟨_,rfl⟩,q⟩
theorem GL:cy X (.type "list") (fun xs H Q=>∃p ys,xs=[.ref p]/\(SqL X.K H p ys\/SqT X.K H p ys)/\∀l,H l=none->Q (.ref l) (upd H l (.lst ys))):=by
 intro pins s σ H xs us Q I r h;obtain⟨p,ys,rfl,hq,q⟩:=h;obtain⟨u,rfl,rx⟩:=dh r;cases rx;have fin:∀(its:List Value),Vals ys its->ys.length<=sizeLine->∀(h':Heap)(c':Nat),(∀b o',s.heap.get? b=some o'->h'.get? b=some o') ->
   h'.get? s.heap.objs.size=some {cls:=.type "list",dict:=none,data:=.seq its.toArray c',slots:=#[]}->EP X pins σ Q (.ref s.heap.objs.size) {s with heap:=h'}:=fun its r' hz h' c' kp e=>
  ⟨.ref s.heap.objs.size,_,I.laid (t':=s.toks) kp (AW _) (show EY X.prog X.w _ h' _ (.lst ys) from⟨hz,its,c',r',e⟩),rfl,q _ (I.hok.fresh (AW _))⟩
 rcases hq with hq|hq
 ·obtain⟨its,r',pl,hz⟩:=I.list hq;have hlen:=r'.length;obtain⟨o,ho,hc,n,hd⟩:=pl.isList;exact call_list_seq p (.inl rfl) ho hc hd (fun h' c' kp e=>fin its r' hz h' c' kp e) (by simp only[Bi]<;>lia)
 ·obtain⟨its,r',pl,hz⟩:=I.tuple hq;have hlen:=r'.length;obtain⟨o,ho,hc,n,hd⟩:=pl;exact call_list_seq p (.inr rfl) ho hc hd (fun h' c' kp e=>fin its r' hz h' c' kp e) (by simp only[Bi]<;>lia)
theorem GD:cy X (.type "tuple") (fun xs H Q=>∃p ys,xs=[.ref p]/\((SqL X.K H p ys/\∀l,H l=none->Q (.ref l) (upd H l (.tup ys)))\/(SqT X.K H p ys/\Q (.ref p) H))):=by
 intro pins s σ H xs us Q I r h;obtain⟨p,ys,rfl,h⟩:=h;obtain⟨u,rfl,rx⟩:=dh r;cases rx;rcases h with ⟨hq,q⟩|⟨hq,q⟩
 ·obtain⟨its,r',pl,hz⟩:=I.list hq;have hlen:=r'.length;refine call_tuple_list pl.isList (fun h' kp=>?_) (by simp only[Bi]<;>lia);have I1:Inv X pins σ H {s with heap:=h'}:=I.kept (t':=s.toks) kp;have I2:Inv X pins σ (upd H h'.objs.size (.tup ys)) {s with heap:=h'.push {cls:=.type "tuple",data:=.seq its.toArray}}:=
   I1.laid (t':=s.toks) (fun b o e=>Es _ e) (AW _) (show EY X.prog X.w _ _ _ (.tup ys) from⟨hz,its,r',IsTup.new _ _⟩)
  exact⟨.ref h'.objs.size,_,I2,rfl,q _ (I1.hok.fresh (AW _))⟩
 ·obtain⟨its,r',pl,hz⟩:=I.tuple hq;exact call_tuple_same pl ⟨.ref p,H,I,rfl,q⟩
def tyV (K:W.Frag)(T:String)(x:V)(H:Hp):Prop:=match x with
 |.str _=>T="str"
 |.int _=>T="int"
 |.ref p=>(T="list"/\∃xs,SqL K H p xs)\/(T="tuple"/\∃o,K.lookup p=some o/\o.cls=.type "tuple"/\o.dict=none) \/
   (T="dict"/\((∃kvs,H p=some (.dK kvs))\/∃kvs,H p=some (.dT kvs)))\/(T="set"/\∃S n,H p=some (.set S n))
 |_=>False
theorem qg{pins:List (Addr×Obj)}{σ:St}{H:Hp}{s:Shared}{T:String}{x:V}{v:Value}(I:Inv X pins σ H s)(r:RelV x v)(ty:tyV X.K T x H) :
  s.TypeIs v T/\∀a,v=.ref a->∃ob,s.heap.get? a=some ob/\ob.dict=none:=by
 cases x with
 |str z=>
  obtain⟨t,rfl⟩:=r;cases (show T="str" from ty);exact⟨typeIs_str s z t,fun _ e=>nomatch e⟩
 |int i=>
  obtain⟨t,rfl⟩:=r;cases (show T="int" from ty);exact⟨typeIs_int s i t,fun _ e=>nomatch e⟩
 |ref p=>
  cases r;rcases ty with ⟨rfl,xs,hq⟩|⟨rfl,o,hk,hc,hd⟩|⟨rfl,hk⟩|⟨rfl,S,n,hk⟩
  ·obtain⟨its,_,pl,_⟩:=I.list hq;refine⟨pl.isList.typeIs,fun a e=>?_⟩;cases e;obtain⟨o,n,e,c,hd,_⟩:=pl;exact⟨o,e,hd⟩
  ·refine⟨⟨o,I.kIn p o hk,hc⟩,fun a e=>?_⟩;cases e;exact⟨o,I.kIn _ o hk,hd⟩
  ·have z:∃o,s.heap.get? p=some o/\o.ExactDict:=by
    rcases hk with ⟨kvs,hk⟩|⟨kvs,hk⟩
    ·obtain⟨_,_,_,_,o,_,_,e,ex,_⟩:=I.hok p _ hk;exact⟨o,e,ex⟩
    ·obtain⟨_,_,_,_,o,_,_,e,ex,_⟩:=I.hok p _ hk;exact⟨o,e,ex⟩
   obtain⟨o,e,ex⟩:=z;refine⟨⟨o,e,ex.1⟩,fun a e2=>?_⟩;cases e2;exact⟨o,e,ex.2.1⟩
  ·obtain⟨o,_,_,_,e,ex,_⟩:=I.hok p _ hk;refine⟨⟨o,e,ex.1⟩,fun a e2=>?_⟩;cases e2;exact⟨o,e,ex.2.1⟩
 |_=>exact False.elim ty
def tBM0 (K:W.Frag)(T:String)(r:V->List V->Hp->VK->Prop)(to:TE):TE:=fun σ H Q=>to σ H fun x H1=>tyV K T x H1/\r x [] H1 Q
def tBM (K:W.Frag)(T:String)(r:V->List V->Hp->VK->Prop)(to:TE)(t:TA):TE:=fun σ H Q=>to σ H fun x H1=>tyV K T x H1/\t σ H1 fun xs H2=>r x xs H2 Q
variable {o e:Expr}{es:List Expr}{to:TE}{t:TA}{name:Str}{apos cpos:Pos}{T id:String}{r:V->List V->Hp->VK->Prop}
theorem sr(pa:PlainAttrs T)(slot:Slot T name id)(hty:typeOf (.builtin id)=pure (.type "method_descriptor"))(hm:MtR X id r)(ho:PE X o to)
  (hbase:attributeBase o name X.env (eval o X.env)=eval o X.env:=by rfl)(hline:(apos.endLine==cpos.line)=true:=by rfl):PE X (.Call (.Attribute o name apos) [] [] cpos) (tBM0 X.K T r to):=by
 intro pins s σ H Q I h;refine wpAny_Call_method0_late hbase hline (thn (ho pins s σ H _ I h) fun v s1 hq45=>?_);obtain⟨x,H1,I1,r1,ty,q1⟩:=hq45;obtain⟨h1,h2⟩:=qg I1 r1 ty;exact⟨T,id,pa,slot,hty,h1,h2,Calls.callWith_builtin rfl (PySem.evalArgs_none (hm pins s1 σ H1 x [] v [] Q I1 r1 .nil q1))⟩
theorem jn(pa:PlainAttrs T)(slot:Slot T name id)(hty:typeOf (.builtin id)=pure (.type "method_descriptor"))(hm:MtR X id r)(ho:PE X o to)(ha:PA X (e::es) t)
  (hbase:attributeBase o name X.env (eval o X.env)=eval o X.env:=by rfl)
  (hfew:((backTo cpos (starEach (e::es) X.env)).all (fun x=>!x.1) && (backToKw cpos (keywordEach [] X.env)).all (fun x=>x.1.isSome)
   && decide ((e::es).length+([]:List Keyword).length+(if ([]:List Keyword).isEmpty then 0 else 1) < 30))=true:=by rfl)
  (hline:(apos.endLine==cpos.line)=true:=by rfl) (hs:starEach (e::es) X.env=(false,eval e X.env)::starEach es X.env:=by rfl) (hplain:(backTo cpos (starEach es X.env)).any (·.1)=false:=by rfl) :
  PE X (.Call (.Attribute o name apos) (e::es) [] cpos) (tBM X.K T r to t):=by
 intro pins s σ H Q I h;refine wpAny_Call_method_late hbase hfew hline rfl (thn (ho pins s σ H _ I h) fun v s1 hq46=>?_);obtain⟨x,H1,I1,r1,ty,q1⟩:=hq46;obtain⟨h1,h2⟩:=qg I1 r1 ty;refine⟨T,id,pa,slot,hty,h1,h2,?_⟩;have hA:=ha cpos pins s1 σ H1 _ I1 q1;rw[hs] at hA ⊢;refine Calls.callWith_builtin (by show(false||(backTo cpos (starEach es X.env)).any (·.1))=false;rw[hplain]<;>rfl) (Calls.evalArgs_plain ?_);refine thn hA fun us s2 hq47=>?_;obtain⟨vs,H2,I2,r2,q2⟩:=hq47;exact hm pins s2 σ H2 x vs v us Q I2 r1 r2 q2
end
def MtM (X:Cx)(id:String)(r:V->List V->Hp->VK->Prop):Prop:=
 ∀(pins:List (Addr×Obj))(s:Shared)(σ:St)(H:Hp)(x:V)(xs:List V)(v:Value)(us:List Value)(Q:VK),Inv X pins σ H s->RelV x v->Vals xs us->r x xs H Q ->
  (wq X) (call (.builtin id) (v::us)) (EP X pins σ Q) X.xe s
theorem Vals.one:∀{x:V}{us:List Value},Vals [x] us->∃u,us=[u]/\RelV x u
 |_,_,.cons r .nil=>⟨_,rfl,r⟩
theorem Vals.zero:∀{us:List Value},Vals [] us->us=[]
 |_,.nil=>rfl
theorem Vals.dropLast{xs:List V}{us:List Value}(h:Vals xs us):Vals xs.dropLast us.dropLast:=by
 induction h with
 |nil=>exact .nil
 |cons r t ih=>
  cases t with
  |nil=>exact .nil
  |cons q t'=>exact .cons r ih
theorem Vals.rep{xs:List V}{us:List Value}(h:Vals xs us):∀k:Nat,Vals (List.replicate k xs).flatten (List.replicate k us).flatten
 |0=>.nil
 |k+1=>by
  rw[Ca,Ca,Cm,Cm];exact Vals.append h (Vals.rep h k)
theorem kB{α:Type}(l:List α):l.eraseIdx (l.length-1)=l.dropLast:=by
 induction l with
 |nil=>rfl
 |cons a r ih=>
  cases r with
  |nil=>rfl
  |cons b r=>
   have e:(a::b::r).length-1=((b::r).length-1)+1:=by
    have h1:(a::b::r).length=r.length+2:=rfl;have h2:(b::r).length=r.length+1:=rfl;lia
   rw[e,List.eraseIdx_cons_succ,ih]
   all_goals rfl
theorem ig(its:List Value):∀(k:Nat)(acc:List Value),
  List.foldl (fun x1 x2=>x1++x2) acc.toArray (List.replicate k its.toArray)=(acc++(List.replicate k its).flatten).toArray
 |0,acc=>by simp
 |k+1,acc=>by
  have e:acc.toArray++its.toArray=(acc++its).toArray:=by simp
  have e2:(acc++its)++(List.replicate k its).flatten=acc++(List.replicate (k+1) its).flatten:=by
   rw[Ca,Cm,BC]
  rw[<- e2,<- ig its k (acc++its),<- e,Ca,CD]
section
variable {X:Cx}{pins:List (Addr×Obj)}{σ:St}{H:Hp}{s:Shared}{l b:Addr}{xs ys zs:List V}
theorem Inv.KU{its its':List Value}{n:Nat}{f:Array Value->Array Value}{t':Nat}(I:Inv X pins σ H s)(hH:H l=some (.lst xs))
  (e:s.heap.get? l=some {cls:=.type "list",data:=.seq its.toArray n})(hf:f its.toArray=its'.toArray)(hv:Vals ys its')(hz:ys.length<=sizeLine) :
  Inv X pins σ (upd H l (.lst ys)) {s with heap:=s.heap.update l (Obj.mapSeq f),toks:=t'}:=by
 have q:=PySem.IsL.update e f;rw[hf] at q;refine I.write (x:=l) (e:=l) (by rw[hH];exact trivial) (.inl rfl) (fun b' u hb hu=>(Heap.get?_update_other s.heap (Obj.mapSeq f) (Er hb)).trans hu) ⟨_,q⟩ ?_;exact⟨hz,its',_,hv,q⟩
theorem Inv.LB{its:List Value}{t':Nat}(I:Inv X pins σ H s)(hv:Vals ys its)(hz:ys.length<=sizeLine) :
  Inv X pins σ (upd H s.heap.objs.size (.lst ys)) {s with heap:=s.heap.push {cls:=.type "list",data:=.seq its.toArray},toks:=t'}:=
 I.laid (fun _ _ q=>Es _ q) (AW _) ⟨hz,its,0,hv,Et _ rfl⟩
theorem Inv.fresh(I:Inv X pins σ H s):H s.heap.objs.size=none:=I.hok.fresh (AW _)
theorem Inv.HV(I:Inv X pins σ H s)(hH:H l=some (.lst xs)):xs.length<=sizeLine/\∃(its:List Value)(n:Nat),Vals xs its/\xs.length=its.length/\s.heap.get? l=some {cls:=.type "list",data:=.seq its.toArray n}:=by
 obtain⟨z,its,n,r,e⟩:=I.hok l _ hH;exact⟨z,its,n,r,r.length,e⟩
theorem jT{n:Nat}(h:n<=sizeLine):Builtin.List.listTooLong n=false:=by
 unfold Builtin.List.listTooLong;exact Eb (by lia)
end
section
variable {X:Cx}
def Ig:V->List V->Hp->VK->Prop:=fun x vs H Q=>∃l xs y,x=.ref l/\vs=[y]/\H l=some (.lst xs)/\xs.length<sizeLine/\Q .non (upd H l (.lst (xs++[y])))
theorem GZ:MtM X "list.append" Ig:=by
 intro pins s σ H x vs v us Q I rx rv h;obtain⟨l,xs,y,rfl,rfl,hH,hz,q⟩:=h;cases rx;obtain⟨u,rfl,ru⟩:=rv.one;obtain⟨z,its,n,r,hl,e⟩:=I.HV hH;refine call_meets F.slot_list_append ⟨_,e,rfl⟩ F.entry_list_append (F.args_list_append_2 _ _) (PySem.list_append l its.toArray n u (by rw[Bi];lia)) ⟨e,?_⟩;refine⟨.non,_,I.KU (its':=its++[u]) hH e (by simp) (r.append (.cons ru .nil)) ?_,rfl,q⟩;rw[Ba,List.length_singleton];lia
def JQ:V->List V->Hp->VK->Prop:=fun x vs H Q=>∃l b xs zs,x=.ref l/\vs=[.ref b]/\H l=some (.lst xs)/\H b=some (.lst zs)/\xs.length+zs.length<=sizeLine/\Q .non (upd H l (.lst (xs++zs)))
theorem Iv:MtM X "list.extend" JQ:=by
 intro pins s σ H x vs v us Q I rx rv h;obtain⟨l,b,xs,zs,rfl,rfl,hH,hB,hz,q⟩:=h;cases rx;obtain⟨u,rfl,ru⟩:=rv.one;cases ru;obtain⟨z,its,n,r,hl,e⟩:=I.HV hH;obtain⟨z2,its2,n2,r2,hl2,e2⟩:=I.HV hB;have hsz:its.toArray.size+its2.toArray.size<=sizeLine:=by rw[Bi,Bi];lia
 have hlong:¬(!its.toArray.isEmpty&&Builtin.List.listTooLong (its.toArray.size+its2.toArray.size))=true:=by
  rw[jT hsz,Bool.and_false];exact Bt
 refine call_meets F.slot_list_extend ⟨_,e,rfl⟩ F.entry_list_extend (F.args_list_extend_2 _ _)
  (AutoSeq1.list_extend_list_list_0 l its.toArray n b its2.toArray n2 hlong (by rw[Bi];lia) (by lia)) ⟨e,e2,?_⟩
 refine⟨.non,_,I.KU (its':=its++its2) hH e (by simp) (r.append r2) ?_,rfl,q⟩;rw[Ba];lia
def rPop:V->List V->Hp->VK->Prop:=fun x vs H Q=>∃l xs y,x=.ref l/\vs=[]/\H l=some (.lst xs)/\xs[xs.length-1]?=some y/\Q y (upd H l (.lst xs.dropLast))
theorem KP:MtM X "list.pop" rPop:=by
 intro pins s σ H x vs v us Q I rx rv h;obtain⟨l,xs,y,rfl,rfl,hH,hy,q⟩:=h;cases rx;have hus:=rv.zero;subst hus;obtain⟨z,its,n,r,hl,e⟩:=I.HV hH;obtain⟨u,hu,ru⟩:=r.get hy;have hy':its.toArray[its.toArray.size-1]?=some u:=by
  show its.toArray[its.length-1]?=some u;rw[<- Bw,<- hl];exact hu
 refine call_meets F.slot_list_pop ⟨_,e,rfl⟩ F.entry_list_pop (F.args_list_pop_1 _) (MeetsSeq.list_pop_last l its.toArray n u hy' (by rw[Bi];lia)) ⟨e,?_⟩;refine⟨y,_,I.KU (its':=its.dropLast) hH e ?_ r.dropLast ?_,ru,q⟩
 ·show its.toArray.eraseIdxIfInBounds (its.toArray.size-1)=its.dropLast.toArray;rw[Bi,List.eraseIdxIfInBounds_toArray,kB]
 ·rw[List.length_dropLast];lia
def rCat:R2:=fun x y H Q=>∃l b xs zs,x=.ref l/\y=.ref b/\H l=some (.lst xs)/\H b=some (.lst zs)/\xs.length+zs.length<=sizeLine/\∀p,H p=none->Q (.ref p) (upd H p (.lst (xs++zs)))
theorem FG:OpR X (binaryOp .Add) rCat:=by
 intro pins s σ H x y v u Q I rx ry h;obtain⟨l,b,xs,zs,rfl,rfl,hH,hB,hz,q⟩:=h;cases rx;cases ry;obtain⟨z,its,n,r,hl,e⟩:=I.HV hH;obtain⟨z2,its2,n2,r2,hl2,e2⟩:=I.HV hB;refine PySem.P.add_list e e2 ?_ (by rw[Bi,Bi];lia);have ea:its.toArray++its2.toArray=(its++its2).toArray:=by simp
 rw[ea];exact⟨.ref _,_,I.LB (t':=s.toks) (r.append r2) (by rw[Ba];lia),rfl,q _ I.fresh⟩
def rRep:R2:=fun x y H Q=>∃l k xs,x=.ref l/\y=.int k/\H l=some (.lst xs)/\-(2^63)<=k/\k<2^63/\xs.length*k.toNat<=sizeLine /\
 ∀p,H p=none->Q (.ref p) (upd H p (.lst (List.replicate k.toNat xs).flatten))
theorem lV{α:Type}(xs:List α)(k:Nat):(List.replicate k xs).flatten.length=k*xs.length:=by
 induction k with
 |zero=>simp
 |succ k ih=>rw[Ca,Cm,Ba,ih,Nat.succ_mul,Nat.add_comm]
theorem HZ:OpR X (binaryOp .Mult) rRep:=by
 intro pins s σ H x y v u Q I rx ry h;obtain⟨l,k,xs,rfl,rfl,hH,h1,h2,hz,q⟩:=h;cases rx;obtain⟨t,rfl⟩:=ry;obtain⟨z,its,n,r,hl,e⟩:=I.HV hH;have hlen:its.toArray.size*k.toNat<=sizeLine:=by rw[Bi,<- hl];exact hz
 have hcap:¬its.toArray.size*k.toNat>(2^63-1)/8:=by
  have:(sizeLine:Nat)<=(2^63-1)/8:=by decide
  lia
 have hfit:¬(!Builtin.List.listFitsIndex k)=true:=by
  rw[fitsIndex_both h1 h2];exact Bt
 have hlong:¬Builtin.List.listTooLong (its.toArray.size*k.toNat)=true:=by
  rw[jT hlen];exact Bt
 have hnew:List.foldl (fun x1 x2=>x1++x2) #[] (List.replicate (if its.toArray.isEmpty=true then 0 else k.toNat) its.toArray)=(List.replicate k.toNat its).flatten.toArray:=by
  have f0:∀m:Nat,List.foldl (fun x1 x2=>x1++x2) #[] (List.replicate m its.toArray)=(List.replicate m its).flatten.toArray:=fun m=>by
   have:=ig its m [];rw[CQ] at this;exact this
  rw[f0];cases its with
  |nil=>simp
  |cons a r'=>rw[DY (by simp)]
 refine wpAny_binaryOp_repeat_ref (T:="list") (U:="int") (by decide) ⟨_,e,rfl⟩ (fun s'=>typeIs_int s' k t) noFill_list_mul F.fills_int_mul F.slot_int_rmul repeat_list F.slot_int_index.lookup
  (call_meets F.slot_int_rmul (typeIs_int s k t) F.entry_int_rmul (F.args_int_rmul_2 _ _) (int___rmul___int_list k t l its.toArray n)
   ⟨e,rfl,⟨_,e,rfl⟩,call_meets F.slot_list_mul ⟨_,e,rfl⟩ F.entry_list_mul (F.args_list_mul_2 _ _) (AutoListH.list___mul___list_int_3 l its.toArray n k t hfit hcap hlong) ⟨e,?_⟩⟩)
 rw[hnew];exact⟨.ref _,_,I.LB (t':=s.toks) (r.rep k.toNat) (by rw[lV,Nat.mul_comm];exact hz),rfl,q _ I.fresh⟩
end
end L2
namespace Att
open PySem PySem.W PySem.Calls PyProof.Rows
theorem eV{P:Params}{h:Heap}:∀(ns:List Int)(vs:List Value),WellAll P h vs (ns.map WData.int)->IntsAre vs ns:=by
 intro ns;induction ns with
 |nil=>
  intro vs w;rw[De] at w;cases w;exact .nil
 |cons n ns ih=>
  intro vs w;rw[Bv] at w;cases w with
  |cons a b=>
   cases a;exact .cons _ _ (ih _ b)
theorem nv{l:OpenLaw}{n:Nat}(hn:l.most=some n){P:Params}{h:Heap}{args:List WData}{vals:List Value}
  (hpre:l.row.toRowW.claim.pre args=true)(hwl:WellAll P h vals args) :
  ∃a vs ns,vals=[Value.ref a]/\args=[WData.list (ns.map WData.int)]/\h.get? a=some {cls:=.type "list",data:=.seq vs.toArray}/\IntsAre vs ns/\ns.length<=n:=by
 have hsh:WShape.hasAll [] args [.list .int]=true:=(pre_splitW hpre).1;have hc:l.pre.holds [] {args:=args}=true:=(pre_splitW hpre).2;obtain⟨d,r,rfl,h1,h2⟩:=hasAllW_cons hsh;obtain rfl:=hasAllW_nil h2;obtain⟨xs,rfl,h3⟩:=hasW_list h1;obtain⟨ns,rfl⟩:=items_int h3;have hlen:ns.length<=n:=by
  unfold OpenLaw.pre at hc;have h4:(WTm.not (.lt (.lit (.int (n:Int))) (.len (.arg 0)))).holds [] {args:=[.list (ns.map .int)]}=true:=by
   have h4:=(holds_andW hc).1;rw[hn] at h4;exact h4
  have h5:=condW_of h4 (w_not (w_lt w_lit (w_len_list (w_arg rfl))));rw[AX] at h5;refine Dy fun q=>?_;have q':(n:Int)<((ns.length:Nat):Int):=by lia
  first
   |(rw[Ea q'] at h5;exact absurd h5 (by decide))
   |(simp at h5;lia)
 cases hwl with
 |cons w1 w2=>
  cases w2;cases w1 with
  |list ho hall=>exact⟨_,_,ns,rfl,rfl,ho,eV ns _ hall,hlen⟩
theorem mF(l:OpenLaw)(args:List WData):l.row.toRowW.claim.post args (.bool true) args=true:=
 postW_of (r:=l.row.toRowW) (X:=(true==true))
  (show WShape.has [] (.bool true) .bool=true by first|rfl|decide|simp[WShape.has,WShape.arms,WShape.armsAll])
  (show(WTm.eq .res (.lit (.bool true))).value [] {args:=args,res:=some (.bool true),after:=args}=some (.bool (true==true)) from w_eq_bool (w_res rfl) w_lit) rfl
theorem Ho{l:OpenLaw}{n:Nat}{q:Program}{loose:List Str}{XP:(Str->Option Value)->Heap->Prop}{YP:World->Heap->Prop}{d:DefRec}
  (hn:l.most=some n)(hdf:d.params.defaults=[])
  (call:∀(w:World) (s₀ s₁:Shared) (mg mb:Str->Option Value) (fa:Addr) (o:Obj) (pm cd doc:Value) (a:Addr) (vs:List Value) (ns:List Int),
   Ground q loose [] XP w s₀ mg mb s₁.heap->YP w s₁.heap ->
   s₁.heap.get? fa=some o->o.data=.func (docDef d.name d.params d.body d.scope pm cd doc)->s₁.heap.CodeRec cd d.name->mg d.name=some (.ref fa) ->
   s₁.heap.get? a=some {cls:=.type "list",data:=.seq vs.toArray}->IntsAre vs ns->ns.length<=n->s₁.gens=#[] ->
   codeAny (model l.prog w) callerA (.call (.ref fa) ⟨[.ref a],[]⟩) (fun r s'=>r=.ok (.ret (.bool true))/\OldK s₁.heap s'.heap/\s'.os=s₁.os/\AllBare s'.gens) s₁) :
  WalkO q loose XP YP l.row.toRowW d [] (fun f vs=>PySem.call f vs):=by
 intro w s₀ s₁ mg mb G Y fa o pm cd doc dV kV ho hd hcd hD hmg hg args vals as hpre hlay hrd hwl hlo;obtain rfl:dV=.none:=Dflts.none hD hdf;obtain rfl:kV=.none:=Dflts.noKw hD;obtain⟨a,vs,ns,rfl,rfl,hobj,hints,hlen⟩:=nv hn hpre hwl;refine enter_call (codeAny_mono (call w s₀ s₁ mg mb fa o pm cd doc a vs ns G Y ho (fd_plain hd) hcd hmg hobj hints hlen hg) fun r s' hq=>?_);obtain⟨rfl,h2,h3,h4⟩:=hq;exact⟨.inl ⟨.bool true,.bool true,[],rfl,fun _=>rfl,.bool true,mF l _,fun _=>⟨List.Pairwise.nil,fun _ hm=>(nomatch hm)⟩⟩,h2,h3,h4⟩
end Att
namespace L2
open PySem PySem.Spec PyProof.Rows
theorem Ha:∀{vs:List Value}{ns:List Int},IntsAre vs ns->Vals (ns.map V.int) vs
 |_,_,.nil=>.nil
 |_,_,.cons n t h=>.cons ⟨t,rfl⟩ (Ha h)
def bN (s:Stmt):Arguments:=match s with
 |.FunctionDef _ a _ _ _ _ _ _ _ _=>a
 |_=>{posonlyargs:=[],args:=[],vararg:=none,kwonlyargs:=[],kw_defaults:=[],kwarg:=none,defaults:=[]}
def bz (s:Stmt):List Stmt:=match s with
 |.FunctionDef _ _ b _ _ _ _ _ _ _=>b
 |_=>[]
def ak (s:Stmt):Scope:=match s with
 |.FunctionDef _ _ _ _ _ _ sc _ _ _=>sc
 |_=>{kind:=.function,names:=[],isGenerator:=false,isCoroutine:=false}
abbrev CX0:CXT:=fun _ _ _ _ _ _=>False
abbrev E0:XK:=fun _ _ _=>False
theorem sS{X:Cx}:lU CX0 X E0:=fun _ _ _ _ _ _ _ h=>h.elim
structure Fun(K:W.Frag)(x qual:Str)(st:Stmt)(f:Addr)(fd:FuncData):Prop where
 ex:∃(oc:Value)(od:Option Addr)(kV doc pm:Value)(an:Option Addr)(cdv ct:Value)(osl:Array (Option Value)),
  fd=W.fnOf x qual (bN st) (bz st) (ak st) .none kV doc pm an cdv ct/\K.lookup f=some ⟨oc,od,.func fd,osl⟩/\W.codeIn K cdv qual=true
 kp:W.keepIn K (.ref f)=true
section
variable {P:Program}{w:World}{K:PySem.W.Frag}{mg:Str->Option Value}{base:Heap}
theorem Fun.ok{x qual:Str}{st:Stmt}{f:Addr}{fd:FuncData}{N ps:List Str}{k:Nat}{sp:Sp}(F:Fun K x qual st f fd)(S:EG N ps (ak st))(len:∀vs H Q E,sp vs H Q E->vs.length=ps.length)
  (hbody:∀(cdv:Value) (A:Around) (outer:List Env) (s:Shared) (H:Hp) (vs:List V) (Q:VK) (E:XK),FC k (A.deeper (envOfC qual (ak st) s.heap.objs.size f cdv))->sp vs H Q E ->
   ∃t,PSs (bB CX0 P w K mg base N qual (ak st) f cdv A outer s H E).nox (bz st) t/\t { nx:=fun _ H'=>Q .non H',rt:=Q } (start N vs) H):EK P w K mg base CX0 (k+1) f fd ps sp:=by
 obtain⟨oc,od,kV,doc,pm,an,cdv,ct,osl,rfl,lk,hcd⟩:=F.ex;refine se lk hcd S len fun A outer s H vs Q E hr hsp=>?_;obtain⟨t,h,q⟩:=hbody cdv A outer s H vs Q E hr hsp;exact⟨t,h.nox,q⟩
theorem Fun.binds{x qual:Str}{st:Stmt}{f:Addr}{fd:FuncData}{ps:List Str}(F:Fun K x qual st f fd)
  (h:∀(kV doc pm:Value)(an:Option Addr)(cdv ct:Value)(us:List Value),us.length=ps.length->bindArgs (W.fnOf x qual (bN st) (bz st) (ak st) .none kV doc pm an cdv ct) ⟨us,[]⟩=pure (ps.zip us)):Binds K fd ps []:=by
 obtain⟨oc,od,kV,doc,pm,an,cdv,ct,osl,rfl,lk,hcd⟩:=F.ex;exact .all (h kV doc pm an cdv ct)
theorem nI{x qual:Str}{st:Stmt}{f:Addr}{oc:Value}{od an:Option Addr}{osl:Array (Option Value)}{kV doc pm cdv ct:Value}(l:K.lookup f=some ⟨oc,od,.func (W.fnOf x qual (bN st) (bz st) (ak st) .none kV doc pm an cdv ct),osl⟩)
  (c:W.codeIn K cdv qual=true)(k:W.keepIn K (.ref f)=true):Fun K x qual st f (W.fnOf x qual (bN st) (bz st) (ak st) .none kV doc pm an cdv ct):=⟨⟨oc,od,kV,doc,pm,an,cdv,ct,osl,rfl,l,c⟩,k⟩
end
theorem fm{A:Around}{k:Nat}(hr:FC k A):A.units+1<cLine:=Cn (Nat.add_le_add_left (by decide:1<=64) _) hr.units
section
variable {X:Cx}
theorem pv(i:Nat){x:Str}{pos:Pos}(hN:X.N[i]?=some x:=by rfl)(hv:Vis X.env.scope x:=by first|exact Or.inl rfl|exact Or.inr (Or.inl rfl)|exact Or.inr (Or.inr rfl))(hd:(x==("__debug__":Str))=false:=by decide)
  (hcd:(x==("__classdict__":Str))=false:=by decide):PE X (.Name x pos) (rm i):=sJ hN hv hd hcd
end
theorem we{A B:Prop}(h:B):if false=true then A else B:=by
 rw[DY Bt];exact h
theorem vW{A B:Prop}(h:A):if true=true then A else B:=by
 rw[DZ rfl];exact h
theorem qO{c A B:Prop} [Decidable c](h1:c->A)(h2:¬c->B):if c then A else B:=by
 by_cases h:c
 ·rw[DZ h];exact h1 h
 ·rw[DY h];exact h2 h
def EJ (H H':Hp):Prop:=∀b o,H b=some o->H' b=some o
theorem EJ.refl(H:Hp):EJ H H:=fun _ _ h=>h
theorem EJ.trans{H H1 H2:Hp}(a:EJ H H1)(b:EJ H1 H2):EJ H H2:=fun c o h=>b c o (a c o h)
theorem EJ.free{H H':Hp}(e:EJ H H'){l:Addr}(h:H' l=Option.none):H l=Option.none:=by
 cases q:H l with
 |none=>rfl
 |some o=>
  rw[e l o q] at h;cases h
theorem EJ.seq{K:W.Frag}{H H':Hp}{a:Addr}{xs:List V}(e:EJ H H')(h:SqL K H a xs):SqL K H' a xs:=by
 rcases h with (h|⟨o,h⟩)|h
 ·exact .inl (.inl (e _ _ h))
 ·exact .inl (.inr ⟨o,e _ _ h⟩)
 ·exact .inr h
theorem tcut{a b:TS}{D:Ends}{σ:St}{H:Hp}(g:∀D',D'=D->∀R,R=b->sX a R D' σ H):sX a b D σ H:=g _ rfl _ rfl
theorem tcuts{R a b:TS}{D:Ends}{σ:St}{H:Hp}(h:R=sX a b)(g:∀R,R=b->sX a R D σ H):R D σ H:=by subst h;exact g _ rfl
theorem tcutl{R b:TS}{D:Ends}{σ:St}{H:Hp}(h:R=b)(g:b D σ H):R D σ H:=by subst h;exact g
theorem tcutn{D D':Ends}{σ:St}{H:Hp}(h:D'=D)(g:D.nx σ H):D'.nx σ H:=by subst h;exact g
theorem tcutr{D D':Ends}{v:V}{H:Hp}(h:D'=D)(g:D.rt v H):D'.rt v H:=by subst h;exact g
def bU (cells:List (Str×Addr)):List (Str×NameKind)->List (Str×Addr)->List (Str×Addr)
 |[],acc=>acc
 |(n,k)::r,acc=>bU cells r (if k==.free then (n,(cells.lookup n).getD 0)::acc else acc)
theorem bf{scope:Scope}{env:Env}(h:∀y∈scope.names,y.2=.free->∃c,env.cells.lookup y.1=some c):closureFor scope env=pure (bU env.cells scope.names []):=by
 unfold closureFor;have key:∀(l:List (Str×NameKind))(acc:List (Str×Addr)),(∀y∈l,y.2=.free->∃c,env.cells.lookup y.1=some c) ->
   (forIn l acc (fun x r=>match x with
    | (name,kind)=>if (kind == NameKind.free)=true then do let a <- cellOf env name; pure (ForInStep.yield ((name,a)::r)) else pure (ForInStep.yield r)):Sem (List (Str×Addr)))=pure (bU env.cells l acc):=by
  intro l;induction l with
  |nil=>intro acc _;rfl
  |cons y r ih=>
   intro acc hl;obtain⟨n,k⟩:=y;rw[Dg];have ih':=fun acc=>ih acc fun y hy=>hl y (By _ hy);by_cases hk:(k==NameKind.free)=true
   ·obtain⟨c,hc⟩:=hl (n,k) Bj (by simpa using hk);have e1:cellOf env n=pure c:=by unfold cellOf;have hc':env.cells.lookup n=some c:=hc;rw[hc']
    dsimp only;rw[DZ hk,e1];simp only[pure_bind];rw[ih'];unfold bU;rw[DZ hk];have hc':env.cells.lookup n=some c:=hc;rw[hc']
    conv=>rhs;unfold bU
    rfl
   ·dsimp only;rw[DY hk];simp only[pure_bind];rw[ih']
    conv=>rhs;unfold bU
    rw[DY hk]
 have:=key scope.names [] h;simp only[bind_pure] at *;exact this
theorem dI{cells:List (Str×Addr)}:∀{l:List (Str×NameKind)}{acc:List (Str×Addr)}{x:Str}{c:Addr},(∀y∈l,y.2=.free->∃c,cells.lookup y.1=some c)->(∀x c,acc.lookup x=some c->cells.lookup x=some c) ->
  (bU cells l acc).lookup x=some c->cells.lookup x=some c
 |[],_,_,_,_,ha,e=>ha _ _ e
 |(n,k)::r,acc,x,c,h,ha,e=>by
  unfold bU at e;refine dI (fun y hy=>h y (By _ hy)) ?_ e;intro x c e;by_cases hk:(k==NameKind.free)=true
  ·rw[DZ hk] at e;obtain⟨c',hc⟩:=h (n,k) Bj (by simpa using hk);have hc':cells.lookup n=some c':=hc;rw[BN] at e;by_cases hx:(x==n)=true
   ·rw[hx] at e;have hxn:x=n:=by simpa using hx
    subst hxn;simp only[hc',Option.getD_some] at e;rw[hc'];exact e
   ·have hx':(x==n)=false:=by simpa using hx
    rw[hx'] at e;exact ha _ _ e
  ·rw[DY hk] at e;exact ha _ _ e
theorem eF{cells:List (Str×Addr)}:∀{l:List (Str×NameKind)}{acc:List (Str×Addr)}{x:Str},((x,NameKind.free)∈l\/(acc.lookup x).isSome=true)->((bU cells l acc).lookup x).isSome=true
 |[],_,_,h=>by
  rcases h with h|h
  ·cases h
  ·exact h
 |(n,k)::r,acc,x,h=>by
  unfold bU;refine eF ?_;rcases h with h|h
  ·rcases Bl.mp h with e|h
   ·right
    cases e;simp[BN]
   ·exact .inl h
  ·right
   split
   ·rw[BN];split
    ·rfl
    ·exact h
   ·exact h
theorem cY{env:Env}{x:Str}:∀{names:List (Str×NameKind)},names.lookup x=some .free ->
  (names.map fun(n,k)=>if (k==NameKind.free&&env.scope.kind==.function&&env.kindOf n==some .cell) then (n,NameKind.cell) else (n,k)).lookup x=some .cell \/
  (names.map fun(n,k)=>if (k==NameKind.free&&env.scope.kind==.function&&env.kindOf n==some .cell) then (n,NameKind.cell) else (n,k)).lookup x=some .free
 |[],h=>by simp at h
 |(n,k')::r,h=>by
  have ih:=@cY env x r;rw[BN] at h;rw[Bv,BN];by_cases hx:(x==n)=true
  ·simp only[hx] at h;have hk:k'=.free:=Eh h;by_cases c:(k'==NameKind.free&&env.scope.kind==.function&&env.kindOf n==some .cell)=true
   ·rw[DZ c];simp only[hx];exact .inl trivial
   ·rw[DY c];simp only[hx,hk];exact .inr trivial
  ·have hx':(x==n)=false:=by simpa using hx
   simp only[hx'] at h;by_cases c:(k'==NameKind.free&&env.scope.kind==.function&&env.kindOf n==some .cell)=true
   ·rw[DZ c];simp only[hx'];exact ih h
   ·rw[DY c];simp only[hx'];exact ih h
def bJ (js:List Nat)(σ:St):St:=js.map fun j=>(σ[j]?).join
theorem oH{l:List (Str×NameKind)}{acc:List (Str×Addr)}(h:∀y∈l,y.2≠.cell) :
  (forIn l acc (fun x r=>match x with
   | (name,kind)=>if (kind == NameKind.cell)=true then do let a <- alloc { cls:=.type "cell",data:=.cell none }; pure (ForInStep.yield ((name,a)::r)) else pure (ForInStep.yield r)):Sem (List (Str×Addr)))=pure acc:=by
 induction l generalizing acc with
 |nil=>rfl
 |cons y r ih=>
  obtain⟨n,k⟩:=y;rw[Dg];have hk:¬(k==NameKind.cell)=true:=fun z=>h (n,k) Bj (by simpa using z);dsimp only;rw[DY hk];simp only[pure_bind];exact ih fun y hy=>h y (By _ hy)
theorem rB{t:Str}{a b:List (Str×NameKind)}{acc:List (Str×Addr)}(ha:∀y∈a,y.2≠.cell)(hb:∀y∈b,y.2≠.cell) :
  (forIn (a++(t,NameKind.cell)::b) acc (fun x r=>match x with
   | (name,kind)=>if (kind == NameKind.cell)=true then do let a <- alloc { cls:=.type "cell",data:=.cell none }; pure (ForInStep.yield ((name,a)::r)) else pure (ForInStep.yield r)):Sem (List (Str×Addr)))=(do let c <- alloc { cls:=.type "cell",data:=.cell none }; pure ((t,c)::acc)):=by
 induction a generalizing acc with
 |nil=>
  rw[CQ,Dg];dsimp only;rw[DZ (show(NameKind.cell==NameKind.cell)=true from rfl)];simp only[bind_assoc,pure_bind]
  congr 1
  funext c
  exact oH hb
 |cons y r ih=>
  obtain⟨n,k⟩:=y;rw[List.cons_append,Dg];have hk:¬(k==NameKind.cell)=true:=fun z=>ha (n,k) Bj (by simpa using z);dsimp only;rw[DY hk];simp only[pure_bind];exact ih fun y hy=>ha y (By _ hy)
def HJ(names:List (Str×NameKind)):Option Str->Prop
 |none=>∀y∈names,y.2≠.cell
 |some t=>∃a b,names=a++(t,NameKind.cell)::b/\(∀y∈a,y.2≠.cell)/\∀y∈b,y.2≠.cell
def sk (t:Option Str)(C:Addr)(cl:List (Str×Addr)):List (Str×Addr):=match t with
 |none=>cl
 |some t=>(t,C+1)::cl
theorem lH{M:Model}{A:Around}{E:Value->Shared->Prop}{s:Shared}{scope:Scope}{globals:Addr}{cl:List (Str×Addr)}{qual:Str}{func:Option Addr}{code:Value}{around:Option Env}{builtins:Addr}{Q:Env->Shared->Prop}{t:Option Str}(h1:HJ scope.names t)(hk:scope.kind=.function)
  (h:∀h',h'.Ns s.heap.objs.size (fun _=>none)->(∀x,t=some x->h'.IsCell (s.heap.objs.size+1) none)->(∀b o,s.heap.get? b=some o->h'.get? b=some o)->Q (newEnv scope s.heap.objs.size globals (sk t s.heap.objs.size cl) qual func code around builtins) {s with heap:=h'}) :
  wpAny M A (newFunctionEnv scope globals cl [] qual func code around builtins) Q E s:=by
 cases t with
 |none=>
  refine wpAny_newFunctionEnv h1 (by intro y hy;simp at hy) (fun h' n b=>h h' n (fun _ z=>by cases z) fun a o e=>?_) hk;exact b.extBut a o (AZ (Eg e)) (Es _ e)
 |some t=>
 obtain⟨a,b,e,ha,hb⟩:=h1;unfold newFunctionEnv;refine DU (wpAny_alloc ?_);dsimp only;rw[e,rB ha hb];refine DU (DU (wpAny_alloc (DV ?_)));refine DU (DV (DV ?_));have z:(s.heap.push {cls:=.type (if around.isSome=true then "dict" else "frame"),data:=.dict #[]}).objs.size=s.heap.objs.size+1:=EA _ _;have q:=h ((s.heap.push {cls:=.type (if around.isSome=true then "dict" else "frame"),data:=.dict #[]}).push {cls:=.type "cell",data:=.cell none}) ⟨_,#[],_,Es _ (Et _ rfl),rfl,(by intro e he;simp at he),fun _=>rfl⟩ (fun _ _=>⟨_,by rw[<- z];exact Et _ rfl,rfl⟩) (fun b o e=>Es _ (Es _ e));dsimp only;rw[z];cases around<;>exact q
def aJ (X:Cx)(scope:Scope)(t:Option Str)(C:Addr)(fp:List Addr)(N:List Str)(s:Shared)(H:Hp):Cx:=
 {X with N:=N,s₀:=s,H₀:=H,env:=compEnvC scope (sk t C (bU X.env.cells scope.names [])) C X.env,outer:=X.stack,stack:=X.stack,ex:=fp,fn:=fun y=>match t with|some t=>y==t|none=>false,xe:=fun _ _=>False}
structure EN(X:Cx)(scope:Scope)(t:Option Str)(ts:List Str)(cap:List Str)(js:List Nat):Prop where
 kind:scope.kind=.function
 one:HJ scope.names t
 names:∀y∈scope.names,y.2=.local->scope.names.lookup y.1=some .local
 free:∀y∈scope.names,y.2=.free->X.env.kindOf y.1=some .cell\/X.env.kindOf y.1=some .free
 JE:cap.map some=js.map fun j=>X.N[j]?
 KY:∀y∈cap,scope.names.lookup y=some .free
 Lq:∀x∈cap,t≠some x
 nd:(ts++cap).Nodup
abbrev ax(X:Cx)(scope:Scope)(C:Addr)(fp:List Addr)(N:List Str)(s:Shared)(H:Hp):Cx:=aJ X scope none C fp N s H
abbrev aM(X:Cx)(scope:Scope)(ts:List Str)(cap:List Str)(js:List Nat):Prop:=EN X scope none ts cap js
theorem cm{env:Env}{t:Option Str}{x:Str}{k:NameKind}:∀{names:List (Str×NameKind)},(∀y∈names,y.2=.cell->t=some y.1) ->
  (names.map fun(n,k)=>if (k==NameKind.free&&env.scope.kind==.function&&env.kindOf n==some .cell) then (n,NameKind.cell) else (n,k)).lookup x=some k->(k=.cell\/k=.free)->t=some x\/(x,NameKind.free)∈names
 |[],_,h,_=>by simp at h
 |(n,k')::r,hc,h,hk=>by
  rw[Bv,BN] at h;have ih:=@cm env t x k r (fun y hy=>hc y (By _ hy));by_cases c:(k'==NameKind.free&&env.scope.kind==.function&&env.kindOf n==some .cell)=true
  ·rw[DZ c] at h;have hf:k'=.free:=by
    have:=(BM _ _▸(BM _ _▸c).1).1;simpa using this
   by_cases hx:(x==n)=true
   ·have:x=n:=by simpa using hx
    subst this;subst hf;exact .inr Bj
   ·have hx':(x==n)=false:=by simpa using hx
    simp only[hx'] at h;exact(ih h hk).imp id (By _)
  ·rw[DY c] at h;by_cases hx:(x==n)=true
   ·simp only[hx] at h;have:x=n:=by simpa using hx
    subst this;have hkk:k'=k:=Eh h;subst hkk;rcases hk with hk|hk
    ·exact .inl (hc (x,k') Bj hk)
    ·subst hk;exact .inr Bj
   ·have hx':(x==n)=false:=by simpa using hx
    simp only[hx'] at h;exact(ih h hk).imp id (By _)
theorem HJ.is{names:List (Str×NameKind)}:∀{t:Option Str},HJ names t->∀y∈names,y.2=.cell->t=some y.1
 |none,h,y,hy,e=>absurd e (h y hy)
 |some t,h,y,hy,e=>by
  obtain⟨a,b,rfl,ha,hb⟩:=h;rcases Bb.mp hy with z|z
  ·exact absurd e (ha y z)
  ·rcases Bl.mp z with z|z
   ·rw[z]
   ·exact absurd e (hb y z)
theorem bx{names:List (Str×NameKind)}{y:Str}{k:NameKind}(h:names.lookup y=some k):(y,k)∈names:=PySem.mem_of_lookup h
section
variable {X:Cx}{pins:List (Addr×Obj)}{σ:St}{H:Hp}{s:Shared}{scope:Scope}{t:Option Str}{ts cap:List Str}{js:List Nat}{fp:List Addr}{C D:Addr}
theorem EN.cells(CS:EN X scope t ts cap js)(ok:X.Ok):∀y∈scope.names,y.2=.free->∃c,X.env.cells.lookup y.1=some c:=fun y hy hf=>ok.has _ (CS.free y hy hf)
theorem EN.Hu(CS:aM X scope ts cap js):∀y∈scope.names,y.2≠.cell:=CS.one
theorem EN.look(CS:aM X scope ts cap js)(ok:X.Ok){x:Str}{c:Addr}(e:(bU X.env.cells scope.names []).lookup x=some c):X.env.cells.lookup x=some c:=
 dI (CS.cells ok) (fun _ _ z=>by simp at z) e
theorem EN.Gh(CS:EN X scope t ts cap js)(ok:X.Ok){x:Str}{c:Addr}(e:(sk t C (bU X.env.cells scope.names [])).lookup x=some c):(t=some x/\c=C+1)\/X.env.cells.lookup x=some c:=by
 have old:(bU X.env.cells scope.names []).lookup x=some c->X.env.cells.lookup x=some c:=fun e=>dI (CS.cells ok) (fun _ _ z=>by simp at z) e;cases t with
 |none=>exact .inr (old e)
 |some t=>
  replace e:((t,C+1)::bU X.env.cells scope.names []).lookup x=some c:=e
  rw[BN] at e;by_cases hx:(x==t)=true
  ·rw[hx] at e;injection e with e;exact .inl ⟨by rw[show x=t by simpa using hx],e.symm⟩
  ·rw[show(x==t)=false by simpa using hx] at e;exact .inr (old e)
theorem EN.JB(CS:EN X scope t ts cap js){x:Str}(hx:t≠some x)(hm:(x,NameKind.free)∈scope.names)(ok:X.Ok):∃c,(sk t C (bU X.env.cells scope.names [])).lookup x=some c/\X.env.cells.lookup x=some c:=by
 obtain⟨c,e⟩:=CA.mp (eF (cells:=X.env.cells) (acc:=[]) (.inl hm));refine⟨c,?_,dI (CS.cells ok) (fun _ _ z=>by simp at z) e⟩;cases t with
 |none=>exact e
 |some t=>
  show((t,C+1)::bU X.env.cells scope.names []).lookup x=_;rw[BN,beq_false_of_ne (fun z=>hx (by rw[z]))];exact e
theorem eY(I:Inv X pins σ H s)(CS:EN X scope t ts cap js)(hf:∀b∈fp,EW X pins H b)(hfl:∀b∈fp,b<s.heap.objs.size)(hC:s.heap.objs.size<=C):(aJ X scope t C fp (ts++cap) s H).Ok where
 mod:=I.ok.mod
 kind:=CS.kind
 glob:=I.ok.glob
 blt:=I.ok.blt
 above:=hC
 inj:=fun x y c h1 h2=>by
  have big:∀{x},X.env.cells.lookup x=some (C+1)->False:=fun {x} e=>by
   obtain⟨v,o,ho,_⟩:=I.cell x _ e;exact absurd (Eg ho) (Nat.not_lt.mpr (Co hC))
  rcases CS.Gh I.ok h1 with ⟨a,b⟩|a
  ·rcases CS.Gh I.ok h2 with ⟨a',b'⟩|a'
   ·exact Eh (a.symm.trans a')
   ·rw[b] at a';exact(big a').elim
  ·rcases CS.Gh I.ok h2 with ⟨a',b'⟩|a'
   ·rw[b'] at a;exact(big a).elim
   ·exact I.ok.inj x y c a a'
 has:=fun x hx=>by
  have:t=some x\/(x,NameKind.free)∈scope.names:=by
   rcases hx with hx|hx
   ·exact cm (env:=X.env) CS.one.is hx (.inl rfl)
   ·exact cm (env:=X.env) CS.one.is hx (.inr rfl)
  by_cases hxt:t=some x
  ·subst hxt;exact⟨C+1,by show((x,C+1)::bU X.env.cells scope.names []).lookup x=_;rw[BN,beq_self_eq_true]⟩
  ·obtain⟨c,e,_⟩:=CS.JB hxt (this.resolve_left hxt) I.ok;exact⟨c,e⟩
 cab:=fun x c h e=>by
  cases t with
  |none=>cases (show false=true from h)
  |some t=>
   have hx:x=t:=by simpa using(show(x==t)=true from h)
   have e':((t,C+1)::bU X.env.cells scope.names []).lookup x=some c:=e;rw[hx,BN,beq_self_eq_true] at e';injection e' with e';rw[<- e'];exact Co hC
 hd:=I.ok.hd
 frames:=I.ok.frames
 stk:=.inl rfl
 exf:=fun b hb=>⟨AZ (Bc (hfl b hb) hC),fun x c e=>by
  rcases CS.Gh I.ok e with ⟨_,q⟩|q
  ·rw[q];exact Er (AZ (Bc (hfl b hb) (Co hC)))
  ·exact(hf b hb).2.2.2.2.1 x c q⟩
 bs:=I.bs
 bsz:=Bm I.ok.bsz I.sz
 IQ:=fun b o e hb=>by
  rcases (hf b hb).2.2.2.1 with z|z
  ·exact I.ok.IQ b o e z
  ·have q:=(I.ok.bs b o e).1;rw[z] at q;cases q
 HX:=fun b hb z=>by
  rcases Bl.mp (I.GN b z) with q|q
  ·exact(hf b hb).2.1 q
  ·exact(hf b hb).2.2.1 q
 GW:=I.stack
 frf:=I.Gs
theorem eT{s₄:Shared}{m:Str->Option Value}{pins':List (Addr×Obj)}(I:Inv X pins σ H s)(CS:EN X scope t ts cap js)(hf:∀b∈fp,EW X pins H b)(hfl:∀b∈fp,b<s.heap.objs.size)(hC:s.heap.objs.size<=C)
  (old:∀b o,s.heap.get? b=some o->s₄.heap.get? b=some o)(hn:s₄.heap.Ns C m)(hcl:∀x,t=some x->s₄.heap.IsCell (C+1) none)(hos:s₄.os=s.os)(hb:AllBare s₄.gens)
  (hp:∀p∈pins',s₄.heap.get? p.1=some p.2/\H p.1=none/\p.1≠C/\p.1∉frs X.stack/\∀v,p.2.data≠.cell v) :
  Inv (aJ X scope t C fp (ts++cap) s H) pins' (List.replicate ts.length none++bJ js σ) H s₄ where
 ok:=eY I CS hf hfl hC
 os:=hos
 bare:=hb
 base:=Un.kept old
 loc:=⟨m,hn,fun i x v h1 h2 h3=>by
  by_cases hi:i<ts.length
  ·rw[CJ (by simpa using hi)] at h2;rw[Dx] at h2;split at h2<;>cases h2
  ·have h1':cap[i-ts.length]?=some x:=by
    have:=h1;show cap[i-ts.length]?=some x;rw[show(aJ X scope t C fp (ts++cap) s H).N=ts++cap from rfl,BV (by lia)] at this;exact this
   rw[BV (by simpa using hi),CB] at h2;unfold bJ at h2;rw[Br] at h2;cases hj:js[i-ts.length]? with
   |none=>rw[hj] at h2;cases h2
   |some j=>
    rw[hj] at h2;have h2':(σ[j]?).join=some v:=Eh h2;have hσ:σ[j]?=some (some v):=by
     cases e:σ[j]? with
     |none=>rw[e] at h2';cases h2'
     |some o=>rw[e] at h2';rw[show o=some v from h2']
    have hN:X.N[j]?=some x:=by
     have:=congrArg (fun l=>l[i-ts.length]?) CS.JE;simp only[Br,h1',hj] at this;exact(Eh this).symm
    have hfr:=CS.KY x (Bp h1');have hk:=CS.free _ (bx hfr) rfl;obtain⟨m0,hn0,hl⟩:=I.loc;obtain⟨u,r,l⟩:=hl j x v hN hσ (.inr hk);refine⟨u,r,?_⟩;rcases l with ⟨k,_⟩|⟨k,c,e,z⟩
    ·rcases hk with q|q<;>(rw[q] at k;cases k)
    ·have hxt:t≠some x:=CS.Lq x (Bp h1');obtain⟨c',e',e2⟩:=CS.JB (C:=C) hxt (bx hfr) I.ok;have e3:X.env.cells.lookup x=some c:=e;rw[e3] at e2;cases e2;obtain⟨o,ho,hd⟩:=z
     exact .inr ⟨cY hfr,c,e',⟨o,old _ _ ho,hd⟩⟩⟩
 cell:=fun x c e=>by
  rcases CS.Gh I.ok e with ⟨p,q⟩|q
  ·rw[q];exact⟨none,hcl x p⟩
  ·obtain⟨v,o,ho,hd⟩:=I.cell x c q;exact⟨v,o,old _ _ ho,hd⟩
 free:=I.hok.fresh hC
 Fm:=fun x c e=>by
  rcases CS.Gh I.ok e with ⟨_,q⟩|q
  ·rw[q];exact I.hok.fresh (Co hC)
  ·exact I.Fm x c q
 pin:=fun p hp'=>by
  rcases Bb.mp hp' with z|z
  ·obtain⟨e,n,ne,nf,d⟩:=I.pin p (Bn _ z);refine⟨old _ _ e,n,AZ (Bc (Eg e) hC),fun q=>?_,d⟩;rcases Bl.mp (I.GN _ q) with q|q
   ·exact ne q
   ·exact nf q
  ·exact hp p z
 hok:=I.hok.kept old
 len:=by
  show(List.replicate ts.length none++bJ js σ).length=(ts++cap).length;have:=congrArg List.length CS.JE;simp only[AX] at this;rw[Ba,Ba,CB,bJ,AX,this]
theorem jJ{s₄:Shared}{m:Str->Option Value}{pins':List (Addr×Obj)}(I:Inv X pins σ H s)(CS:aM X scope ts cap js)(hf:∀b∈fp,EW X pins H b)(hfl:∀b∈fp,b<s.heap.objs.size)(hC:s.heap.objs.size<=C)
  (old:∀b o,s.heap.get? b=some o->s₄.heap.get? b=some o)(hn:s₄.heap.Ns C m)(hos:s₄.os=s.os)(hb:AllBare s₄.gens)
  (hp:∀p∈pins',s₄.heap.get? p.1=some p.2/\H p.1=none/\p.1≠C/\p.1∉frs X.stack/\∀v,p.2.data≠.cell v) :
  Inv (ax X scope C fp (ts++cap) s H) pins' (List.replicate ts.length none++bJ js σ) H s₄:=eT I CS hf hfl hC old hn (fun _ z=>by cases z) hos hb hp
end
def Kl:TT:=fun _ H Q=>Q true H
def gw (J:It)(k:Nat)(js:List Nat)(g:TG)(tc:TT)(te:TE)(σ:St)(H1:Hp)(Q:VK):Prop:=
 ∃W:Nat->Nat->List V->Hp->Prop,(∃m,W 0 m [] H1)/\∀i m ys H,W i m ys H ->
  (J.stop i H/\ys.length<=sizeLine/\∀p,H p=none->Q (.ref p) (upd H p (.lst ys))) \/
  (J.go i H/\ys.length<sizeLine/\∀x H',J.yld i H x H'->g x (List.replicate k none++bJ js σ) H' fun σ2 H2=>tc σ2 H2 fun b H3=>if b=true then te σ2 H3 fun y H4=>∃m',m'<m/\W (i+1) m' (ys++[y]) H4 else ∃m',m'<m/\W (i+1) m' ys H3)
def pM (wi:TI)(k:Nat)(js:List Nat)(g:TG)(tc:TT)(te:TE):TE:=fun σ H Q=>wi σ H fun J H1=>gw J k js g tc te σ H1 Q
def PTs (X:Cx)(ifs:List Expr)(t:TT):Prop:=
 ∀(pins:List (Addr×Obj))(s:Shared)(σ:St)(H:Hp)(Q:Bool->Hp->Prop),Inv X pins σ H s->t σ H Q ->
  (wq X) (forIn ifs true fun c r=>if r=true then do let ok <- isTrue c X.env (eval c X.env);pure (ForInStep.yield ok) else pure (ForInStep.yield r)) (TP X pins σ Q) X.xe s
theorem aX{X:Cx}:PTs X [] Kl:=fun _ _ _ H _ I h=>wpAny_tests_nil ⟨H,I,h⟩
theorem bY{X:Cx}{c:Expr}{t:TT}(h:PT X c t):PTs X [c] t:=fun pins s σ H Q I hw=>wpAny_tests_one (h pins s σ H Q I hw)
theorem kZ{prog:Program}{w:World}{A:Around}{R:Result->Shared->Prop}{s:Shared}{elt target iter:Expr}{ifs:List Expr}{scope:Scope}{pos:Pos}{it acc:Value}{env:Env}(I:Nat->Shared->Prop)
  (turn:∀n s,I n s->wpAny (model prog w) A (pyNext it) (fun r s₁=>match r with
   |none=>R (.ok .next) s₁
   | some v=>wpAny (model prog w) A (letOwnedTupleGo target it v) (fun _ s₁'=>wpAny (model prog w) A (assign target env v) (fun _ s₂ =>
     wpAny (model prog w) A (forIn ifs true fun c r=>if r=true then do let ok <- isTrue c env (eval c env); pure (ForInStep.yield ok) else pure (ForInStep.yield r)) (fun ok s₃ =>
      if ok=true then wpAny (model prog w) A (eval elt env) (fun x s₄ =>
       wpAny (model prog w) A (call (.builtin "list.append") [acc,x]) (fun _ s₅=>∃m,m < n/\I m s₅) (fun _ _=>False) s₄) (fun _ _=>False) s₃
      else ∃m,m < n/\I m s₃) (fun _ _=>False) s₂) (fun _ _=>False) s₁') (fun _ _=>False) s₁) (fun _ _=>False) s)
  (n:Nat) (h:I n s):codeAny (model prog w) A (.compLoop (.ListComp elt [⟨target,iter,ifs,0⟩] scope pos) 0 it acc env) R s:=by
 refine codeAny_loop rfl I (fun n s hI=>?_) n h;show wpAny _ A ((compTurn (.ListComp elt [⟨target,iter,ifs,0⟩] scope pos) 0 it acc env).onRaise (fun x=>do noteFrame x env;theTreesLotGoes x)) _ _ s;refine wpAny_noted ?_;rw[compTurn_list];refine DU (wpAny_standAt (DU (Ed (turn n s hI) (fun r s₁ h₁=>?_) fun _ _ h'=>h'.elim)));cases r with
 |none=>exact DV h₁
 |some v=>
  refine DU (Ed h₁ (fun _ s₁' h₁'=>?_) fun _ _ h'=>h'.elim);refine DU (Ed h₁' (fun _ s₂ h₂=>DU (Ed h₂ (fun ok s₃ h₃=>?_) fun _ _ h'=>h'.elim)) fun _ _ h'=>h'.elim);cases ok with
  |false=>exact DV ⟨rfl,h₃⟩
  |true=>
   exact DU (DU (Ed h₃ (fun x s₄ h₄=>DU (Ed h₄ (fun _ s₅ h₅=>DV (DV ⟨rfl,h₅⟩)) fun _ _ h'=>h'.elim)) fun _ _ h'=>h'.elim))
abbrev bL(its:List Value)(n:Nat):Obj:={cls:=.type "list",data:=.seq its.toArray n}
section
variable {X:Cx}{pins:List (Addr×Obj)}{σ:St}{H:Hp}{s:Shared}{scope:Scope}{t:Option Str}{ts cap:List Str}{js:List Nat}{fp:List Addr}{C D:Addr}
theorem dO{s':Shared}{σ':St}{H':Hp}{ys:List V}{its:List Value}{n:Nat}(I:Inv X pins σ H s)(hf:∀b∈fp,EW X pins H b)
  (hC:s.heap.objs.size<=C)(hD:s.heap.objs.size<=D)(I':Inv (aJ X scope t C fp (ts++cap) s H) [(D,bL its n)] σ' H' s')(hv:Vals ys its)(hz:ys.length<=sizeLine):Inv X pins σ (upd H' D (.lst ys)) s':=by
 obtain⟨hDg,hDn,hDC,hDs,hDd⟩:=I'.pin (D,bL its n) (AY _ Bj);have nD:∀b o,s.heap.get? b=some o->b≠D:=fun b o e=>AZ (Bc (Eg e) hD);have nDt:∀b o,H b=some o->b≠D:=fun b o e=>AZ (Bc (I.hok.lt e) hD);have u:=I'.base;refine I.JG (ch:=fp) I'.os ⟨fun b o e n hb hx=>u.keep b o e n hb hx,fun b o e n hb hx=>u.slot b o e n hb hx,fun b o e n hx=>?_,fun b o e hx=>u.there b o e hx,fun b xs e=>?_,fun b o xs e=>?_,fun b ps e=>?_⟩ ?_ I'.bare fun b hb=>?_
 ·rw[ao (nD b o e)];exact u.free b o e n hx
 ·rw[ao (nDt b _ e)];exact u.HS b xs e
 ·rw[ao (nDt b _ e)];exact u.HK b o xs e
 ·rw[ao (nDt b _ e)];exact u.Hy b ps e
 ·intro b o e;by_cases hb:b=D
  ·subst hb;rw[ae] at e;cases e;exact⟨hz,its,n,hv,hDg⟩
  ·rw[ao hb] at e;refine(I'.hok b o e).Hr (fun _ _ _ q=>q) (fun c q=>?_) fun c xs q=>?_
   ·by_cases hc:c=D
    ·subst hc;rw[hDn] at q;cases q
    ·rw[ao hc];exact q
   ·by_cases hc:c=D
    ·subst hc;rw[hDn] at q;cases q
    ·rw[ao hc];exact q
 ·obtain⟨f0,f1,f2,f3,f4,f5⟩:=hf b hb;exact⟨f3,f1,f4,f5⟩
theorem bE{pins':List (Addr×Obj)}{σ':St}{H':Hp}{s':Shared}(I:Inv X pins σ H s)(CS:EN X scope t ts cap js)(hf:∀b∈fp,EW X pins H b)(I':Inv (aJ X scope t C fp (ts++cap) s H) pins' σ' H' s') :
  Inv (aJ X scope t C fp (ts++cap) s H) pins' (List.replicate ts.length none++bJ js σ) H' s':=by
 refine⟨I'.ok,I'.os,I'.bare,I'.base,?_,I'.cell,I'.free,I'.Fm,I'.pin,I'.hok,?_⟩
 ·obtain⟨m,hn,_⟩:=I'.loc;refine⟨m,hn,fun i x v h1 h2 h3=>?_⟩;by_cases hi:i<ts.length
  ·rw[CJ (by simpa using hi)] at h2;rw[Dx] at h2;split at h2<;>cases h2
  ·have h1':cap[i-ts.length]?=some x:=by
    have:=h1;rw[show(aJ X scope t C fp (ts++cap) s H).N=ts++cap from rfl,BV (by lia)] at this;exact this
   rw[BV (by simpa using hi),CB] at h2;unfold bJ at h2;rw[Br] at h2;cases hj:js[i-ts.length]? with
   |none=>rw[hj] at h2;cases h2
   |some j=>
    rw[hj] at h2;have h2':(σ[j]?).join=some v:=Eh h2;have hσ:σ[j]?=some (some v):=by
     cases e:σ[j]? with
     |none=>rw[e] at h2';cases h2'
     |some o=>rw[e] at h2';rw[show o=some v from h2']
    have hN:X.N[j]?=some x:=by
     have:=congrArg (fun l=>l[i-ts.length]?) CS.JE;simp only[Br,h1',hj] at this;exact(Eh this).symm
    have hfr:=CS.KY x (Bp h1');have hk:=CS.free _ (bx hfr) rfl;obtain⟨m0,hn0,hl⟩:=I.loc;obtain⟨u,r,l⟩:=hl j x v hN hσ (.inr hk);refine⟨u,r,?_⟩;rcases l with ⟨k,_⟩|⟨k,c,e,z⟩
    ·rcases hk with q|q<;>(rw[q] at k;cases k)
    ·have hxt:t≠some x:=CS.Lq x (Bp h1');obtain⟨c',e',e2⟩:=CS.JB (C:=C) hxt (bx hfr) I.ok;have e3:X.env.cells.lookup x=some c:=e;rw[e3] at e2;cases e2;obtain⟨o,ho,hd⟩:=z;have nfp:c∉fp:=fun q=>(hf c q).2.2.2.2.1 x c e rfl;obtain⟨sl,hg⟩:=I'.base.any ho (I.Fm x c e) nfp;exact .inr ⟨cY hfr,c,e',⟨_,hg,hd⟩⟩
 ·show(List.replicate ts.length none++bJ js σ).length=(ts++cap).length;have:=congrArg List.length CS.JE;simp only[AX] at this;rw[Ba,Ba,CB,bJ,AX,this]
structure He(X:Cx)(tg:Expr)(J:It)(fp:List Addr)(it:Addr)(tn:Nat->Heap->Prop):Prop where
 item:∀(i:Nat)(pins:List (Addr×Obj))(s:Shared)(σ:St)(H:Hp)(E:Value->Shared->Prop),Inv X pins σ H s->(∀b∈fp,EW X pins H b)->tn i s.heap->J.go i H ->
  (wq X) (pyNext (.ref it)) (fun r s1=>∃u,r=some u /\
   (wq X) (letOwnedTupleGo tg (.ref it) u) (fun _ s2=>∃x H',Inv X pins σ H' s2/\RelV x u/\J.yld i H x H'/\tn (i+1) s2.heap/\∀b∈fp,H' b=none) E s1) E s
 done:∀(i:Nat)(pins:List (Addr×Obj))(s:Shared)(σ:St)(H:Hp)(E:Value->Shared->Prop),Inv X pins σ H s->(∀b∈fp,EW X pins H b)->tn i s.heap->J.stop i H ->
  (wq X) (pyNext (.ref it)) (fun r s1=>r=none/\Inv X pins σ H s1) E s
structure TurnOk(P:Program)(w:World)(fp:List Addr)(it:Addr)(tn:Nat->Heap->Prop):Prop where
 obj:∀i h,tn i h->∀b∈fp,∃o,h.get? b=some o/\∀v,o.data≠.cell v
 keep:∀i h h',tn i h->(∀b∈fp,∀o,h.get? b=some o->h'.get? b=some o)->tn i h'
 self:∀(A:Around)(i:Nat)(s:Shared)(Q:Value->Shared->Prop)(E:Value->Shared->Prop),tn i s.heap->Q (.ref it) s->wpAny (model P w) A (pyIter (.ref it)) Q E s
theorem fh{tg elt iter:Expr}{ifs:List Expr}{pos:Pos}{g:TG}{tc:TT}{te:TE}{J:It}{it:Addr}{tn:Nat->Heap->Prop}{W:Nat->Nat->List V->Hp->Prop}{m0:Nat}{E:Value->Shared->Prop}
  {RR:Value->Addr->Result->Shared->Prop}{Fin:List V->Hp->Prop}
  (I:Inv X pins σ H s)(T:TurnOk X.prog X.w fp it tn)(TA:∀C,He (aJ X scope t C fp (ts++cap) s H) tg J fp it tn)(st:tn 0 s.heap)(hf:∀b∈fp,EW X pins H b)(CS:EN X scope t ts cap js)
  (hg:∀C fp s H,PG (aJ X scope t C fp (ts++cap) s H) tg g)(ht:∀C fp s H,PTs (aJ X scope t C fp (ts++cap) s H) ifs tc)(he:∀C fp s H,PE (aJ X scope t C fp (ts++cap) s H) elt te)
  (w0:W 0 m0 [] H)
  (turn:∀i m ys H,W i m ys H->(J.stop i H/\ys.length<=sizeLine/\Fin ys H)\/(J.go i H/\ys.length < sizeLine/\∀x H',J.yld i H x H'->g x (List.replicate ts.length none++bJ js σ) H' fun σ2 H2=>tc σ2 H2 fun b H3 =>
   if b=true then te σ2 H3 fun y H4=>∃m',m' < m/\W (i+1) m' (ys++[y]) H4 else ∃m',m' < m/\W (i+1) m' ys H3))
  (hRR:∀D C s' H' ys m,Inv X pins σ (upd H' D (.lst ys)) s'->s'.heap.Ns C m->s.heap.objs.size<=C->s.heap.objs.size<=D->C≠D->H' C=none->H' D=none->Fin ys H'->RR (.ref D) C (.ok .next) s') :
  (wq X) (newList []) (fun acc s₃=>(wq X) (newFunctionEnv scope X.env.globals (bU X.env.cells scope.names []) [] X.env.qual none .none (some X.env)) (fun cenv s₄ =>
   codeAny (model X.prog X.w) X.A (.compStart (.ListComp elt [⟨tg,iter,ifs,0⟩] scope pos) 0 (.ref it) acc { cenv with scope:=relabel scope X.env }) (RR acc cenv.locals) s₄) E s₃) E s:=by
 refine wpAny_newObj_type (lH CS.one CS.kind (fun h₁ hns₁ hcl₁ hold₁=>?_));dsimp only at hns₁ hcl₁ hold₁ ⊢;generalize hH2:s.heap.push {cls:=.type "list",dict:=none,data:=.seq ([]:List Value).toArray}=H2 at hns₁ hcl₁ hold₁ ⊢;have hCs:H2.objs.size=s.heap.objs.size+1:=by rw[<- hH2,EA]
 have hDC:s.heap.objs.size≠H2.objs.size:=by rw[hCs];exact AZ (Cb _)
 have hCle:s.heap.objs.size<=H2.objs.size:=by rw[hCs];exact BO _
 have below:∀b,b<s.heap.objs.size->b≠H2.objs.size:=fun b hb=>by rw[hCs];exact AZ (BP hb)
 have old:∀b o,s.heap.get? b=some o->h₁.get? b=some o:=fun b o e=>hold₁ b o (hH2▸Es _ e);have hacc:h₁.get? s.heap.objs.size=some (bL [] 0):=hold₁ _ _ (hH2▸Et _ rfl);have hfl:∀b∈fp,b<s.heap.objs.size:=fun b hb=>by obtain⟨o,e,_⟩:=T.obj _ _ st b hb;exact Eg e
 have st₁:tn 0 h₁:=T.keep _ _ _ st fun b _ o e=>old b o e;have hDstk:s.heap.objs.size∉frs X.stack:=fun z=>by
  obtain⟨_,o,ho,_⟩:=I.stack.mem z;exact absurd (Eg ho) (Bx _)
 have I0:Inv (aJ X scope t H2.objs.size fp (ts++cap) s H) [(s.heap.objs.size,bL [] 0)] (List.replicate ts.length none++bJ js σ) H {s with heap:=h₁,toks:=s.toks}:=
  eT I CS hf hfl hCle old hns₁ hcl₁ rfl I.bare fun p hp=>by
   have e:p=(s.heap.objs.size,bL [] 0):=by simpa using hp
   subst e;exact⟨hacc,I.hok.fresh (AW _),hDC,hDstk,fun v z=>by cases z⟩
 have stat:∀{H':Hp}{ys:List Value}{n:Nat},(∀b∈fp,H' b=none)->∀b∈fp,EW (aJ X scope t H2.objs.size fp (ts++cap) s H) [(s.heap.objs.size,bL ys n)] H' b:=fun {H' ys n} hn b hb=>by
  obtain⟨f0,f1,f2,f3,f4,f5⟩:=hf b hb;refine⟨hn b hb,below b (hfl b hb),?_,.inl hb,fun x c e=>?_,fun p hp=>?_⟩
  ·exact(eY I CS hf hfl hCle).HX b hb
  ·rcases CS.Gh I.ok e with ⟨_,q⟩|q
   ·rw[q];exact Er (AZ (Bc (hfl b hb) (Co hCle)))
   ·exact f4 x c q
  ·rcases Bb.mp hp with z|z
   ·exact f5 p (Bn _ z)
   ·have e:p=(s.heap.objs.size,bL ys n):=by simpa using z
    subst e;intro q;have q':s.heap.objs.size=b:=q;exact absurd (hfl b hb) (by rw[<- q'];exact Bx _)
 have loop:∀s₃:Shared,s₃={s with heap:=h₁,toks:=s.toks} ->
   codeAny (model X.prog X.w) X.A (.compLoop (.ListComp elt [⟨tg,iter,ifs,0⟩] scope pos) 0 (.ref it) (.ref s.heap.objs.size) (compEnvC scope (sk t H2.objs.size (bU X.env.cells scope.names [])) H2.objs.size X.env))
    (RR (.ref s.heap.objs.size) H2.objs.size) s₃:=by
  rintro s₃ rfl;refine kZ (fun k s'=>∃i H' ys its n,Inv (aJ X scope t H2.objs.size fp (ts++cap) s H) [(s.heap.objs.size,bL its n)] (List.replicate ts.length none++bJ js σ) H' s'/\Vals ys its/\tn i s'.heap/\(∀b∈fp,H' b=none)/\W i k ys H') ?_ m0
   ⟨0,H,[],[],0,I0,.nil,st₁,fun b hb=>(hf b hb).1,w0⟩
  rintro k s3 ⟨i,H3,ys,its,n,I3,v3,st3,fr3,w3⟩;rcases turn i k ys H3 w3 with ⟨stop,hz,fin⟩|⟨go,hz,step⟩
  ·refine thn ((TA _).done i _ s3 _ H3 _ I3 (stat fr3) st3 stop) fun r s4 hq48=>?_;obtain⟨hr,I4⟩:=hq48;subst hr;obtain⟨m4,hn4,_⟩:=I4.loc;exact hRR _ _ s4 H3 ys m4 (dO I hf hCle (AW _) I4 v3 hz) hn4 hCle (AW _) (Er hDC) I4.free (I4.pin (s.heap.objs.size,bL its n) (AY _ Bj)).2.1 fin
  ·refine thn ((TA _).item i _ s3 _ H3 _ I3 (stat fr3) st3 go) fun r s4 hq49=>?_;obtain⟨u,hr,h4⟩:=hq49;subst hr;refine thn h4 fun _ s5 hq50=>?_;obtain⟨x,H5,I5,r5,y5,st5,fr5⟩:=hq50;have I5':=I5.pinned (stat fr5) (T.obj _ _ st5);refine thn (hg _ _ _ _ _ s5 _ H5 x u _ I5' r5 (step x H5 y5)) fun _ s6 hq51=>?_;obtain⟨σ6,H6,I6,q6⟩:=hq51;refine thn (ht _ _ _ _ _ s6 σ6 H6 _ I6 q6) fun ok s7 hq52=>?_;obtain⟨H7,I7,q7⟩:=hq52;have pinned:∀{σ':St}{H':Hp}{s':Shared},Inv (aJ X scope t H2.objs.size fp (ts++cap) s H) ([(s.heap.objs.size,bL its n)]++bO fp s5.heap) σ' H' s'->tn (i+1) s'.heap/\∀b∈fp,H' b=none:=fun {σ' H' s'} J=>by
    refine⟨T.keep _ _ _ st5 fun b hb o e=>(J.pin (b,o) (AY _ (AY _ (aS hb e)))).1,fun b hb=>?_⟩;obtain⟨o,e,d⟩:=T.obj _ _ st5 b hb;exact(J.pin (b,o) (AY _ (AY _ (aS hb e)))).2.1
   cases ok with
   |false=>
    rw[DY Bt] at q7 ⊢;obtain⟨m',hm,w7⟩:=q7;obtain⟨st7,fr7⟩:=pinned I7;exact⟨m',hm,i+1,H7,ys,its,n,bE I CS hf I7.ES,v3,st7,fr7,w7⟩
   |true=>
    rw[DZ rfl] at q7 ⊢;refine thn (he _ _ _ _ _ s7 σ6 H7 _ I7 q7) fun yv s8 hq53=>?_;obtain⟨y,H8,I8,r8,m',hm,w8⟩:=hq53;obtain⟨st8,fr8⟩:=pinned I8;have I8':=bE I CS hf I8.ES;obtain⟨hDg,hDn,hDC',hDs,hDd⟩:=I8'.pin (s.heap.objs.size,bL its n) (AY _ Bj);have hl:=v3.length;refine append_at (hsz:=by rw[Bi];lia) hDg fun h9 hs9 hD9=>?_;have tracked:∀b o,b≠s.heap.objs.size->s8.heap.get? b=some o->h9.get? b=some o:=fun b o hb e=>hs9.extBut b o hb e;have I9:Inv (aJ X scope t H2.objs.size fp (ts++cap) s H) [(s.heap.objs.size,bL (its++[yv]) (n+1))] (List.replicate ts.length none++bJ js σ) H8 {s8 with heap:=h9}:=by
     have J0:Inv (aJ X scope t H2.objs.size fp (ts++cap) s H) [] (List.replicate ts.length none++bJ js σ) H8 s8:=I8'.Fo (fun p hp=>absurd hp (by simp))
     have J:Inv (aJ X scope t H2.objs.size fp (ts++cap) s H) [] (List.replicate ts.length none++bJ js σ) H8 { s8 with heap:=h9,toks:=s8.toks }:=J0.turned (it:=s.heap.objs.size) tracked hDn hDC' (.inr (Heap.get?_none_of_le (AW _))) (fun x c e q=>by
      rcases CS.Gh I.ok e with ⟨_,z⟩|z
      ·rw[z,hCs] at q;exact absurd q (Er (AZ (BP (Cb _))))
      ·obtain⟨v,o,ho,_⟩:=I.cell x c z;rw[q] at ho;exact absurd (Eg ho) (Bx _)) (fun p hp q=>by
       rw[BD] at hp;obtain⟨e,_⟩:=I.pin p (Bn _ hp);rw[q] at e
       exact absurd (Eg e) (Bx _))
     refine J.Fo fun p hp=>?_;have e:p=(s.heap.objs.size,bL (its++[yv]) (n+1)):=by simpa using hp
     subst e;refine⟨?_,hDn,hDC',hDs,fun v z=>by cases z⟩;show h9.get? s.heap.objs.size=_;rw[hD9];simp[bL,Dz]
    have st9:tn (i+1) h9:=T.keep _ _ _ st8 fun b hb o e=>tracked b o (AZ (hfl b hb)) e;exact⟨m',hm,i+1,H8,ys++[y],its++[yv],n+1,I9,v3.append (.cons r8 .nil),st9,fr8,w8⟩
 exact codeAny_compStart_list (loop _ rfl) (T.self _ _ _ _ _ st₁ (loop _ rfl))
theorem fz{tg elt iter:Expr}{ifs:List Expr}{pos:Pos}{g:TG}{tc:TT}{te:TE}{J:It}{it:Addr}{tn:Nat->Heap->Prop}{W:Nat->Nat->List V->Hp->Prop}{m0:Nat}{E:Value->Shared->Prop}
  {RR:Value->Addr->Result->Shared->Prop}{Fin:List V->Hp->Prop}
  (I:Inv X pins σ H s)(hc:X.calm=true)(T:Turn X.prog X.w X.K tg J fp it tn)(st:tn 0 s.heap)(hf:∀b∈fp,EW X pins H b)(CS:aM X scope ts cap js)
  (hg:∀C fp s H,PG (ax X scope C fp (ts++cap) s H) tg g)(ht:∀C fp s H,PTs (ax X scope C fp (ts++cap) s H) ifs tc)(he:∀C fp s H,PE (ax X scope C fp (ts++cap) s H) elt te)
  (w0:W 0 m0 [] H)
  (turn:∀i m ys H,W i m ys H->(J.stop i H/\ys.length<=sizeLine/\Fin ys H)\/(J.go i H/\ys.length < sizeLine/\∀x H',J.yld i H x H'->g x (List.replicate ts.length none++bJ js σ) H' fun σ2 H2=>tc σ2 H2 fun b H3 =>
   if b=true then te σ2 H3 fun y H4=>∃m',m' < m/\W (i+1) m' (ys++[y]) H4 else ∃m',m' < m/\W (i+1) m' ys H3))
  (hRR:∀D C s' H' ys m,Inv X pins σ (upd H' D (.lst ys)) s'->s'.heap.Ns C m->s.heap.objs.size<=C->s.heap.objs.size<=D->C≠D->H' C=none->H' D=none->Fin ys H'->RR (.ref D) C (.ok .next) s') :
  (wq X) (newList []) (fun acc s₃=>(wq X) (newFunctionEnv scope X.env.globals (bU X.env.cells scope.names []) [] X.env.qual none .none (some X.env)) (fun cenv s₄ =>
   codeAny (model X.prog X.w) X.A (.compStart (.ListComp elt [⟨tg,iter,ifs,0⟩] scope pos) 0 (.ref it) acc { cenv with scope:=relabel scope X.env }) (RR acc cenv.locals) s₄) E s₃) E s :=
 fh I ⟨T.obj,T.keep,T.self⟩ (fun C=>⟨T.item (ax X scope C fp (ts++cap) s H) rfl rfl rfl hc,T.done (ax X scope C fp (ts++cap) s H) rfl rfl rfl hc⟩) st hf CS hg ht he w0 turn hRR
end
section
variable {X:Cx}{scope:Scope}{ts cap:List Str}{js:List Nat}{tg elt iter:Expr}{ifs:List Expr}{pos:Pos}{wi:TI}{g:TG}{tc:TT}{te:TE}
theorem bK{pins:List (Addr×Obj)}{σ:St}{H:Hp}{s:Shared}{C:Addr}{h':Heap}{n0:Nat}(I:Inv X pins σ H s)(hC0:X.s₀.heap.get? C=none)(hCL:X.env.locals≠C)(hcell:∀x c,X.env.cells.lookup x=some c->c≠C)(hpin:∀p∈X.pn++pins,p.1≠C)(hn:H C=none)(hs:Heap.SameBut C s.heap h'):Inv X pins σ H {s with heap:=h'}:=
 I.turned (t':=s.toks) (fun b o hb e=>hs.extBut b o hb e) hn (Er hCL) (.inr hC0) hcell hpin
theorem bo(hc:X.calm=true)(CS:aM X scope ts cap js)(hi:PI X tg iter wi)(hg:∀C fp s H,PG (ax X scope C fp (ts++cap) s H) tg g)
  (ht:∀C fp s H,PTs (ax X scope C fp (ts++cap) s H) ifs tc)(he:∀C fp s H,PE (ax X scope C fp (ts++cap) s H) elt te)
  (hs:∀x,foldedSetIterable iter X.env x=pure x:=by intro _;rfl):PE X (.ListComp elt [⟨tg,iter,ifs,0⟩] scope pos) (pM wi ts.length js g tc te):=by
 intro pins s σ H Q I h;rw[eval_ListComp];refine wpAny_comprehension_free (use:=none) rfl hs (bf (CS.cells I.ok)) CS.kind CS.names (thn (hi pins s σ H _ I h) fun v s1 h1=>thn h1 fun itv s2 h2=>?_);obtain⟨it,fp,tn,J,H2,e,I2,T,st2,f2,W,⟨m0,w0⟩,turn⟩:=h2;subst e;refine fz (RR:=fun acc C=>compPost (model X.prog X.w) X.A X.xe none (EP X pins σ Q) acc C) I2 hc T st2 f2 CS hg ht he w0 turn ?_;intro D C s' H' ys m I' hn hC hD hCD hHC hHD fin;have szL:=I2.lt;have low:∀b o,s2.heap.get? b=some o->b≠C:=fun b o e=>AZ (Bc (Eg e) hC);refine⟨m,hn,fun h' hs'=>⟨.ref D,_,bK (n0:=0) I' (Heap.get?_none_of_le (Bm I2.sz hC)) (AZ (Bc szL hC)) (fun x c e=>?_) (fun p hp=>?_) (by rw[ao hCD];exact hHC) hs',rfl,fin D hHD⟩⟩
 ·obtain⟨v,o,ho,_⟩:=I2.cell x c e;exact low c o ho
 ·exact low _ _ (I2.pin p hp).1
def uk (te:TE)(i:Nat):TS:=fun D σ H=>te σ H fun x H1=>D.nx (σ.set i (some x)) H1
theorem cH{i:Nat}{y:Str}{py spos:Pos}(hc:X.calm=true)(CS:aM X scope ts cap js)(hi:PI X tg iter wi)(hg:∀C fp s H,PG (ax X scope C fp (ts++cap) s H) tg g)
  (ht:∀C fp s H,PTs (ax X scope C fp (ts++cap) s H) ifs tc)(he:∀C fp s H,PE (ax X scope C fp (ts++cap) s H) elt te)
  (hN:X.N.Nodup)(hy:X.N[i]?=some y)(hx:Loc X.env.scope y)(hsw:swapsWith (.ListComp elt [⟨tg,iter,ifs,0⟩] scope pos) (some (.Name y py)) spos.line X.env=pure true)
  (hs:∀x,foldedSetIterable iter X.env x=pure x:=by intro _;rfl)(hf:X.fn y=true\/X.env.scope.names.lookup y=some .local:=by first|exact .inl rfl|exact .inr rfl|assumption) :
  PS X (.Assign [.Name y py] (.ListComp elt [⟨tg,iter,ifs,0⟩] scope pos) spos) (uk (pM wi ts.length js g tc te) i):=by
 intro pins s σ H D I h;rw[exec_Assign_Name_used _ _ _ _ hsw];refine DU (wpAny_standAt (DU ?_));show wpAny _ X.A (do let _ <- comprehension (.ListComp elt [⟨tg,iter,ifs,0⟩] scope pos) scope X.env _ (newList []) false (eval iter X.env) (some (assign (.Name y py) X.env))) _ _ s
 refine DU (Ed (wpAny_comprehension_free (use:=some (assign (.Name y py) X.env)) (Q:=fun _ s'=>SP X pins D .next s') rfl hs (bf (CS.cells I.ok)) CS.kind CS.names
  (thn (hi pins s σ H _ I h) fun v s1 h1=>thn h1 fun itv s2 h2=>?_)) (fun _ s' hq=>DV (DV hq)) fun _ _ e=>e)
 obtain⟨it,fp,tn,J,H2,e,I2,T,st2,f2,W,⟨m0,w0⟩,turn⟩:=h2;subst e;refine fz (RR:=fun acc C=>compPost (model X.prog X.w) X.A X.xe (some (assign (.Name y py) X.env)) (fun _ s'=>SP X pins D .next s') acc C) I2 hc T st2 f2 CS hg ht he w0 turn ?_;intro D' C s' H' ys m I' hn hC hD hCD hHC hHD fin;have szL:=I2.lt;have low:∀b o,s2.heap.get? b=some o->b≠C:=fun b o e=>AZ (Bc (Eg e) hC);have hCL:X.env.locals≠C:=AZ (Bc szL hC);have hcell:∀x c,X.env.cells.lookup x=some c->c≠C:=fun x c e=>by
  obtain⟨v,o,ho,_⟩:=I2.cell x c e;exact low c o ho
 show wpAny _ X.A (assign (.Name y py) X.env (.ref D')) _ _ _;refine wpAny_assign_Name (eZ (v:=.ref D') I' hN hy hx rfl (fun s'' I'' hch=>?_) hf);obtain⟨a,hsb,ha⟩:=hch;have hCa:C≠a:=by
  rcases ha with z|z
  ·rw[z];exact Er hCL
  ·exact Er (hcell _ _ z)
 refine⟨m,hn.sameBut hsb hCa,fun h' hs'=>⟨_,_,bK (n0:=0) I'' (Heap.get?_none_of_le (Bm I2.sz hC)) hCL hcell (fun p hp=>low _ _ (I2.pin p hp).1) (by rw[ao hCD];exact hHC) hs',fin D' hHD⟩⟩
end
section
variable {κ:Type} [DecidableEq κ]
def fV (kvs:List (κ×V))(k:κ):Option V:=(kvs.find? fun kv=>decide (kv.1=k)).map (·.2)
def eD (kvs:List (κ×V))(k:κ)(v:V):List (κ×V):=
 if (kvs.any fun kv=>decide (kv.1=k))=true then kvs.map (fun kv=>if kv.1=k then (kv.1,v) else kv) else kvs++[(k,v)]
def cB (kvs:List (κ×V))(k:κ):List (κ×V):=kvs.filter fun kv=>decide (kv.1≠k)
theorem dM{p:κ×V}{r:List (κ×V)}{k:κ}(e:p.1=k):fV (p::r) k=some p.2:=by simp[fV,Cc,e]
theorem cK{p:κ×V}{r:List (κ×V)}{k:κ}(e:¬p.1=k):fV (p::r) k=fV r k:=by simp[fV,Cc,e]
theorem kr(k:κ):∀kvs:List (κ×V),(kvs.any fun kv=>decide (kv.1=k))=(fV kvs k).isSome
 |[]=>rfl
 |p::r=>by
  rw[CC];by_cases e:p.1=k
  ·simp only[dM e,Ea e,Bool.true_or,Option.isSome_some]
  ·rw[cK e,Eb e,Bool.false_or];exact kr k r
theorem cW(kvs:List (κ×V))(k:κ)(v:V):(eD kvs k v).length<=kvs.length+1:=by
 unfold eD;split
 ·rw[AX];lia
 ·rw[Ba,BA,DA];lia
theorem HW.Ft{o:Option V}{u:Option Value}(r:HW o u):o.isSome=u.isSome:=by
 cases o with
 |none=>cases u with
  |none=>rfl
  |some _=>exact(show False from r).elim
 |some _=>cases u with
  |none=>exact(show False from r).elim
  |some _=>rfl
theorem KV.val{kvs:List (κ×V)}{vs:List (κ×Value)}(r:KV kvs vs)(k:κ):HW (fV kvs k) (valueAt vs k):=by
 unfold KV at r;induction r with
 |nil=>exact True.intro
 |@cons p q ps qs h t ih=>
  obtain⟨h1,h2⟩:=h;by_cases e:p.1=k
  ·have e':q.1=k:=h1.symm.trans e;have b:valueAt (q::qs) k=some q.2:=by simp[valueAt,Cc,e']
   rw[dM e,b];exact h2
  ·have e':¬q.1=k:=fun z=>e (h1.trans z);have b:valueAt (q::qs) k=valueAt qs k:=by simp[valueAt,Cc,e']
   rw[cK e,b];exact ih
theorem KV.any{kvs:List (κ×V)}{vs:List (κ×Value)}(r:KV kvs vs)(k:κ):(kvs.any fun kv=>decide (kv.1=k))=vs.any fun kv=>decide (kv.1=k):=by
 unfold KV at r;induction r with
 |nil=>rfl
 |cons h t ih=>rw[CC,CC,ih,h.1]
theorem KV.Lp{kvs:List (κ×V)}{vs:List (κ×Value)}(r:KV kvs vs)(k:κ){y:V}{u:Value}(ry:RelV y u) :
  KV (kvs.map fun kv=>if kv.1=k then (kv.1,y) else kv) (vs.map fun kv=>if kv.1=k then (kv.1,u) else kv):=by
 unfold KV at r ⊢;induction r with
 |nil=>exact .nil
 |@cons p q ps qs h t ih=>
  rw[Bv,Bv];refine .cons ?_ ih;obtain⟨h1,h2⟩:=h;by_cases e:p.1=k
  ·rw[DZ e,DZ (h1.symm.trans e)];exact⟨h1,ry⟩
  ·rw[DY e,DY (fun z=>e (h1.trans z))];exact⟨h1,h2⟩
theorem KV.put{kvs:List (κ×V)}{vs:List (κ×Value)}(r:KV kvs vs)(k:κ){y:V}{u:Value}(ry:RelV y u):KV (eD kvs k y) (stored vs k u):=by
 unfold eD stored;rw[r.any k];by_cases e:(vs.any fun kv=>decide (kv.1=k))=true
 ·rw[DZ e,DZ e];exact r.Lp k ry
 ·rw[DY e,DY e];exact Paired.snoc r ⟨rfl,ry⟩
theorem KV.drop{kvs:List (κ×V)}{vs:List (κ×Value)}(r:KV kvs vs)(k:κ):KV (cB kvs k) (without vs k):=by
 unfold KV at r ⊢;unfold cB without;induction r with
 |nil=>exact .nil
 |@cons p q ps qs h t ih=>
  obtain⟨h1,h2⟩:=h;rw[BQ,BQ];by_cases e:p.1=k
  ·have a:¬decide (p.1≠k)=true:=by simp[e]
   have b:¬decide (q.1≠k)=true:=by simp[h1.symm.trans e]
   rw[DY a,DY b];exact ih
  ·have e':¬q.1=k:=fun z=>e (h1.trans z);have a:decide (p.1≠k)=true:=by simp[e]
   have b:decide (q.1≠k)=true:=by simp[e']
   rw[DZ a,DZ b];exact .cons ⟨h1,h2⟩ ih
theorem KV.keys{kvs:List (κ×V)}{vs:List (κ×Value)}(r:KV kvs vs):kvs.map (·.1)=vs.map (·.1):=by
 unfold KV at r;induction r with
 |nil=>rfl
 |cons h t ih=>rw[Bv,Bv,ih,h.1]
theorem KV.length{kvs:List (κ×V)}{vs:List (κ×Value)}(r:KV kvs vs):kvs.length=vs.length:=Paired.length r
theorem pQ(kvs:List (κ×V))(k:κ):(cB kvs k).length<=kvs.length:=Cp _ _
end
theorem il{P:Program}{w:World}{k:Key}{u:Value}(r:RelV (kV k) u):(aH P w).is k u=true:=by
 cases k with
 |inl i=>obtain⟨t,e⟩:=(show ∃t,u=Value.int i t from r);subst e;exact jy P w i t
 |inr x=>obtain⟨t,e⟩:=(show ∃t,u=Value.str x t from r);subst e;exact jd P w x t
theorem iK{P:Program}{w:World}:∀{ks:List Key}{us:List Value},Vals (ks.map kV) us->ItemsAre (aH P w) ks us
 |[],_,r=>by rw[De] at r;cases r;exact .nil
 |k::ks,_,r=>by
  rw[Bv] at r;cases r with
  |cons h t=>exact .cons (il h) (iK t)
abbrev KT(H:Hp):List (List Key×V)->List (List Key×Addr×Value)->Prop:=Paired fun p q=>p.1=q.1/\H q.2.1=some (.tup (p.1.map kV))/\RelV p.2 q.2.2
theorem KT.val{H:Hp}{kvs:List (List Key×V)}{xs:List (List Key×Addr×Value)}(r:KT H kvs xs)(k:List Key):HW (fV kvs k) ((atKey xs k).map (·.2)):=by
 induction r with
 |nil=>exact True.intro
 |@cons p q ps qs h t ih=>
  obtain⟨h1,_,h2⟩:=h;by_cases e:p.1=k
  ·have e':q.1=k:=h1.symm.trans e;have b:atKey (q::qs) k=some q.2:=by simp[atKey,Cc,e']
   rw[dM e,b];exact h2
  ·have e':¬q.1=k:=fun z=>e (h1.trans z);have b:atKey (q::qs) k=atKey qs k:=by simp[atKey,Cc,e']
   rw[cK e,b];exact ih
theorem KT.Lp{H:Hp}{kvs:List (List Key×V)}{xs:List (List Key×Addr×Value)}(r:KT H kvs xs)(k:List Key){y:V}{u:Value}(ry:RelV y u) :
  KT H (kvs.map fun kv=>if kv.1=k then (kv.1,y) else kv) (xs.map (putAt k u)):=by
 induction r with
 |nil=>exact .nil
 |@cons p q ps qs h t ih=>
  rw[Bv,Bv];refine .cons ?_ ih;obtain⟨h1,h2,h3⟩:=h;unfold putAt;by_cases e:p.1=k
  ·rw[DZ e,DZ (h1.symm.trans e)];exact⟨h1,h2,ry⟩
  ·rw[DY e,DY (fun z=>e (h1.trans z))];exact⟨h1,h2,h3⟩
theorem KT.put{H:Hp}{kvs:List (List Key×V)}{xs:List (List Key×Addr×Value)}(r:KT H kvs xs)(k:List Key){b:Addr}{y:V}{u:Value}(hb:H b=some (.tup (k.map kV)))(ry:RelV y u) :
  KT H (eD kvs k y) (storedH xs k b u):=by
 have e:(kvs.any fun kv=>decide (kv.1=k))=(atKey xs k).isSome:=by
  rw[kr,(r.val k).Ft,DB]
 unfold eD storedH;rw[e];by_cases q:(atKey xs k).isSome=true
 ·rw[DZ q,DZ q];exact r.Lp k ry
 ·rw[DY q,DY q];exact Paired.snoc r ⟨rfl,hb,ry⟩
theorem KT.keeps{H H':Hp}{kvs:List (List Key×V)}{xs:List (List Key×Addr×Value)}(r:KT H kvs xs)(ht:∀b ys,H b=some (.tup ys)->H' b=some (.tup ys)):KT H' kvs xs:=
 Paired.Gy r fun _ _ z=>⟨z.1,ht _ _ z.2.1,z.2.2⟩
section
variable {P:Program}{w:World}{H:Hp}{h:Heap}{a:Addr}
theorem sN{u:HO}(ok:HOk P w H h)(e:Rd H a u):EY P w H h a u:=e.ok ok
theorem kM{kvs:List (Key×V)}(ok:HOk P w H h)(e:Rd H a (.dK kvs)):kvs.length<=sizeLine/\(a==sysModules)=false/\∃vs,KV kvs vs/\h.DictOf (aH P w) a vs:=
 show EY P w H h a (.dK kvs) from sN ok e
theorem nY{kvs:List (Key×V)}(ok:HOk P w H h)(e:H a=some (.dK kvs)):kvs.length<=sizeLine/\(a==sysModules)=false/\∃vs,KV kvs vs/\h.DictOf (aH P w) a vs:=kM ok (.inl e)
theorem iz{ks:List Key}(ok:HOk P w H h)(e:H a=some (.tup (ks.map kV))):(tupleKind (aH P w)).is h ks a:=by
 obtain⟨_,its,r,o,h1,h2,n,h3⟩:=(show EY P w H h a (.tup (ks.map kV)) from ok a _ e)
 exact⟨o,its.toArray,n,h1,h2,h3,by simpa using iK r⟩
theorem kN{kvs:List (List Key×V)}(ok:HOk P w H h)(e:Rd H a (.dT kvs)):kvs.length<=sizeLine/\(a==sysModules)=false /\
  ∃xs,KT H kvs xs/\h.DictOfH (tupleKind (aH P w)) a xs:=by
 obtain⟨z,y,xs,r,o,es,ep,h1,h2,h3,h4,h5⟩:=(show EY P w H h a (.dT kvs) from sN ok e)
 refine⟨z,y,xs,r,o,es,ep,h1,h2,h3,h4,fun x hx=>?_,h5⟩;have all:∀{l:List (List Key×V)}{m:List (List Key×Addr×Value)},KT H l m->∀x∈m,(tupleKind (aH P w)).is h x.1 x.2.1:=by
  intro l m q;induction q with
  |nil=>intro x hx;exact nomatch hx
  |@cons p q ps qs hq t ih=>
   intro x hx;rcases Bl.mp hx with e|hx
   ·subst e;exact iz ok (by rw[<- hq.1];exact hq.2.1)
   ·exact ih x hx
 exact all r x hx
theorem vy{kvs:List (List Key×V)}(ok:HOk P w H h)(e:H a=some (.dT kvs)):kvs.length<=sizeLine/\(a==sysModules)=false /\
  ∃xs,KT H kvs xs/\h.DictOfH (tupleKind (aH P w)) a xs:=kN ok (.inl e)
end
def Hh (H:Hp)(a:Addr)(y:V)(r:Option V):Prop:=
 (∃kvs k,Rd H a (.dK kvs)/\y=kV k/\r=fV kvs k)\/∃kvs k b,Rd H a (.dT kvs)/\y=.ref b/\H b=some (.tup (k.map kV))/\r=fV kvs k
def Jz (H:Hp)(a:Addr)(y v:V)(H':Hp):Prop:=
 (∃kvs k,H a=some (.dK kvs)/\y=kV k/\kvs.length<sizeLine/\H'=upd H a (.dK (eD kvs k v))) \/
 ∃kvs k b,H a=some (.dT kvs)/\y=.ref b/\H b=some (.tup (k.map kV))/\kvs.length<sizeLine/\H'=upd H a (.dT (eD kvs k v))
theorem Hh.k{H:Hp}{a:Addr}{kvs:List (Key×V)}{k:Key}(e:H a=some (.dK kvs)):Hh H a (kV k) (fV kvs k):=.inl ⟨kvs,k,.inl e,rfl,rfl⟩
theorem Jz.k{H:Hp}{a:Addr}{kvs:List (Key×V)}{k:Key}{v:V}(e:H a=some (.dK kvs))(hl:kvs.length<sizeLine):Jz H a (kV k) v (upd H a (.dK (eD kvs k v))):=.inl ⟨kvs,k,e,rfl,hl,rfl⟩
section
variable {X:Cx}{pins:List (Addr×Obj)}{σ:St}{H:Hp}{s:Shared}{a:Addr}{y v:V}{u r:Value}{o:Option V}{A:Around}{E:Value->Shared->Prop}
theorem Inv.big(I:Inv X pins σ H s):sysModules<s.heap.objs.size:=by
 have h:mainGlobals<s.heap.objs.size:=(I.mod.glob.keeps I.bk).lt;exact CT (by decide) h
theorem mx{Q:Value->Shared->Prop}(hu:A.units+1<cLine)(I:Inv X pins σ H s)(g:Hh H a y (some v))(ry:RelV y u)(h:∀w' s',Inv X pins σ H s'->RelV v w'->Q w' s') :
  wpAny (model X.prog X.w) A (getItem (.ref a) u) Q E s:=by
 rcases g with ⟨kvs,k,e,ey,l⟩|⟨kvs,k,b,e,ey,eb,l⟩
 ·subst ey;obtain⟨z,hd,vs,rel,dd⟩:=kM I.hok e;obtain⟨w',hw,rw'⟩:=HW.some_of (v:=v) (o:=valueAt vs k) (by rw[l];exact rel.val k);exact wpAny_getItem_of (il ry) dd.mapOf hw (h w' _ (I.tok _) rw')
 ·subst ey;cases (show u=Value.ref b from ry);obtain⟨z,hd,xs,rel,dd⟩:=kN I.hok e;obtain⟨w',hw,rw'⟩:=HW.some_of (v:=v) (o:=(atKey xs k).map (·.2)) (by rw[l];exact rel.val k);obtain⟨p,hp,hp2⟩:=Ce.mp hw;refine wpAny_getItem_heap (tupleKind_room_in1 hu) (iz I.hok eb) dd hp ?_;rw[hp2];exact h w' _ (I.tok _) rw'
theorem vQ{Q:Value->Shared->Prop}(hu:A.units+1<cLine)(I:Inv X pins σ H s)(g:Hh H a y o)(ry:RelV y u)(h:∀s',Inv X pins σ H s'->Q (.bool o.isSome) s') :
  wpAny (model X.prog X.w) A (compareOp .In u (.ref a)) Q E s:=by
 rcases g with ⟨kvs,k,e,ey,l⟩|⟨kvs,k,b,e,ey,eb,l⟩
 ·subst ey;obtain⟨z,hd,vs,rel,dd⟩:=kM I.hok e;refine wpAny_in_of (il ry) hd dd.mapOf ?_;rw[<- (rel.val k).Ft,<- l];exact h _ (I.tok _)
 ·subst ey;cases (show u=Value.ref b from ry);obtain⟨z,hd,xs,rel,dd⟩:=kN I.hok e;refine wpAny_in_heap (tupleKind_room_in1 hu) (iz I.hok eb) hd dd ?_;have q:=(rel.val k).Ft;rw[DB] at q;rw[<- q,<- l];exact h _ (I.tok _)
theorem qX{Q:Value->Shared->Prop}(hu:A.units+1<cLine)(I:Inv X pins σ H s)(g:Hh H a y o)(ry:RelV y u)(h:∀s',Inv X pins σ H s'->Q (.bool (!o.isSome)) s') :
  wpAny (model X.prog X.w) A (compareOp .NotIn u (.ref a)) Q E s:=by
 rcases g with ⟨kvs,k,e,ey,l⟩|⟨kvs,k,b,e,ey,eb,l⟩
 ·subst ey;obtain⟨z,hd,vs,rel,dd⟩:=kM I.hok e;refine wpAny_notIn_of (il ry) hd dd.mapOf ?_;rw[<- (rel.val k).Ft,<- l];exact h _ (I.tok _)
 ·subst ey;cases (show u=Value.ref b from ry);obtain⟨z,hd,xs,rel,dd⟩:=kN I.hok e;refine wpAny_notIn_heap (tupleKind_room_in1 hu) (iz I.hok eb) hd dd ?_;have q:=(rel.val k).Ft;rw[DB] at q;rw[<- q,<- l];exact h _ (I.tok _)
theorem gm{h':Heap}{t':Nat}{ob:HO}(I:Inv X pins σ H s)(mu:Mut (H a))(hs:Heap.SameBut a s.heap h')(he:∃q,h'.get? a=some q)(new:EY X.prog X.w (upd H a ob) h' a ob) :
  Inv X pins σ (upd H a ob) {s with heap:=h',toks:=t'}:=
 I.write (x:=a) (e:=a) mu (.inl rfl) (fun b q hb z=>(hs.2 b hb).trans z) he new
theorem mV{P:Program}{w:World}{H':Hp}{h':Heap}{kvs:List (Key×V)}{vs:List (Key×Value)}(z:kvs.length<=sizeLine)(hd:(a==sysModules)=false)(rel:KV kvs vs)(dd:h'.DictOf (aH P w) a vs) :
  EY P w H' h' a (.dK kvs):=⟨z,hd,vs,rel,dd⟩
theorem lR{H':Hp}{Q:Unit->Shared->Prop}(hu:A.units+1<cLine)(I:Inv X pins σ H s)(g:Jz H a y v H')(ry:RelV y u)(rv:RelV v r)(h:∀s',Inv X pins σ H' s'->Q () s') :
  wpAny (model X.prog X.w) A (setItem (.ref a) u r) Q E s:=by
 rcases g with ⟨kvs,k,e,ey,l,eH⟩|⟨kvs,k,b,e,ey,eb,l,eH⟩
 ·subst ey eH;obtain⟨z,hd,vs,rel,dd⟩:=nY I.hok e;have hz:vs.length<=sizeLine:=by rw[<- rel.length];exact z
  have hl:(eD kvs k v).length<=sizeLine:=by have:=cW kvs k v;lia
  refine wpAny_setItem_pairs (hsz:=hz) (il ry) dd fun h' dd' hs=>h _ ?_;have he:∃q,h'.get? a=some q:=let ⟨q,_,_,hq,_⟩:=dd';⟨q,hq⟩;exact gm I (by rw[e];exact True.intro) hs he (mV hl hd (rel.put k rv) dd')
 ·subst ey eH;cases (show u=Value.ref b from ry);obtain⟨z,hd,xs,rel,dd⟩:=vy I.hok e;have hz:xs.length<=sizeLine:=by rw[<- Paired.length rel];exact z
  have hl:(eD kvs k v).length<=sizeLine:=by have:=cW kvs k v;lia
  refine wpAny_setItem_heap (hsz:=hz) (tupleKind_room_in1 hu) (iz I.hok eb) dd fun h' dd' hs=>h _ ?_;obtain⟨q,es,ep,hq,h2,h3,h4,_,h5⟩:=dd';refine gm I (by rw[e];exact True.intro) hs ⟨q,hq⟩ ⟨hl,hd,_,(rel.put k eb rv).keeps fun c ys ec=>?_,q,es,ep,hq,h2,h3,h4,h5⟩;rw[ao (bZ ec e (fun z=>nomatch z))];exact ec
end
section
variable {X:Cx}{pins:List (Addr×Obj)}{σ:St}{H:Hp}{s:Shared}{a:Addr}{kvs:List (Key×V)}{k:Key}{u:Value}{A:Around}{E:Value->Shared->Prop}
theorem vm{v:V}{more:List Value}{Q:Value->Shared->Prop}(I:Inv X pins σ H s)(e:H a=some (.dK kvs))(ry:RelV (kV k) u)(l:fV kvs k=some v)(hm:more=[]\/∃x,more=[x])
  (h:∀w' s',Inv X pins σ (upd H a (.dK (cB kvs k))) s'->RelV v w'->Q w' s'):wpAny (model X.prog X.w) A (call (.builtin "dict.pop") (.ref a::u::more)) Q E s:=by
 obtain⟨z,hd,vs,rel,dd⟩:=nY I.hok e;obtain⟨w',hw,rw'⟩:=HW.some_of (v:=v) (o:=valueAt vs k) (by rw[<- l];exact rel.val k);have hp:(keyPart u).isSome=true:=by
  cases k with
  |inl i=>obtain⟨t,q⟩:=(show ∃t,u=Value.int i t from ry);subst q;rfl
  |inr x=>obtain⟨t,q⟩:=(show ∃t,u=Value.str x t from ry);subst q;rfl
 have ha:argsOk "dict.pop" ⟨.ref a::u::more,[]⟩:=by
  rcases hm with q|⟨x,q⟩
  ·subst q;exact PySem.F.args_dict_pop_2 _ _
  ·subst q;exact PySem.F.args_dict_pop_3 _ _ _
 refine call_meetsIn PySem.F.slot_dict_pop dd.typeIs PySem.F.entry_dict_pop ha (meets_dict_pop_there (aH X.prog X.w) a (il ry) more hm hp)
  ⟨vs,w',dd,by rw[<- rel.length];exact z,hw,fun h' dd' hs=>h w' _ ?_ rw'⟩
 have he:∃q,h'.get? a=some q:=let ⟨q,_,_,hq,_⟩:=dd';⟨q,hq⟩;exact gm I (by rw[e];exact True.intro) hs he (mV (Bm (pQ kvs k) z) hd (rel.drop k) dd')
end
def wc (i:Expr):Prop:=∀ov iv,subscripted i false ov iv=operate [ov,iv] (getItem ov iv)
theorem rj{prog:Program}{w:World}{A:Around}{E:Value->Shared->Prop}{s:Shared}{env:Env}{value slice:Expr}{pos:Pos}{T id:String}{Q:Value->Shared->Prop}
  (hl:typeLookup (.type T) "__getitem__"=pure (some (.builtin id)))(hs:wc slice)
  (h:wpAny (model prog w) A (eval value env) (fun o s₁=>wpAny (model prog w) A (eval slice env) (fun i s₂=>s₂.TypeIs o T/\wpAny (model prog w) A (getItem o i) Q E s₂) E s₁) E s) :
  wpAny (model prog w) A (eval (.Subscript value slice pos) env) Q E s:=by
 refine Subscript_ (Ed h (fun o s₁ h₁=>Ed h₁ (fun i s₂ h₂=>?_) fun _ _ x=>x) fun _ _ x=>x);obtain⟨hT,h₂⟩:=h₂;unfold subscriptTail;refine DU ?_;rw[getitemInPython_of_ne hT.not_modules];refine DU (wpAny_specialOf hT hl ?_);have fin:wpAny (model prog w) A (subscripted slice false o i) (fun r s₃=>wpAny (model prog w) A (letTemporaryGo value o r >>= fun _=>pure r) Q E s₃) E s₂:=by
  rw[hs o i];exact wpAny_operating (Ed h₂ (fun r s₃ h₃=>DU (wpAny_letTemporaryGo (DV h₃))) fun _ _ x=>x)
 first
  |exact DV (DU fin)
  |exact DU (DV (DU fin))
  |exact DU fin
theorem jD{X:Cx}{pins:List (Addr×Obj)}{σ:St}{H:Hp}{s:Shared}{a:Addr}{y:V}{o:Option V}(I:Inv X pins σ H s)(g:Hh H a y o):s.TypeIs (.ref a) "dict":=by
 rcases g with ⟨kvs,k,e,_,_⟩|⟨kvs,k,b,e,_,_,_⟩
 ·obtain⟨_,_,vs,_,dd⟩:=kM I.hok e;exact dd.typeIs
 ·obtain⟨_,_,xs,_,dd⟩:=kN I.hok e;exact dd.typeIs
def vk (td ty:TE):TE:=fun σ H Q=>td σ H fun x H1=>ty σ H1 fun y H2=>∃a v,x=.ref a/\Hh H2 a y (some v)/\Q v H2
def tDIn (ty td:TE):TE:=fun σ H Q=>ty σ H fun y H1=>td σ H1 fun x H2=>∃a o,x=.ref a/\Hh H2 a y o/\Q (.bl o.isSome) H2
def qV (ty td:TE):TE:=fun σ H Q=>ty σ H fun y H1=>td σ H1 fun x H2=>∃a o,x=.ref a/\Hh H2 a y o/\Q (.bl (!o.isSome)) H2
def vI (td ty tv:TE):TS:=fun D σ H=>tv σ H fun v H1=>td σ H1 fun x H2=>ty σ H2 fun y H3=>∃a H4,x=.ref a/\Jz H3 a y v H4/\D.nx σ H4
section
variable {X:Cx}{o i e value:Expr}{pos pos' tpos:Pos}{td ty tv:TE}
theorem ju(hu:X.A.units+1<cLine)(ho:PE X o td)(hi:PE X i ty)(hs:wc i):PE X (.Subscript o i pos) (vk td ty):=by
 intro pins s σ H Q I h;refine rj PySem.F.slot_dict_getitem.lookup hs (thn (ho pins s σ H _ I h) fun u s1 hq54=>?_);obtain⟨x,H1,I1,rx,q1⟩:=hq54;refine thn (hi pins s1 σ H1 _ I1 q1) fun iv s2 ⟨y,H2,I2,ry,a,v,ex,g,q2⟩=>?_;subst ex;obtain rfl:u=Value.ref a:=rx;exact⟨jD I2 g,mx hu I2 g ry fun w' s3 I3 rw'=>⟨v,H2,I3,rw',q2⟩⟩
theorem qH(hu:X.A.units+1<cLine)(hi:PE X i ty)(ho:PE X o td):PC X .In i o (tDIn ty td):=by
 intro pins s σ H Q I h;refine thn (hi pins s σ H _ I h) fun iv s1 hq55=>?_;obtain⟨y,H1,I1,ry,q1⟩:=hq55;refine thn (ho pins s1 σ H1 _ I1 q1) fun u s2 ⟨x,H2,I2,rx,a,ov,ex,g,q2⟩=>?_;subst ex;obtain rfl:u=Value.ref a:=rx;exact vQ hu I2 g ry fun s3 I3=>⟨.bl ov.isSome,H2,I3,rfl,q2⟩
theorem fk(hu:X.A.units+1<cLine)(hi:PE X i ty)(ho:PE X o td):PC X .NotIn i o (qV ty td):=by
 intro pins s σ H Q I h;refine thn (hi pins s σ H _ I h) fun iv s1 hq56=>?_;obtain⟨y,H1,I1,ry,q1⟩:=hq56;refine thn (ho pins s1 σ H1 _ I1 q1) fun u s2 ⟨x,H2,I2,rx,a,ov,ex,g,q2⟩=>?_;subst ex;obtain rfl:u=Value.ref a:=rx;exact qX hu I2 g ry fun s3 I3=>⟨.bl (!ov.isSome),H2,I3,rfl,q2⟩
theorem jf(hu:X.A.units+1<cLine)(ho:PE X o td)(hi:PE X i ty)(hv:PE X value tv)(hs:swapsWith value (some (.Subscript o i pos')) pos.line X.env=pure false) :
  PS X (.Assign [.Subscript o i pos'] value pos) (vI td ty tv):=by
 intro pins s σ H D I h;refine wpAny_Assign_Subscript (thn (hv pins s σ H _ I h) fun r s1 hq57=>?_) hs;obtain⟨v,H1,I1,rv,q1⟩:=hq57;refine thn (ho pins s1 σ H1 _ I1 q1) fun u s2 ⟨x,H2,I2,rx,q2⟩=>thn (hi pins s2 σ H2 _ I2 q2) fun iv s3 ⟨y,H3,I3,ry,a,H4,ex,g,q3⟩=>?_;subst ex;obtain rfl:u=Value.ref a:=rx;exact lR hu I3 g ry rv fun s4 I4=>⟨σ,H4,I4,q3⟩
end
theorem jX{P:Program}{w:World}{H:Hp}(h:Heap)(hb:sysModules<h.objs.size):EY P w H (h.push {cls:=.type "dict",data:=.dict #[]}) h.objs.size (.dK []):=
 ⟨Bo _,beq_eq_false_iff_ne.mpr (Er (AZ hb)),[],.nil,Heap.DictOf.new h⟩
def Kv:TE:=fun _ H Q=>∀p,H p=none->Q (.ref p) (upd H p (.dK []))
section
variable {X:Cx}{pos:Pos}
theorem GB:PE X (.Dict [] [] pos) Kv:=fun pins s σ H Q I h=>
 wpAny_Dict_empty ⟨.ref s.heap.objs.size,_,I.laid (a:=s.heap.objs.size) (o:=.dK []) (t':=s.toks) (fun _ _ q=>Es _ q) (AW _) (jX s.heap I.big),rfl,h _ (I.hok.fresh (AW _))⟩
end
def Ij:List (TE×TE)->St->Hp->(List (V×V)->Hp->Prop)->Prop
 |[],_,H,Q=>Q [] H
 |(tk,tv)::r,σ,H,Q=>tk σ H fun x H1=>tv σ H1 fun y H2=>Ij r σ H2 fun ps H3=>Q ((x,y)::ps) H3
abbrev VV:List (V×V)->List (Value×Value)->Prop:=Paired fun p q=>RelV p.1 q.1/\RelV p.2 q.2
def PPs (X:Cx)(pos:Pos)(keys:List (Option Expr))(values:List Expr)(trs:List (TE×TE)):Prop:=
 ∀(pins:List (Addr×Obj))(s:Shared)(σ:St)(H:Hp)(Q:List (V×V)->Hp->Prop),Inv X pins σ H s->Ij trs σ H Q ->
  (wq X) (evalPairs (pairTrees keys values X.env pos)) (fun vs s'=>∃ps H',Inv X pins σ H' s'/\VV ps vs/\Q ps H') X.xe s
theorem nu{X:Cx}{pos:Pos}:PPs X pos [] [] []:=fun pins s σ H Q I h=>pairTrees_nil_walk ⟨[],H,I,.nil,h⟩
theorem cL{X:Cx}{pos:Pos}{k v:Expr}{ks:List (Option Expr)}{vs:List Expr}{tk tv:TE}{trs:List (TE×TE)}(hk:PE X k tk)(hv:PE X v tv)(hr:PPs X pos ks vs trs) :
  PPs X pos (some k::ks) (v::vs) ((tk,tv)::trs):=fun pins s σ H Q I h=>
 pairTrees_cons_walk (thn (hk pins s σ H _ I h) fun u s1 ⟨x,H1,I1,rx,q1⟩=>thn (hv pins s1 σ H1 _ I1 q1) fun w2 s2 ⟨y,H2,I2,ry,q2⟩ =>
  thn (hr pins s2 σ H2 _ I2 q2) fun ws s3 ⟨ps,H3,I3,rel,q3⟩=>⟨(x,y)::ps,H3,I3,.cons ⟨rx,ry⟩ rel,q3⟩)
def cx (kvs more:List (Key×V)):List (Key×V):=more.foldl (fun acc kv=>eD acc kv.1 kv.2) kvs
theorem KV.merge:∀{more:List (Key×V)}{rs:List (Key×Value)}{kvs:List (Key×V)}{vs:List (Key×Value)},KV more rs->KV kvs vs->KV (cx kvs more) (merged vs rs):=by
 intro more rs kvs vs r;unfold KV at r;induction r generalizing kvs vs with
 |nil=>intro q;exact q
 |@cons p q ps qs h t ih=>
  intro r0;have e:KV (eD kvs p.1 p.2) (stored vs q.1 q.2):=by
   have:=r0.put p.1 h.2;rw[<- h.1];exact this
  exact ih e
theorem Fp:∀(more kvs:List (Key×V)),(cx kvs more).length<=kvs.length+more.length
 |[],kvs=>by show kvs.length<=kvs.length+0;lia
 |p::r,kvs=>by
  have h1:=Fp r (eD kvs p.1 p.2);have h2:=cW kvs p.1 p.2;show(cx (eD kvs p.1 p.2) r).length<=_;rw[BA];lia
theorem fD{P:Program}{w:World}:∀{kvs:List (Key×V)}{ws:List (Value×Value)},VV (kvs.map fun kv=>(kV kv.1,kv.2)) ws->∃rs,Carries (aH P w) ws rs/\KV kvs rs
 |[],_,r=>by rw[De] at r;cases r;exact⟨[],True.intro,.nil⟩
 |p::kvs,_,r=>by
  rw[Bv] at r;cases r with
  |@cons a b as bs h t=>
   obtain⟨rs,c,q⟩:=fD (P:=P) (w:=w) t;obtain⟨b1,b2⟩:=b;exact⟨(p.1,b2)::rs,⟨il h.1,rfl,c⟩,.cons ⟨rfl,h.2⟩ q⟩
def vE (trs:List (TE×TE)):TE:=fun σ H Q=>∀p,H p=none->Ij trs σ (upd H p (.dK [])) fun ps H2=>H2 p=some (.dK [])/\∃kvs:List (Key×V),ps=kvs.map (fun kv=>(kV kv.1,kv.2))/\kvs.length<=15/\Q (.ref p) (upd H2 p (.dK (cx [] kvs)))
theorem mW{X:Cx}{pos:Pos}{keys:List (Option Expr)}{values:List Expr}{trs:List (TE×TE)}(h:PPs X pos keys values trs)(hall:keys.all (·.isSome)=true)(hl:keys.length=values.length)(h0:keys≠[])
  (h15:keys.length<=15):PE X (.Dict keys values pos) (vE trs):=by
 intro pins s σ H Q I q;have hn:=I.hok.fresh (AW s.heap.objs.size);have I1:=I.laid (a:=s.heap.objs.size) (o:=.dK []) (h':=s.heap.push {cls:=.type "dict",data:=.dict #[]}) (t':=s.toks) (fun _ _ q=>Es _ q) (AW _) (jX s.heap I.big);refine wpAny_Dict_walk (knd:=aH X.prog X.w) hall hl h0 h15 (thn (h pins _ σ _ _ I1 (q _ hn)) fun ws s2 hq58=>?_);obtain⟨ps,H2,I2,rel,e,kvs,ep,lk,q2⟩:=hq58;subst ep;obtain⟨rs,c,rk⟩:=fD (P:=X.prog) (w:=X.w) rel;obtain⟨z,hd,vs0,r0,dd⟩:=nY I2.hok e;cases r0;refine⟨rs,c,dd,fun h' dd' hs=>⟨.ref s.heap.objs.size,_,?_,rfl,q2⟩⟩;have hz:(cx [] kvs).length<=sizeLine:=by
  have h1:=Fp kvs [];rw[DA] at h1;rw[sizeLine_eq];lia
 have he:∃q,h'.get? s.heap.objs.size=some q:=let ⟨q,_,_,hq,_⟩:=dd';⟨q,hq⟩;exact gm I2 (by rw[e];exact True.intro) hs he (mV hz hd (rk.merge .nil) dd')
structure M1(X:Cx)(o:Expr)(m:Str)(apos:Pos)(e:Expr)(cpos:Pos):Prop where
 base:attributeBase o m X.env (eval o X.env)=eval o X.env
 few:((backTo cpos (starEach [e] X.env)).all (fun x=>!x.1) && (backToKw cpos (keywordEach [] X.env)).all (fun x=>x.1.isSome)
  && decide (([e]:List Expr).length+([]:List Keyword).length+(if ([]:List Keyword).isEmpty then 0 else 1) < 30))=true
 line:(apos.endLine==cpos.line)=true
 trees:backTo cpos (starEach [e] X.env)=[(false,eval e X.env)]
def IsD (H:Hp)(a:Addr):Prop:=(∃kvs,Rd H a (.dK kvs))\/∃kvs,Rd H a (.dT kvs)
theorem tZ{X:Cx}{pins:List (Addr×Obj)}{σ:St}{H:Hp}{s:Shared}{a:Addr}(I:Inv X pins σ H s)(d:IsD H a) :
  s.TypeIs (.ref a) "dict"/\(∀b,Value.ref a=.ref b->∃ob,s.heap.get? b=some ob/\ob.dict=none)/\(a==sysModules)=false:=by
 rcases d with ⟨kvs,e⟩|⟨kvs,e⟩
 ·obtain⟨_,hd,vs,_,dd⟩:=kM I.hok e;refine⟨dd.typeIs,fun b q=>?_,hd⟩;cases q;obtain⟨ob,_,_,h1,h2,_⟩:=dd;exact⟨ob,h1,h2.2.1⟩
 ·obtain⟨_,hd,xs,_,dd⟩:=kN I.hok e;refine⟨dd.typeIs,fun b q=>?_,hd⟩;cases q;obtain⟨ob,_,_,h1,h2,_⟩:=dd;exact⟨ob,h1,h2.2.1⟩
def tX (td ty:TE):TE:=fun σ H Q=>td σ H fun x H1=>∃a,x=.ref a/\IsD H1 a/\ty σ H1 fun y H2=>∃kvs k v,H2 a=some (.dK kvs)/\y=kV k/\fV kvs k=some v/\Q v (upd H2 a (.dK (cB kvs k)))
section
variable {X:Cx}{o e f:Expr}{apos cpos:Pos}{td ty tx:TE}
theorem oR(ho:PE X o td)(he:PE X e ty)(m:M1 X o "pop" apos e cpos):PE X (.Call (.Attribute o "pop" apos) [e] [] cpos) (tX td ty):=by
 intro pins s σ H Q I h;refine wpAny_Call_method m.base m.few m.line PySem.F.plainAttrs_dict PySem.F.slot_dict_pop PySem.F.type_dict_pop (thn (ho pins s σ H _ I h) fun u s1 hq59=>?_);obtain⟨x,H1,I1,rx,a,ex,d,q1⟩:=hq59;subst ex;obtain rfl:u=Value.ref a:=rx;obtain⟨t1,t2,_⟩:=tZ I1 d;refine⟨t1,t2,?_⟩;rw[m.trees];refine Calls.callWith_builtin rfl (Calls.evalArgs_plain (Calls.spliced_cons (thn (he pins s1 σ H1 _ I1 q1) fun iv s2 hq60=>?_)));obtain⟨y,H2,I2,ry,kvs,k,v,ea,ey,l,q2⟩:=hq60;refine Calls.spliced_nil ?_;subst ey;exact vm I2 ea ry l (.inl rfl) fun w' s3 I3 rw'=>⟨v,_,I3,rw',q2⟩
end
mutual
inductive FH(K:W.Frag)(H:Hp):V->PyData->Prop
 |non:FH K H .non .none
 |bl (b:Bool):FH K H (.bl b) (.bool b)
 |int (i:Int):FH K H (.int i) (.int i)
 |str (x:Str):FH K H (.str x) (.str x)
 |lst {a:Addr}{xs:List V}{ds:List PyData}:SqL K H a xs->DatAll K H xs ds->FH K H (.ref a) (.list ds)
 |tup {a:Addr}{xs:List V}{ds:List PyData}:SqT K H a xs->DatAll K H xs ds->FH K H (.ref a) (.tuple ds)
inductive DatAll(K:W.Frag)(H:Hp):List V->List PyData->Prop
 |nil:DatAll K H [] []
 |cons {v:V}{d:PyData}{vs:List V}{ds:List PyData}:FH K H v d->DatAll K H vs ds->DatAll K H (v::vs) (d::ds)
end
theorem EJ.Lf{K:W.Frag}{H H':Hp}{a:Addr}{xs:List V}(e:EJ H H')(h:SqT K H a xs):SqT K H' a xs:=by
 rcases h with (h|⟨o,h⟩)|h
 ·exact .inl (.inl (e _ _ h))
 ·exact .inl (.inr ⟨o,e _ _ h⟩)
 ·exact .inr h
theorem af{H:Hp}{p:Addr}(h:H p=none)(o:HO):EJ H (upd H p o):=fun b u q=>by rw[ao (az q h)];exact q
section
variable {X:Cx}{pins:List (Addr×Obj)}{σ:St}{H:Hp}{s:Shared}
mutual
theorem Inv.reads(I:Inv X pins σ H s):∀{v:V}{d:PyData}{u:Value},FH X.K H v d->RelV v u->∃as,Reads s.heap u d as
 |_,_,_,.non,r=>by cases r;exact⟨_,.none⟩
 |_,_,_,.bl b,r=>by cases r;exact⟨_,.bool b⟩
 |_,_,_,.int i,r=>by obtain⟨t,rfl⟩:=r;exact⟨_,.int i t⟩
 |_,_,_,.str x,r=>by obtain⟨t,rfl⟩:=r;exact⟨_,.str x t⟩
 |_,_,_,.lst h q,r=>by
  cases r;obtain⟨its,rv,⟨o,n,e,c,dd,d⟩,hz⟩:=I.list h;obtain⟨as,z⟩:=I.readsAll q rv;exact⟨_,.list e c d (by simpa using z)⟩
 |_,_,_,.tup h q,r=>by
  cases r;obtain⟨its,rv,⟨o,e,c,n,d⟩,hz⟩:=I.tuple h;obtain⟨as,z⟩:=I.readsAll q rv;exact⟨_,.tuple e c d (by simpa using z)⟩
theorem Inv.readsAll(I:Inv X pins σ H s):∀{vs:List V}{ds:List PyData}{us:List Value},DatAll X.K H vs ds->Vals vs us->∃as,ReadsAll s.heap us ds as
 |_,_,_,.nil,.nil=>⟨_,.nil⟩
 |_,_,_,.cons h q,.cons r t=>by
  obtain⟨as,z⟩:=I.reads h r;obtain⟨bs,y⟩:=I.readsAll q t;exact⟨_,.cons z y⟩
end
def vO (K:W.Frag)(neg:Bool):R2:=fun x y H Q=>∃d e,FH K H x d/\FH K H y e/\d.canLay0=true/\e.canLay0=true/\d.depth<=60/\Q (.bl (if neg then !PyData.eqv d e else PyData.eqv d e)) H
theorem sE(hu:X.A.units+64<cLine):OpR X (compareOp .Eq) (vO X.K false):=by
 intro pins s σ H x y v u Q I rx ry h;obtain⟨d,e,hd,he,c1,c2,hp,q⟩:=h;obtain⟨as,ra⟩:=I.reads hd rx;obtain⟨bs,rb⟩:=I.reads he ry;exact SeqAt.compareEq_reads ra rb c1 c2 (by have:=Dh d.depth e.depth;lia) ⟨.bl _,H,I,rfl,q⟩
theorem jM(hu:X.A.units+64<cLine):OpR X (compareOp .NotEq) (vO X.K true):=by
 intro pins s σ H x y v u Q I rx ry h;obtain⟨d,e,hd,he,c1,c2,hp,q⟩:=h;obtain⟨as,ra⟩:=I.reads hd rx;obtain⟨bs,rb⟩:=I.reads he ry;exact SeqAt.compareNe_reads ra rb c1 c2 (by have:=Dh d.depth e.depth;lia) ⟨.bl _,H,I,rfl,q⟩
end
def uI (i j:Int):Prop:=Builtin.Int.intBits i<=2^20/\Builtin.Int.intBits j<=2^20
theorem eU{X:Cx}:OpR X (binaryOp .Mult) (rI uI fun i j=>.int (i*j)):=opI fun _ _ _ _ _ _ _ hc q=>mul_int q (IntMulOk.of_bits hc.1 hc.2)
def Its (x:Str):It:=⟨fun i _=>i<x.cps.size,fun i H v H'=>H'=H/\∃c,x.cps[i]?=some c/\v=.str ⟨#[c]⟩,fun i _=>x.cps.size<=i⟩
theorem oy{P:Program}{w:World}{K:W.Frag}{tg:Expr}(it:Addr)(x:Str)(t:Tok):Turn P w K tg (Its x) [it] it (fun i h=>h.IsStrIter it "str_ascii_iterator" x t i) where
 mem:=by simp
 obj:=fun i h st b hb=>by
  have e:b=it:=by simpa using hb
  subst e;obtain⟨o,e,c,d⟩:=st;exact⟨o,e,fun v z=>by rw[d] at z;cases z⟩
 keep:=fun i h h' st k=>by
  obtain⟨o,e,r⟩:=st;exact⟨o,k it (by simp) o e,r⟩
 item:=by
  intro X hP hw hK hc i pins s σ H E I hf st hg;subst hP hw hK;obtain⟨f0,f1,f2,f3,f4,f5⟩:=hf it (by simp);have hi:i<x.cps.size:=hg;refine wpAny_pyNext_ascii_item st (c:=x.cps[i]) (by simp[hi]) fun h' st' sb=>?_;have I1:Inv X pins σ H {s with heap:=h',toks:=s.toks+1}:=I.turned (fun b o hb e=>(sb.2 b hb).trans e) f0 f1 f3 f4 f5;obtain⟨o,e,c,d⟩:=id st';exact⟨_,rfl,lg (s:={s with heap:=h',toks:=s.toks+1}) e c d (by decide) ⟨.str ⟨#[x.cps[i]]⟩,H,I1,⟨_,rfl⟩,⟨rfl,_,by simp[hi],rfl⟩,st',fun b hb=>(hf b hb).1⟩⟩
 done:=by
  intro X hP hw hK hc i pins s σ H E I hf st hg;subst hP hw hK;obtain⟨f0,f1,f2,f3,f4,f5⟩:=hf it (by simp);have hi:x.cps.size<=i:=hg;exact wpAny_pyNext_ascii_end (I.ok.hd hc) st (by simp;lia) fun h' eb=>⟨rfl,I.turned (t':=s.toks) (fun b o hb e=>eb b o hb e) f0 f1 f3 f4 f5⟩
 self:=fun A i s Q E st h=>by
  obtain⟨o,e,c,d⟩:=id st;refine wpAny_pyIter_slot (Heap.IsStrIter.typeIs st) F.slot_str_ascii_iterator_iter (Ez F.slot_str_ascii_iterator_iter (Heap.IsStrIter.typeIs st) F.entry_str_ascii_iterator_iter ?_ (F.args_str_ascii_iterator_iter_1 _));show wpAny _ _ (ret (.ref it)) _ _ s;exact DV ⟨_,rfl,"str_ascii_iterator",_,Heap.IsStrIter.typeIs st,F.slot_str_ascii_iterator_next.lookup,h⟩
section
variable {X:Cx}{tg:Expr}
def iStr (tl:TE):TI:=fun σ H R=>tl σ H fun x H1=>∃z,x=.str z/\z.cps.all (·<128)=true/\R (Its z) H1
theorem tW{l:Expr}{tl:TE}(hl:PE X l tl):PI X tg l (iStr tl):=by
 intro pins s σ H R I h;refine thn (hl pins s σ H _ I h) fun v s1 hq61=>?_;obtain⟨x,H1,I1,r1,q1⟩:=hq61;obtain⟨z,e,ha,q⟩:=q1;subst e;obtain⟨t,rfl⟩:=r1;refine wpAny_pyIter_ascii ha ?_;refine⟨s1.heap.objs.size,[s1.heap.objs.size],_,_,H1,rfl,I1.kept (t':=s1.toks) fun b o e=>Es _ e,oy _ z t,⟨_,Et _ rfl,rfl,rfl⟩,fun b hb=>?_,q⟩;have e:b=s1.heap.objs.size:=by simpa using hb
 subst e;exact I1.IJ (AW _) (I1.hok.fresh (AW _))
def Nx (n i:Nat)(P:Nat->List V->Hp->Prop)(ys:List V)(H:Hp):Prop:=∃m',m'<n-i/\(m'=n-(i+1)/\i+1<=n/\P (i+1) ys H)
theorem Nx.mk{n i:Nat}{P:Nat->List V->Hp->Prop}{ys:List V}{H:Hp}(hi:i<n)(h:P (i+1) ys H):Nx n i P ys H:=⟨n-(i+1),by lia,rfl,hi,h⟩
theorem dX{J:It}{n k:Nat}{js:List Nat}{g:TG}{tc:TT}{te:TE}{σ:St}{H:Hp}{Q:VK}(P:Nat->List V->Hp->Prop)(h0:P 0 [] H)(hz:∀i ys H,i<=n->P i ys H->ys.length<=i)(hn:n<=sizeLine)
  (hgo:∀i ys H,i<n->P i ys H->J.go i H)(hstop:∀ys H,P n ys H->J.stop n H)
  (hs:∀i ys H x H',i<n->P i ys H->J.yld i H x H'->g x (List.replicate k none++bJ js σ) H' fun σ2 H2=>tc σ2 H2 fun b H3=>if b=true then te σ2 H3 fun y H4=>Nx n i P (ys++[y]) H4 else Nx n i P ys H3)
  (hd:∀ys H,P n ys H->∀p,H p=none->Q (.ref p) (upd H p (.lst ys))) :
  gw J k js g tc te σ H Q:=by
 refine⟨fun i m ys H=>m=n-i/\i<=n/\P i ys H,⟨n,by simp,Bo _,h0⟩,?_⟩;rintro i m ys H ⟨rfl,hi,p⟩;have hy:=hz i ys H hi p;by_cases hlt:i<n
 ·exact .inr ⟨hgo i ys H hlt p,by lia,fun x H' y=>hs i ys H x H' hlt p y⟩
 ·have e:i=n:=by lia
  subst e;exact .inl ⟨hstop ys H p,by lia,hd ys H p⟩
theorem rg{lo:Int}{n k:Nat}{js:List Nat}{g:TG}{tc:TT}{te:TE}{σ:St}{H:Hp}{Q:VK}(P:Nat->List V->Hp->Prop)(h0:P 0 [] H)(hz:∀i ys H,i<=n->P i ys H->ys.length<=i)(hn:n<=sizeLine)
  (hs:∀i ys H,i<n->P i ys H->g (.int (lo+i)) (List.replicate k none++bJ js σ) H fun σ2 H2=>tc σ2 H2 fun b H3=>if b=true then te σ2 H3 fun y H4=>Nx n i P (ys++[y]) H4 else Nx n i P ys H3)
  (hd:∀ys H,P n ys H->∀p,H p=none->Q (.ref p) (upd H p (.lst ys))) :
  gw (Itr lo n) k js g tc te σ H Q:=
 dX P h0 hz hn (fun _ _ _ h _=>h) (fun _ _ _=>AW _) (fun i ys H x H' hi p y=>by obtain⟨e,y⟩:=y;subst e y;exact hs i ys _ hi p) hd
theorem cq{K:W.Frag}{a:Addr}{xs:List V}{k:Nat}{js:List Nat}{g:TG}{tc:TT}{te:TE}{σ:St}{H:Hp}{Q:VK}(P:Nat->List V->Hp->Prop)(h0:P 0 [] H)(hz:∀i ys H,i<=xs.length->P i ys H->ys.length<=i)(hn:xs.length<=sizeLine)
  (hl:∀i ys H,i<=xs.length->P i ys H->SqL K H a xs)
  (hs:∀i x ys H,xs[i]?=some x->P i ys H->g x (List.replicate k none++bJ js σ) H fun σ2 H2=>tc σ2 H2 fun b H3=>if b=true then te σ2 H3 fun y H4=>Nx xs.length i P (ys++[y]) H4 else Nx xs.length i P ys H3)
  (hd:∀ys H,P xs.length ys H->∀p,H p=none->Q (.ref p) (upd H p (.lst ys))) :
  gw (Itl K a) k js g tc te σ H Q:=
 dX P h0 hz hn (fun i ys H hi p=>⟨xs,xs[i],hl i ys H (BF hi) p,by simp[hi]⟩) (fun ys H p=>⟨xs,hl _ ys H (AW _) p,AW _⟩)
  (fun i ys H x H' hi p y=>by obtain⟨e,y⟩:=y;subst e;exact hs i x ys _ (y xs (hl i ys _ (BF hi) p)) p) hd
theorem uV{K:W.Frag}{a:Addr}{xs:List V}{k:Nat}{js:List Nat}{g:TG}{tc:TT}{te:TE}{σ:St}{H:Hp}{Q:VK}(P:Nat->List V->Hp->Prop)(h0:P 0 [] H)(hz:∀i ys H,i<=xs.length->P i ys H->ys.length<=i)(hn:xs.length<=sizeLine)
  (hl:∀i ys H,i<=xs.length->P i ys H->SqT K H a xs)
  (hs:∀i x ys H,xs[i]?=some x->P i ys H->g x (List.replicate k none++bJ js σ) H fun σ2 H2=>tc σ2 H2 fun b H3=>if b=true then te σ2 H3 fun y H4=>Nx xs.length i P (ys++[y]) H4 else Nx xs.length i P ys H3)
  (hd:∀ys H,P xs.length ys H->∀p,H p=none->Q (.ref p) (upd H p (.lst ys))) :
  gw (Itt K a) k js g tc te σ H Q:=
 dX P h0 hz hn (fun i ys H hi p=>⟨xs,xs[i],hl i ys H (BF hi) p,by simp[hi]⟩) (fun ys H p=>⟨xs,hl _ ys H (AW _) p,AW _⟩)
  (fun i ys H x H' hi p y=>by obtain⟨e,y⟩:=y;subst e;exact hs i x ys _ (y xs (hl i ys _ (BF hi) p)) p) hd
theorem uX{z:Str}{k:Nat}{js:List Nat}{g:TG}{tc:TT}{te:TE}{σ:St}{H:Hp}{Q:VK}(P:Nat->List V->Hp->Prop)(h0:P 0 [] H)(hz:∀i ys H,i<=z.cps.size->P i ys H->ys.length<=i)(hn:z.cps.size<=sizeLine)
  (hs:∀i c ys H,z.cps[i]?=some c->P i ys H->g (.str ⟨#[c]⟩) (List.replicate k none++bJ js σ) H fun σ2 H2=>tc σ2 H2 fun b H3=>if b=true then te σ2 H3 fun y H4=>Nx z.cps.size i P (ys++[y]) H4 else Nx z.cps.size i P ys H3)
  (hd:∀ys H,P z.cps.size ys H->∀p,H p=none->Q (.ref p) (upd H p (.lst ys))) :
  gw (Its z) k js g tc te σ H Q:=
 dX P h0 hz hn (fun i ys H hi p=>hi) (fun ys H p=>AW _)
  (fun i ys H x H' hi p y=>by obtain⟨e,c,y,rfl⟩:=y;subst e;exact hs i c ys _ y p) hd
theorem boolsOf:∀{bs:List Bool}{us:List Value},Vals (bs.map V.bl) us->us=bs.map Value.bool
 |[],_,.nil=>rfl
 |b::r,_,.cons h t=>by cases h;rw[boolsOf t];rfl
theorem dN(hc:X.calm=true):cy X (.builtin "all") (fun xs H Q=>∃(p:Addr)(bs:List Bool),xs=[.ref p]/\SqL X.K H p (bs.map V.bl)/\Q (.bl (bs.all id)) H):=by
 intro pins s σ H xs us Q I r h;obtain⟨p,bs,rfl,hq,q⟩:=h;obtain⟨u,rfl,rx⟩:=dh r;cases rx;obtain⟨its,rv,pl,hz⟩:=I.list hq;have hh:X.A.in1.handled=none:=I.ok.hd hc;have e:=boolsOf rv;subst e;have hp:p<s.heap.objs.size:=by obtain⟨o,n,e,_⟩:=pl;exact Eg e
 refine call_all_walk (wpAny_pyIter_list pl.isList ⟨s.heap.objs.size,_,_,_,_,_,fun i=>bs.getD i false,rfl,Walks.list hh s.heap.objs.size p (AZ hp) _,⟨⟨_,Et _ rfl,rfl,rfl⟩,pl.isList.push _⟩,?_,fun h' tk hk=>?_⟩)
 ·intro i v s' Q' E' hv q';have hv':(bs.map Value.bool)[i]?=some v:=by simpa using hv
  rw[Br] at hv';cases eb:bs[i]? with
  |none=>rw[eb] at hv';cases hv'
  |some b=>
   rw[eb] at hv';cases hv';refine wpAny_truthy_bool ?_;have q2:Q' (bs.getD i false) s':=q';rw[BG,eb] at q2;exact q2
 ·have e:(List.range (bs.map Value.bool).toArray.size).all (fun i=>bs.getD i false)=bs.all id:=by
   rw[Eu,BR,BR];constructor
   ·intro h b hb;obtain⟨i,hi,rfl⟩:=Cq.mp hb;have:=h i (CN.mpr (by simpa using hi));rw[BG,Bf hi] at this;exact this
   ·intro h i hi;have hi':i<bs.length:=by simpa using CN.mp hi
    rw[BG,Bf hi'];exact h _ (BE hi')
  rw[e];refine⟨.bl _,H,?_,rfl,q⟩;have I1:Inv X pins σ H {s with heap:=s.heap.push {cls:=.type "list_iterator",data:=.fields #[.ref p,.int 0 0]},toks:=s.toks}:=I.kept fun b o e=>Es _ e;refine I1.turned (it:=s.heap.objs.size) (fun b o hb e=>hk b o (by simpa using hb) e) (I.hok.fresh (AW _)) (CO I.lt) (.inr (Heap.get?_none_of_le I.sz)) (fun x c e z=>?_) fun p hp z=>?_
  ·obtain⟨v,o,ho,_⟩:=I.cell x c e;rw[z] at ho;exact absurd (Eg ho) (Bx _)
  ·have:=(I.pin p hp).1;rw[z] at this;exact absurd (Eg this) (Bx _)
theorem strsOf:∀{zs:List Str}{us:List Value},Vals (zs.map V.str) us->StrsAre us zs
 |[],_,.nil=>.nil
 |z::r,_,.cons h t=>by obtain⟨tk,rfl⟩:=h;exact .cons z tk (strsOf t)
def rY (K:W.Frag):V->List V->Hp->VK->Prop:=fun x vs H Q=>∃(z:Str)(p:Addr)(zs:List Str),x=.str z/\vs=[.ref p]/\SqL K H p (zs.map V.str)/\(zs.map (·.length)).sum+zs.length*z.length<=16777216/\Q (.str (Txt.join z zs)) H
theorem JL:MtR X "str.join" (rY X.K):=by
 intro pins s σ H x vs v us Q I rx rv h;obtain⟨z,p,zs,rfl,rfl,hq,hz,q⟩:=h;obtain⟨t,rfl⟩:=rx;obtain⟨u,rfl,ru⟩:=rv.one;cases ru;obtain⟨its,r',pl,_⟩:=I.list hq;exact join_list pl.isList (by simpa using strsOf r') hz fun t' k=>⟨.str _,H,I.tok _,⟨_,rfl⟩,q⟩
def Ly:V->Option Value
 |.ty T=>some (.type T)
 |.ref a=>some (.ref a)
 |_=>none
def vT (K:W.Frag):List V->Hp->VK->Prop:=fun xs H Q=>∃x y t c b,xs=[x,y]/\Ly y=some c/\Hg K H x t/\W.kitOne K t c=some b/\Q (.bl b) H
theorem Fz:cy X (.builtin "isinstance") (vT X.K):=by
 intro pins s σ H xs us Q I r h;obtain⟨x,y,t,c,b,rfl,ec,ty,e,q⟩:=h;obtain⟨u,u',rfl,rx,ry⟩:=pE r;have:u'=c:=by
  cases y with
  |ref _=>cases ry;exact Eh ec
  |ty _=>cases ry;exact Eh ec
  |_=>cases ec
 subst this;exact nh I rx ty e fun tk=>⟨.bl b,H,I.tok _,rfl,q⟩
def Jx:V->List V->Hp->VK->Prop:=fun x vs H Q=>∃d o kvs more,x=.ref d/\vs=[.ref o]/\d≠o/\H d=some (.dK kvs)/\H o=some (.dK more)/\kvs.length+more.length<=sizeLine/\Q .non (upd H d (.dK (cx kvs more)))
theorem Iu:MtR X "dict.update" Jx:=by
 intro pins s σ H x vs v us Q I rx rv h;obtain⟨d,o,kvs,more,rfl,rfl,hne,hd,ho,hz,q⟩:=h;cases rx;obtain⟨u,rfl,ru⟩:=rv.one;cases ru;obtain⟨z1,y1,ws1,r1,d1⟩:=(show EY X.prog X.w H s.heap d (.dK kvs) from I.hok d _ hd)
 obtain⟨z2,y2,ws2,r2,d2⟩:=(show EY X.prog X.w H s.heap o (.dK more) from I.hok o _ ho)
 have l1:kvs.length=ws1.length:=Paired.length r1;have l2:more.length=ws2.length:=Paired.length r2;refine PySem.call_meetsIn F.slot_dict_update d1.typeIs F.entry_dict_update (F.args_dict_update_2 _ _) (meets_dict_update (aH X.prog X.w) d o hne y2) ⟨ws1,ws2,d1,d2,by lia,fun h' e1 e2 hs=>?_⟩;refine⟨.non,_,I.write (x:=d) (e:=d) (o:=.dK (cx kvs more)) (t':=s.toks) (by rw[hd];trivial) (.inl rfl) (fun b u hb e=>hs.extBut b u hb e) ?_ ?_,rfl,q⟩
 ·obtain⟨o',es,ep,g,_⟩:=e1;exact⟨o',g⟩
 ·exact⟨Bm (Fp more kvs) hz,y1,_,r2.merge r1,e1⟩
end
def Kp (F:Addr->Prop)(fs:List Addr)(h h':Heap):Prop:=
 (∀b o,h.get? b=some o->¬F b->b∉fs->h'.get? b=some o)/\(∀b o,h.get? b=some o->¬F b->∃sl,h'.get? b=some {o with slots:=sl})/\∀b o,h.get? b=some o->∃o',h'.get? b=some o'
theorem Kp.refl{F:Addr->Prop}{fs:List Addr}(h:Heap):Kp F fs h h:=⟨fun _ _ e _ _=>e,fun _ o e _=>⟨o.slots,e⟩,fun _ o e=>⟨o,e⟩⟩
theorem Kp.trans{F:Addr->Prop}{fs:List Addr}{h h1 h2:Heap}(a:Kp F fs h h1)(b:Kp F fs h1 h2):Kp F fs h h2:=
 ⟨fun c o e n m=>b.1 c o (a.1 c o e n m) n m,fun c o e n=>by
  obtain⟨sl,e1⟩:=a.2.1 c o e n;obtain⟨sl2,e2⟩:=b.2.1 c _ e1 n;exact⟨sl2,e2⟩,fun c o e=>by
  obtain⟨o1,e1⟩:=a.2.2 c o e
  exact b.2.2 c o1 e1⟩
structure ExcAt(h:Heap)(x:Addr)(cls:Value)(vs:Array Value):Prop where
 get:∃oe,h.get? x=some oe/\oe.cls=cls/\oe.dict=none/\oe.data=.fields vs
 ctx:vs[2]?=some .none
def Flt (F:Addr->Prop)(h:Heap)(x:Addr)(cls fl:Value):Prop:=
 ∃vs T oT ts,ExcAt h x cls vs/\vs[1]?=some (.ref T)/\T≠x/\h.get? T=some oT/\oT.data=.fields ts/\ts[3]?=some fl/\F x/\F T
def wd (F:Addr->Prop)(h:Heap)(x:Addr)(cls:Value):Prop:=∃vs,ExcAt h x cls vs/\vs[1]?=some .none/\F x
section
variable {M:Model}{A:Around}{E:Value->Shared->Prop}{s:Shared}{F:Addr->Prop}{base:Heap}{env:Env}{outer:List Env}{L x:Addr}{cls:Value}
theorem kh{fl:Value}{Q:Unit->Shared->Prop}(t:Flt F s.heap x cls fl){fs:List Addr}(h:∀h',Kp F fs s.heap h'->Flt F h' x cls .none->Q () {s with heap:=h'}):wpAny M A (setFlight (.ref x) none) Q E s:=by
 obtain⟨vs,T,oT,ts,⟨⟨oe,he,hc,hdd,hd⟩,h2⟩,h1,hTx,hT,hdT,h3,fx,fT⟩:=t;have z3:3<ts.size:=(Cr.mp h3).1;unfold setFlight;refine DU (wpAny_field he hd h1 ?_);rw[DZ (show(Value.ref T != Value.none)=true from by simp)];have oth:∀b,b≠T->(s.heap.update T (Obj.mapFields (·.setIfInBounds 3 Value.none))).get? b=s.heap.get? b:=fun b hb=>Heap.get?_update_other _ _ (Er hb);have slf:=Heap.get?_update_self (Obj.mapFields (·.setIfInBounds 3 Value.none)) hT (Obj.isFreed_of_fields (Obj.data_mapFields hdT _));refine wpAny_setField hT hdT z3 (h _ ⟨fun b o e n _=>?_,fun b o e n=>⟨o.slots,?_⟩,fun b o e=>?_⟩ ?_)
 ·exact(oth b fun z=>n (z▸fT)).trans e
 ·exact(oth b fun z=>n (z▸fT)).trans e
 ·by_cases z:b=T
  ·subst z;exact⟨_,slf⟩
  ·exact⟨o,(oth b z).trans e⟩
 ·exact⟨vs,T,_,_,⟨⟨oe,(oth x (Er hTx)).trans he,hc,hdd,hd⟩,h2⟩,h1,hTx,slf,Obj.data_mapFields hdT _,by simp[z3],fx,fT⟩
theorem dW{vs:Array Value}{head:Value}{hn:Bool}{Q:Unit->Shared->Prop}(hfr:A.frames=some (env::outer))(hl:s.heap.FunFrames base (env::outer))(hf:env.frame=some L)
  (t:ExcAt s.heap x cls vs)(z1:1<vs.size)(fx:F x)(hF:∀b,s.heap.objs.size<=b->F b)
  (h:∀h',Kp F (frs (env::outer)) s.heap h'->Flt F h' x cls (rawInt L)->Q () {s with heap:=h'}) :
  wpAny M A (do let a <- frameOf env;let pl <- entryPlaceOf L hn;let b <- EntryCells.newEntry head a .none (rawInt L) .none pl;setField (.ref x) 1 b) Q E s:=by
 obtain⟨⟨oe,he,hc,hdd,hd⟩,h2⟩:=t;have hx:x∉frs (env::outer):=fun hm=>by
  obtain⟨_,o,ho,hnf⟩:=hl.mem hm;rw[he] at ho;cases ho;exact hnf vs hd
 refine DU (wpAny_frameOf_fun hfr hl hf fun g hs=>?_);obtain⟨g0,g1,g2⟩:=hs;refine DU (wpAny_entryPlaceOf fun pl hpl=>?_);unfold EntryCells.newEntry newFields;refine DU (wpAny_newObj_type ?_ (hpl.sizeOk5 _ _ _ _ _));have he1:g.get? x=some oe:=(g1 x hx).trans he;generalize hob:({cls:=.type "traceback",dict:=none,data:=.fields ([head,.ref L,.none,rawInt L,.none]++(if pl.isEmpty then List.replicate 6 Value.none else pl)).toArray}:Obj)=ob;have hobd:ob.data=.fields ([head,.ref L,.none,rawInt L,.none]++(if pl.isEmpty then List.replicate 6 Value.none else pl)).toArray:=by rw[<- hob]
 have hobf:ob.isFreed=false:=Obj.isFreed_of_fields hobd;have he2:(g.push ob).get? x=some oe:=Es _ he1;have hTx:g.objs.size≠x:=CO (Eg he1);have hd3:=Obj.data_mapFields hd (·.setIfInBounds 1 (Value.ref g.objs.size));have slf:=Heap.get?_update_self (Obj.mapFields (·.setIfInBounds 1 (Value.ref g.objs.size))) he2 (Obj.isFreed_of_fields hd3);have oth:∀b o,b≠x->g.get? b=some o->((g.push ob).update x (Obj.mapFields (·.setIfInBounds 1 (Value.ref g.objs.size)))).get? b=some o:=fun b o hb e=>by
  rw[Heap.get?_update_other _ _ (Er hb)];exact Es _ e
 refine wpAny_setField he2 hd z1 (h _ ⟨fun b o e n m=>?_,fun b o e n=>?_,fun b o e=>?_⟩ ?_)
 ·exact oth b o (fun z=>n (z▸fx)) ((g1 b m).trans e)
 ·obtain⟨sl,q⟩:=g2 b o e;exact⟨sl,oth b _ (fun z=>n (z▸fx)) q⟩
 ·obtain⟨sl,q⟩:=g2 b o e;by_cases z:b=x
  ·subst z;exact⟨_,slf⟩
  ·exact⟨_,oth b _ z q⟩
 ·refine⟨_,g.objs.size,ob,_,⟨⟨_,slf,by rw[Obj.cls_mapFields];exact hc,?_,hd3⟩,?_⟩,by simp[z1],hTx,?_,hobd,?_,fx,hF _ (Nat.le_of_eq g0.symm)⟩
  ·obtain⟨c,d,dt,sl⟩:=oe;cases dt<;>exact hdd
  ·rw[Array.getElem?_setIfInBounds_ne (by decide)];exact h2
  ·rw[Heap.get?_update_other _ _ (Er hTx)];exact Et g (by exact hobf)
  ·simp
theorem jU{Q:Unit->Shared->Prop}(hfr:A.frames=some (env::outer))(hl:s.heap.FunFrames base (env::outer))(hf:env.frame=some L)(t:wd F s.heap x cls)(hF:∀b,s.heap.objs.size<=b->F b)
  (h:∀h',Kp F (frs (env::outer)) s.heap h'->Flt F h' x cls (rawInt L)->Q () {s with heap:=h'}):wpAny M A (noteFrame (.ref x) env) Q E s:=by
 obtain⟨vs,ea,h1,fx⟩:=t;obtain⟨oe,he,hc,hdd,hd⟩:=ea.get;unfold noteFrame;simp only[hf];refine DU (wpAny_field he hd h1 ?_);rw[DY (by decide)];exact dW hfr hl hf ea (Cr.mp h1).1 fx hF h
theorem hZ{Q:Unit->Shared->Prop}(hfr:A.frames=some (env::outer))(hl:s.heap.FunFrames base (env::outer))(hf:env.frame=some L)(t:Flt F s.heap x cls .none)(hF:∀b,s.heap.objs.size<=b->F b)
  (h:∀h',Kp F (frs (env::outer)) s.heap h'->Flt F h' x cls (rawInt L)->Q () {s with heap:=h'}):wpAny M A (noteFrame (.ref x) env) Q E s:=by
 obtain⟨vs,T,oT,ts,⟨⟨oe,he,hc,hdd,hd⟩,h2⟩,h1,hTx,hT,hdT,h3,fx,fT⟩:=t;have z3:3<ts.size:=(Cr.mp h3).1;unfold noteFrame;simp only[hf];refine DU (wpAny_field he hd h1 ?_);rw[DZ (show(Value.ref T != Value.none)=true from by simp)];refine DU (wpAny_field hT hdT h3 ?_);rw[DY (show ¬((Value.none==rawInt L)=true) from by simp[rawInt])];have oth:∀b,b≠T->(s.heap.update T (Obj.mapFields (·.setIfInBounds 3 Value.none))).get? b=s.heap.get? b:=fun b hb=>Heap.get?_update_other _ _ (Er hb);have slf:=Heap.get?_update_self (Obj.mapFields (·.setIfInBounds 3 Value.none)) hT (Obj.isFreed_of_fields (Obj.data_mapFields hdT _));have nrec:∀b o,s.heap.get? b=some o->(∀vs,o.data≠.fields vs)->b≠T:=fun b o e nf z=>by
  rw[z,hT] at e;cases e;exact nf ts hdT
 have k1:Kp F (frs (env::outer)) s.heap (s.heap.update T (Obj.mapFields (·.setIfInBounds 3 Value.none))):=⟨fun b o e n _=>(oth b fun z=>n (z ▸ fT)).trans e,fun b o e n=>⟨o.slots,(oth b fun z=>n (z ▸ fT)).trans e⟩,fun b o e=>by
  by_cases z:b=T
  ·subst z;exact⟨_,slf⟩
  ·exact⟨o,(oth b z).trans e⟩⟩
 refine DU (wpAny_setField hT hdT z3 ?_);refine dW (s:={s with heap:=s.heap.update T (Obj.mapFields (·.setIfInBounds 3 Value.none))}) hfr (hl.of_keeps fun b o e nf=>⟨o,(oth b (nrec b o e nf)).trans e,rfl⟩) hf (vs:=vs) ⟨⟨oe,(oth x (Er hTx)).trans he,hc,hdd,hd⟩,h2⟩ (Cr.mp h1).1 fx (fun b hb=>hF b (by rwa [Heap.size_update] at hb)) ?_;intro h' k2 t2;exact h h' (k1.trans k2) t2
end
section
variable {X:Cx}{pins:List (Addr×Obj)}{σ:St}{H:Hp}{s:Shared}{h':Heap}
theorem Inv.FY{t':Nat}(I:Inv X pins σ H s)(k:Kp (EW X pins H) (frs X.stack) s.heap h'):Inv X pins σ H {s with heap:=h',toks:=t'}:=by
 classical
 have nf:∀b o,H b=some o->¬EW X pins H b:=fun b o e f=>by rw[f.1] at e;cases e
 have ns:∀b o,H b=some o->b∉frs X.stack:=fun b o e z=>by rw[I.Gs b z] at e;cases e
 have hch:∀b∈(List.range s.heap.objs.size).filter (fun b=>decide (EW X pins H b)),EW X pins H b:=fun b hb=>Ef (BY.mp hb).2;have nch:∀b o,s.heap.get? b=some o->b∉(List.range s.heap.objs.size).filter (fun b=>decide (EW X pins H b))->¬EW X pins H b:=fun b o e n f=>
  n (BY.mpr ⟨CN.mpr (Eg e),Ea f⟩)
 have stk:∀b,b≠X.env.locals->b∉X.fs->b∉frs X.stack:=fun b h1 h2 z=>(Bl.mp (I.GN b z)).elim h1 h2;refine I.step (g':=s.gens) (d':=s.drawn) (ch:=(List.range s.heap.objs.size).filter (fun b=>decide (EW X pins H b))) (fun b hb=>?_) (fun b o hL hb hc e n=>k.1 b o e (nch b o e hc) (stk b hL hb)) (fun b o hL hb hc e n=>k.2.1 b o e (nch b o e hc))
  (fun b o hc e n=>n) (fun b o hc e=>k.2.2 b o e) (fun _ _ e=>e) (fun _ _ _ e=>e) (fun b ps e=>⟨#[],by rw[e];simp⟩) (fun m hm=>?_) (fun b o e=>?_) I.bare
 ·obtain⟨f0,f1,f2,f3,f4,f5⟩:=hch b hb;exact⟨f3,f1,f4,f5⟩
 ·obtain⟨o,es,ep,ho,r⟩:=hm;obtain⟨sl,q⟩:=k.2.1 _ o ho fun f=>f.2.1 rfl;exact⟨_,es,ep,q,r⟩
 ·refine(I.hok b o e).Hr (fun c u hc q=>?_) (fun _ q=>q) fun _ _ q=>q;rcases hc with z|z
  ·subst z;exact k.1 _ u q (nf _ o e) (ns _ o e)
  ·exact k.1 c u q (nf c _ z) (ns c _ z)
theorem Inv.Iy{H':Hp}(I:Inv X pins σ H s){b:Addr}(hb:s.heap.get? b=none)(hn:H' b=none):EW X pins H' b:=by
 refine⟨hn,fun z=>?_,fun z=>?_,?_,fun x c e z=>?_,fun p hp z=>?_⟩
 ·obtain⟨m,⟨o,_,_,ho,_⟩,_⟩:=I.loc;rw[z,ho] at hb;cases hb
 ·obtain⟨_,o,ho,_⟩:=I.GW.mem z;rw[ho] at hb;cases hb
 ·by_cases hx:b∈X.ex
  ·exact .inl hx
  ·refine .inr ?_;cases e:X.s₀.heap.get? b with
   |none=>rfl
   |some o=>
    obtain⟨o',e'⟩:=I.base.there b o e hx;rw[e'] at hb;cases hb
 ·obtain⟨v,o,ho,_⟩:=I.cell x c e;rw[z,hb] at ho;cases ho
 ·have:=(I.pin p hp).1;rw[z,hb] at this;cases this
theorem Inv.GA(I:Inv X pins σ H s):∀b,s.heap.objs.size<=b->EW X pins H b:=fun b hb=>I.IJ hb (I.hok.fresh hb)
end
def CXe (P:Program)(w:World):CXT:=fun outer H s E e s'=>∃x cls H',e=.ref x/\s'.os=s.os/\AllBare s'.gens/\Un (frs outer) [] H H' s.heap s'.heap/\HOk P w H' s'.heap /\
 Flt (fun b=>s.heap.get? b=none/\H' b=none) s'.heap x cls .none/\E cls none H'
def Out (X:Cx)(pins:List (Addr×Obj))(x:Addr)(cls:Value)(σ:St)(H:Hp)(s:Shared):Prop:=Inv X pins σ H s/\(wd (EW X pins H) s.heap x cls\/Flt (EW X pins H) s.heap x cls .none)
section
variable {X:Cx}{pins:List (Addr×Obj)}{σ:St}{H:Hp}{s:Shared}
theorem Flt.imp{F G:Addr->Prop}{h:Heap}{x:Addr}{cls fl:Value}(f:∀b,F b->G b)(t:Flt F h x cls fl):Flt G h x cls fl:=by
 obtain⟨vs,T,oT,ts,a,b,c,d,e,g,fx,fT⟩:=t;exact⟨vs,T,oT,ts,a,b,c,d,e,g,f _ fx,f _ fT⟩
theorem Kp.imp{F G:Addr->Prop}{fs:List Addr}{h h':Heap}(f:∀b,F b->G b)(k:Kp F fs h h'):Kp G fs h h':=
 ⟨fun b o e n m=>k.1 b o e (fun z=>n (f b z)) m,fun b o e n=>k.2.1 b o e fun z=>n (f b z),k.2.2⟩
theorem Out.Jy{E:XK}{e:Value}{s':Shared}(I:Inv X pins σ H s)(c:CXe X.prog X.w X.stack H s E e s'):∃x cls H',e=.ref x/\E cls none H'/\Out X pins x cls σ H' s':=by
 obtain⟨x,cls,H',rfl,os,bare,un,hok,t,q⟩:=c;have I':Inv X pins σ H' s':=I.JG (ch:=[]) os un hok bare (fun b z=>absurd z (by simp));refine⟨x,cls,H',rfl,q,I',.inr (t.imp fun b hq62=>?_)⟩;obtain⟨hb,hn⟩:=hq62;exact I.Iy hb hn
theorem Out.note{E:Value->Shared->Prop}{x L:Addr}{cls:Value}{Q:Unit->Shared->Prop}(o:Out X pins x cls σ H s)(hst:X.stack=X.env::X.outer)(hf:X.env.frame=some L)
  (h:∀h',Kp (EW X pins H) (frs X.stack) s.heap h'->Flt (EW X pins H) h' x cls (rawInt L)->Q () {s with heap:=h'}):(wq X) (noteFrame (.ref x) X.env) Q E s:=by
 obtain⟨I,t⟩:=o;have hfr:X.A.frames=some (X.env::X.outer):=by rw[I.ok.frames,hst]
 have hl:s.heap.FunFrames X.base (X.env::X.outer):=by rw[<- hst];exact I.stack
 rw[hst] at h;rcases t with t|t
 ·exact jU hfr hl hf t I.GA h
 ·exact hZ hfr hl hf t I.GA h
theorem Out.leave{P:Program}{w:World}{K:W.Frag}{mg:Str->Option Value}{base:Heap}{N:List Str}{qual:Str}{scope:Scope}{f:Addr}{cd:Value}{A:Around}{outer:List Env}{s0:Shared}{H0:Hp}{E:XK}{x:Addr}{cls:Value}
  {EE:Value->Shared->Prop}(o:Out {bB (CXe P w) P w K mg base N qual scope f cd A outer s0 H0 E with xe:=EE} pins x cls σ H s)(q:E cls none H):(bB (CXe P w) P w K mg base N qual scope f cd A outer s0 H0 E).xe (.ref x) s:=by
 have I:=o.1;show wpAny (model P w) (A.deeper (envOfC qual scope s0.heap.objs.size f cd)) (leaving (envOfC qual scope s0.heap.objs.size f cd) (.ref x)) _ _ s;unfold leaving;refine DU ?_;refine Out.note (X:={bB (CXe P w) P w K mg base N qual scope f cd A outer s0 H0 E with xe:=EE}) (L:=s0.heap.objs.size) o rfl rfl fun h1 k1 t1=>?_;refine kh (s:={s with heap:=h1}) (fs:=frs (envOfC qual scope s0.heap.objs.size f cd::outer)) t1 fun h2 k2 t2=>?_;have I2:Inv {bB (CXe P w) P w K mg base N qual scope f cd A outer s0 H0 E with xe:=EE} pins σ H {s with heap:=h2,toks:=s.toks}:=I.FY (k1.trans k2);refine⟨x,cls,H,rfl,I2.os,I2.bare,I2.base,I2.hok,t2.imp fun b fb=>⟨?_,fb.1⟩,q⟩;rcases fb.2.2.2.1 with z|z
 ·exact absurd (show b∈([]:List Addr) from z) (by simp)
 ·exact z
end
abbrev XS:=Value->St->Hp->Prop
def Xok (X:Cx)(EX:XS):Prop:=∀(pins:List (Addr×Obj))(σ:St)(H:Hp)(s:Shared)(x:Addr)(cls:Value),Out X pins x cls σ H s->EX cls σ H->X.xe (.ref x) s
theorem bq{P:Program}{w:World}{K:W.Frag}{mg:Str->Option Value}{base:Heap}{N:List Str}{qual:Str}{scope:Scope}{f:Addr}{cd:Value}{A:Around}{outer:List Env}{s0:Shared}{H0:Hp}{E:XK} :
  Xok (bB (CXe P w) P w K mg base N qual scope f cd A outer s0 H0 E) (fun cls _ H=>E cls none H):=fun pins σ H s x cls o q=>
 Out.leave (EE:=(bB (CXe P w) P w K mg base N qual scope f cd A outer s0 H0 E).xe) o q
theorem jv{K:W.Frag}{h:Heap}{C:Addr}{bmB:List Value}{newId:String}(X:K.In h)(q:W.excIn K C bmB newId=true) :
  ∃bm N nm qn bs hdct sn sub ab col dd k0 k1 k2 k3 k5 mN,h.get? C=some (excClassObj nm qn C N bs bm hdct sn sub ab col dd k0 k1 k2 k3 k5 newId)/\h.Ns N mN/\mN "__init__"=none/\OwnTail h bmB bm:=by
 unfold W.excIn at q;split at q
 ·rename_i dd cd sl ho;split at q
  ·rename_i C' bm k0 k1 k2 k3 n k5 hm hs;simp only[BM,ED,Bool.not_eq_true'] at q;obtain⟨⟨⟨⟨⟨rfl,rfl⟩,hdel⟩,ht⟩,hok⟩,hni⟩:=q;obtain⟨nm,bs,mro,ns,qn,hd,sn,sub,ab,col,del⟩:=cd;dsimp only at hm hdel hok hni;subst hm;subst hdel;obtain⟨l⟩:=sl;have hl:l=[k0,k1,k2,k3,some (.builtin n),k5]:=hs;subst hl;exact⟨bm,ns,nm,qn,bs,hd,sn,sub,ab,col,dd,k0,k1,k2,k3,k5,_,X _ _ ho,.of_isNs (W.isNs_of_in X hok),W.nsMap_none_of_in X hok hni,W.tail_of_in X ht⟩
  ·cases q
 ·cases q
abbrev HR:List Value:=[.type "ValueError",.type "Exception",.type "BaseException",.type "object"]
def ui (t:TA)(EX:St->Hp->Prop):TS:=fun D σ H=>t σ H fun vs H1=>vs.length<=sizeLine/\EX σ H1
theorem dH{X:Cx}{x:Str}{C:Addr}{np cpos pos:Pos}{e:Expr}{es:List Expr}{t:TA}{EX:XS}(hc:X.calm=true)(hg:Gl X x)(hm:X.mg x=some (.ref C))(hK:W.excIn X.K C HR "ValueError.__new__"=true)(ha:PA X (e::es) t)(hx:Xok X EX)
  (hdb:(x==("__debug__":Str))=false:=by decide)(he:starEach (e::es) X.env=(false,eval e X.env)::starEach es X.env:=by rfl)(hpl:(backTo cpos (starEach es X.env)).any (·.1)=false:=by rfl) :
  PS X (.Raise (some (.Call (.Name x np) (e::es) [] cpos)) none pos) (ui t (EX (.ref C))):=by
 intro pins s σ H D I h;obtain⟨bm,N,nm,q,bs,hdct,sn,sub,ab,col,dd,k0,k1,k2,k3,k5,mN,hC,hN,hni,T⟩:=jv I.mod.kin hK;refine wpAny_Raise_call_subT (C:=C) (nm:=nm) (q:=q) (N:=N) (bs:=bs) (bm:=bm) (hdct:=hdct) (sn:=sn) (sub:=sub) (ab:=ab) (col:=col) (dd:=dd) (k0:=k0) (k1:=k1) (k2:=k2) (k3:=k3) (k5:=k5)
  PySem.F.excBase_ValueError (mN:=mN) (T.hasType PySem.F.excBase_ValueError.hasBase) (I.ok.hd hc) (by rw[he];show(false||(backTo cpos (starEach es X.env)).any (·.1))=false;rw[hpl];rfl) hni (dU I hg hm ⟨rfl,?_⟩ hdb)
 have hA:=ha cpos pins s σ H _ I h;rw[he] at hA ⊢;refine Calls.evalArgs_plain (thn hA fun us s2 hq63=>?_);obtain⟨vs,H1,I1,r1,hz,q1⟩:=hq63;refine⟨rfl,by rw[<- r1.length];exact hz,I1.bk _ _ hC,hN.keeps I1.bk,T.keeps I1.bk,fun h' x' hm'=>?_⟩;have I2:Inv X pins σ H1 {s2 with heap:=h',toks:=s2.toks}:=I1.kept hm'.keeps;refine hx pins σ H1 _ x' (.ref C) ⟨I2,.inl ?_⟩ q1;obtain⟨tt,h1,h2,h3⟩:=hm'.there;refine⟨_,⟨⟨_,h1,rfl,rfl,rfl⟩,rfl⟩,rfl,I1.Iy hm'.new ?_⟩;cases e2:H1 x' with
 |none=>rfl
 |some o=>
  obtain⟨ob,g⟩:∃ob,s2.heap.get? x'=some ob:=by
   have z:=(I1.hok x' o e2)
   clear q1
   revert z
   induction o with
   |lst xs=>exact fun hq64=>by obtain⟨_,its,n,r,e⟩:=hq64;exact⟨_,e⟩
   |tup xs=>exact fun hq65=>by obtain⟨_,its,r,ob,e,_⟩:=hq65;exact⟨_,e⟩
   |dK kvs=>exact fun hq66=>by obtain⟨_,_,_,_,ob,_,_,e,_⟩:=hq66;exact⟨_,e⟩
   |dT kvs=>exact fun hq67=>by obtain⟨_,_,_,_,ob,_,_,e,_⟩:=hq67;exact⟨_,e⟩
   |set S n=>exact fun hq68=>by obtain⟨ob,_,_,_,e,_⟩:=hq68;exact⟨_,e⟩
   |ins C dx fs=>exact fun hq69=>by obtain⟨_,_,_,e,_⟩:=hq69;exact⟨_,e⟩
   |own x=>exact fun hq70=>by obtain⟨ob,e⟩:=hq70;exact⟨_,e⟩
   |xd fs=>exact fun hq71=>by obtain⟨mA,⟨ob,_,_,e,_⟩,_⟩:=hq71;exact⟨_,e⟩
   |met f x=>exact fun e=>⟨_,e⟩
   |rng lo hi=>exact fun hq72=>by obtain⟨_,_,_,e⟩:=hq72;exact⟨_,e⟩
   |frz o u _=>exact fun hq73=>by obtain⟨e,_⟩:=hq73;exact⟨_,e⟩
   |tbl ps=>exact fun e=>⟨_,e⟩
   |ext φ=>exact fun hq74=>by obtain⟨_,⟨ob,e⟩,_⟩:=hq74;exact⟨_,e⟩
  rw[hm'.new] at g;cases g
def uD (sp:Sp)(EX:XS)(t:TA):TE:=fun σ H Q=>t σ H fun vs H1=>sp vs H1 Q fun cls _ H'=>EX cls σ H'
theorem aN{X:Cx}{k:Nat}{f:Addr}{fd:FuncData}{ps:List Str}{sp:Sp}{EX:XS}{x:Str}{p pos:Pos}{e:Expr}{es:List Expr}{t:TA}(F:EK X.prog X.w X.K X.mg X.base (CXe X.prog X.w) k f fd ps sp)(hr:FC k X.A)(hg:Gl X x)(hm:X.mg x=some (.ref f))(hk:W.keepIn X.K (.ref f)=true)(hb:Binds X.K fd ps [])(hx:Xok X EX)
  (ha:PA X (e::es) t)(hdb:(x==("__debug__":Str))=false:=by decide)(he:starEach (e::es) X.env=(false,eval e X.env)::starEach es X.env:=by rfl)(hpl:(backTo pos (starEach es X.env)).any (·.1)=false:=by rfl) :
  PE X (.Call (.Name x p) (e::es) [] pos) (uD sp EX t):=by
 intro pins s σ H Q I h;refine wpAny_Call_Name_kw (dU I hg hm ?_ hdb);refine W.callWith_K (h₀:=X.base) I.ok.mod.kin hk (thn (ha pos pins s σ H _ I h) fun us s1 hq75=>?_) he hpl;obtain⟨vs,H1,I1,r,q⟩:=hq75;refine⟨I1.kIn,?_⟩;have hl:(us++[]).length=ps.length:=by rw[BD,<- r.length];exact F.len _ _ _ _ q
 have hb':=hb s1 us I1.kIn hl;rw[BD] at hb';refine wpAny_call (codeAny_mono (F.run X.A X.stack s1 H1 ⟨us,[]⟩ us vs Q _ hr I1.KS hb' r q) fun r s' hq=>?_);cases r with
 |error e=>
  obtain⟨x,cls,H',rfl,q',o⟩:=Out.Jy (E:=fun cls _ H'=>EX cls σ H') (e:=e) (s':=s') I1 hq;exact hx pins σ H' s' x cls o q'
 |ok fl=>
  cases fl with
  |ret u=>exact I1.after hq
  |next=>exact False.elim hq
  |brk=>exact False.elim hq
  |cont=>exact False.elim hq
section
variable {P:Program}{w:World}{K:PySem.W.Frag}{mg:Str->Option Value}{base:Heap}
theorem Fun.okE{x qual:Str}{st:Stmt}{f:Addr}{fd:FuncData}{N ps:List Str}{k:Nat}{sp:Sp}(F:Fun K x qual st f fd)(S:EG N ps (ak st))(len:∀vs H Q E,sp vs H Q E->vs.length=ps.length)
  (hbody:∀(cdv:Value) (A:Around) (outer:List Env) (s:Shared) (H:Hp) (vs:List V) (Q:VK) (E:XK),FC k (A.deeper (envOfC qual (ak st) s.heap.objs.size f cdv))->sp vs H Q E ->
   ∃t,PSs (bB (CXe P w) P w K mg base N qual (ak st) f cdv A outer s H E) (bz st) t/\t { nx:=fun _ H'=>Q .non H',rt:=Q } (start N vs) H):EK P w K mg base (CXe P w) (k+1) f fd ps sp:=by
 obtain⟨oc,od,kV,doc,pm,an,cdv,ct,osl,rfl,lk,hcd⟩:=F.ex;exact se lk hcd S len fun A outer s H vs Q E hr hsp=>hbody cdv A outer s H vs Q E hr hsp
theorem FC.calm{k:Nat}{A:Around}{env:Env}(r:FC k (A.deeper env)):A.handled.isNone=true:=by
 have:=r.hd;have h2:A.handled=none:=this;rw[h2];rfl
end
section
variable {M:Model}{A:Around}{E:Value->Shared->Prop}
theorem jA{h:Heap}{g:Array GenState}{d:Drawn}{t:Nat}{os:OsState}{x C B:Addr}{oe:Obj}{nm q:Str}{N:Addr}{bs bm:List Value}{hdct:Bool}{sn:List Str}{sub:List Value}{ab:Bool}{col:Option Bool}{dd:Option Addr}{k0 k1 k2 k3 k5:Option Value}{newId:String}
  {nmb qb:Str}{Nb:Addr}{bsb bmb:List Value}{hdctb:Bool}{snb:List Str}{subb:List Value}{abb:Bool}{colb:Option Bool}{ddb:Option Addr}{j0 j1 j2 j3 j5:Option Value}{newIdb:String}{Q:Bool->Shared->Prop}
  (hC:h.get? C=some (excClassObj nm q C N bs bm hdct sn sub ab col dd k0 k1 k2 k3 k5 newId))(hB:h.get? B=some (excClassObj nmb qb B Nb bsb bmb hdctb snb subb abb colb ddb j0 j1 j2 j3 j5 newIdb))
  (he:h.get? x=some oe)(hcls:oe.cls=.ref C)(hbase:bmb.contains (.type "BaseException")=true)(hs:(Value.ref C::bm).contains (.ref B)=true)
  (hq:Q true ⟨h,g,d,t,os⟩):wpAny M A (excMatches (.ref x) (.ref B)) Q E ⟨h,g,d,t,os⟩:=by
 have hcB:(Value.ref B::bmb).contains (.type "BaseException")=true:=by rw[List.contains_cons,hbase,Bool.or_true]
 have f:=tc_notTuple;unfold excMatches
 repeat (first|(with_reducible refine wpAny_loadPart_at he ?_;rw[hcls])|with_reducible refine wpAny_loadPart_at hB ?_|(with_reducible refine wpAny_isSubtype_exc hB ?_;rw[hcB])|(with_reducible refine wpAny_isSubtype_exc hC ?_;rw[hs])|wp_step)
 exact hq
end
def subIn(K:W.Frag)(C B:Addr):Bool:=match K.lookup C with
 |some ⟨_,_,.cls cd,_⟩=>cd.mro.contains (.ref B)
 |_=>false
def qY (x:Addr)(cls:Value):HO:=.ext fun h=>∃vs,ExcAt h x cls vs
section
variable {X:Cx}{pins:List (Addr×Obj)}{σ:St}{H:Hp}{s:Shared}
theorem Inv.Ko{b:Addr}{o:HO}(I:Inv X pins σ H s)(f:EW X pins H b)(ob:EY X.prog X.w (upd H b o) s.heap b o):Inv X pins σ (upd H b o) s:=by
 obtain⟨f0,f1,f2,f3,f4,f5⟩:=f;have nb:∀c u,H c=some u->c≠b:=fun c u e z=>by rw[z,f0] at e;cases e
 refine⟨I.ok,I.os,I.bare,⟨I.base.keep,I.base.slot,fun c u e n hx=>?_,I.base.there,fun c xs e=>?_,fun c u xs e=>?_,fun c ps e=>?_⟩,I.loc,I.cell,?_,fun x c e=>?_,fun p hp=>?_,fun c u e=>?_,I.len⟩
 ·have z:c≠b:=fun z=>by
   subst z;rcases f3 with q|q
   ·exact hx q
   ·rw[q] at e;cases e
  rw[ao z];exact I.base.free c u e n hx
 ·have q:=I.base.HS c xs e;rw[ao (nb c _ q)];exact q
 ·have q:=I.base.HK c u xs e;rw[ao (nb c _ q)];exact q
 ·obtain⟨more,q⟩:=I.base.Hy c ps e;exact⟨more,by rw[ao (nb c _ q)];exact q⟩
 ·rw[ao (Er f1)];exact I.free
 ·rw[ao (f4 x c e)];exact I.Fm x c e
 ·obtain⟨a1,a2,a3⟩:=I.pin p hp;exact⟨a1,by rw[ao (f5 p hp)];exact a2,a3⟩
 ·by_cases z:c=b
  ·subst z;rw[ae] at e;cases e;exact ob
  ·rw[ao z] at e;refine(I.hok c u e).Hr (fun _ _ _ q=>q) (fun a q=>?_) fun a xs q=>?_
   ·rw[ao (nb a _ q)];exact q
   ·rw[ao (nb a _ q)];exact q
abbrev Cx.hold(X:Cx)(pn:List (Addr×Obj)):Cx:={X with pn:=X.pn++pn}
def iW (X:Cx)(pn:List (Addr×Obj))(EX:XS):Cx:={X with pn:=X.pn++pn,xe:=fun e s'=>∃x cls σ' H',e=.ref x/\Out (X.hold pn) [] x cls σ' H' s'/\EX cls σ' H'}
def km (X:Cx)(x:Addr):Cx:={X with A:=X.A.mark (some (.ref x)),calm:=false,xe:=fun _ _=>False}
theorem Cx.Ok.same{X Y:Cx}(ok:X.Ok)(h:Y={X with pn:=Y.pn,xe:=Y.xe}):Y.Ok:=by
 rw[h];exact⟨ok.mod,ok.kind,ok.glob,ok.blt,ok.above,ok.inj,ok.has,ok.cab,ok.hd,ok.frames,ok.stk,ok.exf,ok.bs,ok.bsz,ok.IQ,ok.HX,ok.GW,ok.frf⟩
theorem Inv.hold{EX:XS}(I:Inv X pins σ H s):Inv (iW X pins EX) [] σ H s:=
 ⟨I.ok.same rfl,I.os,I.bare,I.base,I.loc,I.cell,I.free,I.Fm,fun p hp=>I.pin p (by rw[BD] at hp;exact hp),I.hok,I.len⟩
theorem Inv.Fu{EX:XS}{p:List (Addr×Obj)}(I:Inv (iW X pins EX) p σ H s):Inv X pins σ H s:=
 ⟨I.ok.same rfl,I.os,I.bare,I.base,I.loc,I.cell,I.free,I.Fm,fun q hq=>I.pin q (Bn _ hq),I.hok,I.len⟩
theorem Inv.JK{p:List (Addr×Obj)}(I:Inv (X.hold pins) p σ H s):Inv X pins σ H s:=
 ⟨I.ok.same rfl,I.os,I.bare,I.base,I.loc,I.cell,I.free,I.Fm,fun q hq=>I.pin q (Bn _ hq),I.hok,I.len⟩
theorem EW.Fu{b:Addr}(f:EW (X.hold pins) [] H b):EW X pins H b:=by
 obtain⟨f0,f1,f2,f3,f4,f5⟩:=f;exact⟨f0,f1,f2,f3,f4,fun p hp=>f5 p (Bn _ hp)⟩
theorem Out.Fu{x:Addr}{cls:Value}(o:Out (X.hold pins) [] x cls σ H s):Out X pins x cls σ H s:=by
 obtain⟨I,t⟩:=o;refine⟨I.JK,?_⟩;rcases t with ⟨vs,a,b,c⟩|t
 ·exact .inl ⟨vs,a,b,c.Fu⟩
 ·exact .inr (t.imp fun _ f=>f.Fu)
theorem bX{pn:List (Addr×Obj)}{EX:XS}:Xok (iW X pn EX) EX:=fun pins σ H s x cls o q=>by
 obtain⟨I,t⟩:=o;have lift:∀b,EW (iW X pn EX) pins H b->EW (X.hold pn) [] H b:=fun b hq76=>by obtain⟨f0,f1,f2,f3,f4,f5⟩:=hq76;exact⟨f0,f1,f2,f3,f4,fun p hp=>f5 p (Bn _ (by rw[BD] at hp;exact hp))⟩
 refine⟨x,cls,σ,H,rfl,⟨⟨I.ok.same rfl,I.os,I.bare,I.base,I.loc,I.cell,I.free,I.Fm,fun p hp=>I.pin p (Bn _ (by rw[BD] at hp;exact hp)),I.hok,I.len⟩,?_⟩,q⟩;rcases t with ⟨vs,a,b,c⟩|t
 ·exact .inl ⟨vs,a,b,lift _ c⟩
 ·exact .inr (t.imp lift)
theorem Inv.hand{x:Addr}(I:Inv X pins σ H s):Inv (km X x) pins σ H s:=
 ⟨⟨I.ok.mod,I.ok.kind,I.ok.glob,I.ok.blt,I.ok.above,I.ok.inj,I.ok.has,I.ok.cab,fun z=>absurd (show false=true from z) Bt,I.ok.frames,I.ok.stk,I.ok.exf,I.ok.bs,I.ok.bsz,I.ok.IQ,I.ok.HX,I.ok.GW,I.ok.frf⟩,
  I.os,I.bare,I.base,I.loc,I.cell,I.free,I.Fm,I.pin,I.hok,I.len⟩
theorem Inv.HN{x:Addr}(ok:X.Ok)(I:Inv (km X x) pins σ H s):Inv X pins σ H s:=
 ⟨ok,I.os,I.bare,I.base,I.loc,I.cell,I.free,I.Fm,I.pin,I.hok,I.len⟩
theorem dJ{M:Model}{A:Around}{E:Value->Shared->Prop}{i:Nat}{n:Str}{pos:Pos}{Q:Unit->Shared->Prop}(I:Inv X pins σ H s)(hN:X.N.Nodup)(hi:X.N[i]?=some n)(hx:X.env.scope.names.lookup n=some .local)
  (h:∀s',Inv X pins (σ.set i none) H s'->Q () s'):wpAny M A (do bindName X.env n .none;unbindBehindTheSuite X.env n pos) Q E s:=by
 obtain⟨m,hn,hl⟩:=id I.loc;refine wpAny_nameGoes_keeps (m:=m) hx hn (by rw[I.ok.kind];rfl) fun h' v hn' hs=>?_;have iσ:i<σ.length:=by rw[I.len];exact(Be.mp hi).1
 obtain⟨oL,_,_,hoL,_⟩:=id hn;have nL:∀b o,X.s₀.heap.get? b=some o->b≠X.env.locals:=fun b o e=>AZ (Bc (Eg e) I.ok.above);refine h {s with heap:=h',toks:=s.toks+1} ⟨I.ok,I.os,I.bare,⟨fun b o e n hb hx=>?_,fun b o e n hb hx=>?_,I.base.free,fun b o e hx=>?_,I.base.HS,I.base.HK,I.base.Hy⟩,⟨_,hn',fun j y u e1 e2 e3=>?_⟩,fun y c e=>?_,I.free,I.Fm,fun p hp=>?_,fun b o e=>?_,by rw[List.length_set];exact I.len⟩
 ·exact(hs.2 b (nL b o e)).trans (I.base.keep b o e n hb hx)
 ·obtain⟨sl,e1⟩:=I.base.slot b o e n hb hx;exact⟨sl,(hs.2 b (nL b o e)).trans e1⟩
 ·obtain⟨o',e1⟩:=I.base.there b o e hx;exact⟨o',(hs.2 b (nL b o e)).trans e1⟩
 ·by_cases hj:j=i
  ·subst hj;rw[CH iσ] at e2;cases e2
  ·rw[CI (Er hj)] at e2;obtain⟨u',r',q⟩:=hl j y u e1 e2 e3;refine⟨u',r',?_⟩;rcases q with ⟨k,e⟩|⟨k,c,e,z⟩
   ·refine .inl ⟨k,?_⟩;have:y≠n:=fun e=>hj (gy hN e1 (e▸hi));simp[this,e]
   ·exact .inr ⟨k,c,e,z.sameBut hs (I.cne y c e)⟩
 ·obtain⟨v',z⟩:=I.cell y c e;exact⟨v',z.sameBut hs (I.cne y c e)⟩
 ·obtain⟨e,n,ne,nf,d⟩:=I.pin p hp;exact⟨(hs.2 p.1 ne).trans e,n,ne,nf,d⟩
 ·refine(I.hok b o e).Hr (fun c u hc q=>(hs.2 c ?_).trans q) (fun _ q=>q) fun _ _ q=>q;rintro rfl;rcases hc with rfl|hc
  ·rw[I.free] at e;cases e
  ·rw[I.free] at hc;cases hc
end
section
variable {X:Cx}
def tTry (K:W.Frag)(B:Addr)(i:Nat)(tb:XS->TS)(th:Addr->TS):TS:=fun D σ H=>∃EX:XS,tb EX D σ H/\∀cls σ' H' x,EX cls σ' H'->H' x=none ->
 ∃C,cls=.ref C/\W.excIn K C HR "ValueError.__new__"=true/\subIn K C B=true /\
  th x {nx:=fun σ2 H2=>D.nx (σ2.set i none) H2,rt:=D.rt,bk:=fun σ2 H2=>D.bk (σ2.set i none) H2,ct:=fun σ2 H2=>D.ct (σ2.set i none) H2} (σ'.set i (some (.ref x))) (upd H' x (qY x (.ref C)))
theorem sH{i:Nat}{n bn:Str}{B:Addr}{np hpos pos:Pos}{body suite:List Stmt}{b0:Stmt}{tb:XS->TS}{th:Addr->TS}(hst:X.stack=X.env::X.outer)(hfr:X.env.frame=some X.env.locals)(hN:X.N.Nodup)(hi:X.N[i]?=some n)(hl:X.env.scope.names.lookup n=some .local)
  (hg:Gl X bn)(hm:X.mg bn=some (.ref B))(hB:W.excIn X.K B HR "ValueError.__new__"=true)
  (hb:∀pn EX,PSs (iW X pn EX) body (tb EX))(hh:∀x,PSs (km X x) (b0::suite) (th x))(hdb:(bn==("__debug__":Str))=false:=by decide) :
  PS X (.Try body [.ExceptHandler (some (.Name bn np)) (some n) (b0::suite) hpos] [] [] pos) (tTry X.K B i tb th):=by
 intro pins s σ H D I h;obtain⟨EX,h1,h2⟩:=h;refine wpAny_Try_except (Ed (hb pins EX [] s σ H D I.hold h1) (fun f s1 q1=>?_) fun e s1 q1=>?_)
 ·cases f with
  |next=>obtain⟨σ1,H1,I1,q⟩:=q1;exact wpAny_execs_nil ⟨σ1,H1,I1.Fu,q⟩
  |brk=>obtain⟨σ1,H1,I1,q⟩:=q1;exact⟨σ1,H1,I1.Fu,q⟩
  |cont=>obtain⟨σ1,H1,I1,q⟩:=q1;exact⟨σ1,H1,I1.Fu,q⟩
  |ret u=>obtain⟨v,σ1,H1,I1,r,q⟩:=q1;exact⟨v,σ1,H1,I1.Fu,r,q⟩
 ·obtain⟨x,cls,σ1,H1,rfl,o1,e1⟩:=q1;have o1:=o1.Fu;have I1:=o1.1;refine o1.note hst hfr fun h2' k2 t2=>?_;refine kh (s:={s1 with heap:=h2'}) (fs:=frs X.stack) t2 fun h3 k3 t3=>?_;have I3:Inv X pins σ1 H1 {s1 with heap:=h3,toks:=s1.toks}:=I1.FY (k2.trans k3);obtain⟨vs,T,oT,ts,ea,_,_,_,_,_,fx,_⟩:=id t3;obtain⟨C,rfl,hC,hsub,q⟩:=h2 cls σ1 H1 x e1 fx.1;obtain⟨bm,N,nm,qn,bs,hdct,sn,sub,ab,col,dd,k0,k1,k2',k3',k5,mN,gC,_,_,TC⟩:=jv I3.mod.kin hC;obtain⟨bmb,Nb,nmb,qb,bsb,hdctb,snb,subb,abb,colb,ddb,j0,j1,j2,j3,j5,mNb,gB,_,_,TB⟩:=jv I3.mod.kin hB;have gC3:=I3.bk _ _ gC;have gB3:=I3.bk _ _ gB;have hmro:(Value.ref C::bm).contains (.ref B)=true:=by
   unfold subIn at hsub;split at hsub
   ·rename_i ho;have z:=I3.mod.kin _ _ ho;rw[gC] at z;cases z;exact hsub
   ·cases hsub
  refine wpAny_handleBy_cons (codeAny_handlers_test ?_) (by intro q;cases q);refine dU (X:=km X x) I3.hand hg hm ?_ hdb;obtain⟨oe,hoe,hoc,_,_⟩:=ea.get;refine jA gC3 gB3 hoe hoc (TB.hasType PySem.F.excBase_ValueError.hasBase) hmro ?_;refine codeAny_handlers_suite_as ?_;refine kh (s:={s1 with heap:=h3,toks:=s1.toks}) (fs:=frs X.stack) t3 fun h4 k4 t4=>?_;have I4:Inv X pins σ1 H1 {s1 with heap:=h4,toks:=s1.toks}:=I1.FY ((k2.trans k3).trans k4);obtain⟨vs4,T4,oT4,ts4,ea4,_,_,_,_,_,fx4,_⟩:=id t4
  have I5:Inv X pins σ1 (upd H1 x (qY x (.ref C))) { s1 with heap:=h4,toks:=s1.toks }:=I4.Ko fx4 ⟨⟨vs4,ea4⟩,by obtain⟨oe,g,_⟩:=ea4.get; exact⟨oe,g⟩,fun ha hb ⟨ws,w⟩ kk=>by
   obtain⟨⟨oe,g,r⟩,c⟩:=w
   exact⟨ws,⟨⟨oe,kk oe g,r⟩,c⟩⟩⟩
  refine dA (v:=.ref x) I5 hN hi (.inl hl) rfl (fun s6 I6=>?_) (.inr hl);refine Ed (hh x pins s6 _ _ _ I6.hand q) (fun f s7 q7=>?_) fun _ _ z=>z.elim;cases f with
  |next=>obtain⟨σ7,H7,I7,q⟩:=q7;exact dJ (I7.HN I.ok) hN hi hl fun s8 I8=>⟨_,H7,I8,q⟩
  |brk=>obtain⟨σ7,H7,I7,q⟩:=q7;exact dJ (I7.HN I.ok) hN hi hl fun s8 I8=>⟨_,H7,I8,q⟩
  |cont=>obtain⟨σ7,H7,I7,q⟩:=q7;exact dJ (I7.HN I.ok) hN hi hl fun s8 I8=>⟨_,H7,I8,q⟩
  |ret u=>obtain⟨v,σ7,H7,I7,r,q⟩:=q7;exact dJ (I7.HN I.ok) hN hi hl fun s8 I8=>⟨v,_,H7,I8,r,q⟩
end
theorem Gr:entryFor table "proto.unchain"=some Builtin.«proto.unchain»:=entryFor_of_tree (by kernel_rfl)
section
variable {prog:Program}{w:World}{A:Around}{E:Value->Shared->Prop}{s:Shared}
theorem ot{α:Type}{x e:Addr}{cls:Value}{vs es:Array Value}{oe:Obj}{Q:α->Shared->Prop}(hh:A.handled=some (.ref x))(ea:ExcAt s.heap x cls vs)(he:s.heap.get? e=some oe)(hd:oe.data=.fields es)(z2:2<es.size)(hne:x≠e)
  (h:∀h',(∀b o,b≠e->s.heap.get? b=some o->h'.get? b=some o)->(∃o',h'.get? e=some o'/\o'.cls=oe.cls)->E (.ref e) {s with heap:=h'}):wpAny (model prog w) A (raiseNew (.ref e):Sem α) Q E s:=by
 obtain⟨⟨ox,hx,_,_,hxd⟩,hc⟩:=ea;unfold raiseNew;refine DU (wpAny_handled ?_);rw[hh];dsimp only;have n1:((Value.ref x:Value) != Value.ref e)=true:=by simp[hne]
 rw[DZ n1];refine DU (Ee (wpAny_runValue (codeAny_builtin Gr ?_)));unfold Builtin.«proto.unchain»;dsimp only;refine DU (wpAny_field hx hxd hc ?_);rw[DZ (by rfl)];refine DU (DV ?_);refine DV ?_;refine DU ?_;show wpAny _ A (setField (.ref e) 2 (.ref x)) _ _ s;refine wpAny_setField he hd z2 (wpAny_throw (h _ (fun b o hb g=>?_) ⟨_,Heap.get?_update_self _ he (Obj.isFreed_of_fields (Obj.data_mapFields hd _)),Obj.cls_mapFields _ _⟩));rw[Heap.get?_update_other _ _ (Er hb)];exact g
theorem gX{x it:Addr}{cls:Value}{vs:Array Value}{lo left step:Int}{Q:Option Value->Shared->Prop}(hh:A.handled=some (.ref x))(ea:ExcAt s.heap x cls vs)(hit:IsRangeIter s.heap it lo left step)(hleft:left<=0)
  (hQ:∀h',(∀b o,s.heap.get? b=some o->h'.get? b=some o)->Q none {s with heap:=h'}):wpAny (model prog w) A (pyNext (.ref it)) Q E s:=by
 have hT:s.TypeIs (.ref it) "range_iterator":=⟨_,hit,rfl⟩
 obtain⟨ox,gx,_⟩:=ea.get;have xlt:=Eg gx;unfold pyNext
 refine DU (Ey (wpAny_callSpecial?_slot (name:=Str.ofString "__next__") hT F.slot_range_iterator_next
  (Ez F.slot_range_iterator_next hT F.entry_range_iterator_next ?_ (F.args_range_iterator_next_1 _))))
 show wpAny _ _ (field (.ref it) 0 >>= _) _ _ s;refine DU (wpAny_field hit rfl (x:=rawInt lo) rfl ?_);show wpAny _ _ (field (.ref it) 1 >>= _) _ _ s;refine DU (wpAny_field hit rfl (x:=rawInt left) rfl ?_);show wpAny _ _ (field (.ref it) 2 >>= _) _ _ s;refine DU (wpAny_field hit rfl (x:=rawInt step) rfl ?_);show wpAny _ _ (if left<=0 then _ else _) _ _ s;rw[DZ hleft];refine DU (EB ?_);refine DU ?_;show wpAny _ _ (newExc (.type "StopIteration") [] >>= _) _ _ _;refine DU ?_;simp only[newExc,newTuple];refine DU (wpAny_newObj_type ?_ (by size_fits));refine DU (m:=firstArgMember _ _) (wpAny_of_eq (a:=Value.none) (by first|rfl|(simp only[firstArgMember];rfl)) ?_);refine wpAny_newObj_type ?_ (by size_fits);have up:∀(o1 o2:Obj) b o,s.heap.get? b=some o->((s.heap.push o1).push o2).get? b=some o:=fun o1 o2 b o e=>Es _ (Es _ e);obtain⟨⟨oe,g1,g2,g3,g4⟩,c2⟩:=ea;refine ot (x:=x) (cls:=cls) (vs:=vs) (show A.in1.handled=some (.ref x) from hh) ⟨⟨oe,up _ _ x oe g1,g2,g3,g4⟩,c2⟩ (Et _ rfl) rfl (by simp[ownMembersOf]) (by rw[EA];exact AZ (BP xlt)) fun h' kk hc'=>?_;obtain⟨o',e',ec⟩:=hc';refine DU (wpAny_isInstance (T:="StopIteration") (b:=true) ⟨o',e',ec⟩ isSubtype_stop ?_);refine DV (hQ _ fun b o e=>kk b o ?_ (up _ _ b o e));have:=Eg e;rw[EA];exact AZ (BP this)
end
structure Hj(k:Nat)(A:Around)(x:Addr):Prop where
 hd:A.handled=some (.ref x)
 dp:A.depth+3*k+5<recursionLimit
 un:A.units+16*k+200<cLine
theorem Hj.deeper{k:Nat}{A:Around}{x:Addr}(r:Hj (k+1) A x)(env:Env):Hj k (A.deeper env) x:=
 ⟨r.hd,by have:=r.dp;show A.depth+1+3*k+5<_;lia,by have:=r.un;show A.units+3+16*k+200<_;lia⟩
theorem FC.hand{k:Nat}{A:Around}(r:FC k A)(x:Addr):Hj k (A.mark (some (.ref x))) x:=⟨rfl,r.dp,r.un⟩
structure FnX(P:Program)(w:World)(K:W.Frag)(mg:Str->Option Value)(base:Heap)(k:Nat)(f:Addr)(fd:FuncData)(ps:List Str)(sp:Addr->List V->Hp->VK->Prop):Prop where
 len:∀x vs H Q,sp x vs H Q->vs.length=ps.length
 run:∀(x:Addr)(A:Around)(outer:List Env)(s:Shared)(H:Hp)(args:Args)(us:List Value)(vs:List V)(Q:VK),Hj k A x->Jh P w K mg base A outer s H->BindsTo s fd args (ps.zip us)->Vals vs us->sp x vs H Q ->
  codeAny (model P w) A (.call (.ref f) args) (CR CX0 outer P w H s Q E0) s
theorem Fun.okX{P:Program}{w:World}{K:W.Frag}{mg:Str->Option Value}{base:Heap}{y qual:Str}{st:Stmt}{f:Addr}{fd:FuncData}{N ps:List Str}{k:Nat}{sp:Addr->List V->Hp->VK->Prop}(F:Fun K y qual st f fd)(S:EG N ps (ak st))
  (len:∀x vs H Q,sp x vs H Q->vs.length=ps.length)
  (hbody:∀(x:Addr) (cdv:Value) (A:Around) (outer:List Env) (s:Shared) (H:Hp) (vs:List V) (Q:VK),Hj k (A.deeper (envOfC qual (ak st) s.heap.objs.size f cdv)) x->sp x vs H Q ->
   ∃t,PSs (bB CX0 P w K mg base N qual (ak st) f cdv A outer s H E0).nox (bz st) t/\t { nx:=fun _ H'=>Q .non H',rt:=Q } (start N vs) H):FnX P w K mg base (k+1) f fd ps sp:=by
 obtain⟨oc,od,kV,doc,pm,an,cdv,ct,osl,rfl,lk,hcd⟩:=F.ex;refine⟨len,fun x A outer s H args us vs Q hr e0 hb r hsp=>?_⟩;have hl:=len _ _ _ _ hsp;have KX:K.In s.heap:=e0.mod.kin.keeps fun b o e=>(e0.bs b o e).1;have lim:s.heap.NoLimit:=e0.mod.nolimit.keeps fun b o e=>(e0.bs b o e).1;have hkind:∀z∈ps.zip us,(ak st).names.lookup z.1=some .local\/((ak st).names.lookup z.1=some .cell/\((cellsFrom (s.heap.objs.size+1) (ak st).names []).lookup z.1).isSome=true):=fun⟨n,v⟩ hy=>by
  rcases S.par n (Dd hy).1 with q|q
  ·exact .inl q
  ·exact .inr ⟨q,W.cellsFrom_some _ _ _ (.inl q)⟩
 refine codeAny_call_function (by have:=hr.dp;lia) (KX _ _ lk) rfl S.co S.gen rfl (W.codeRec_of KX hcd) (hb _ _ _ _ ?_);refine wpAny_newFunctionEnv_cells S.kind hkind fun env he s1 x1=>?_;subst he;refine⟨lim.keeps x1.toInCall.keep,codeAny_func ?_⟩;obtain⟨t,ht,hq⟩:=hbody x cdv A outer s H vs Q (hr.deeper _) hsp;have I:Inv (bB CX0 P w K mg base N qual (ak st) f cdv A outer s H E0) [] (start N vs) H s1:=iF S e0 hl r x1;refine Ed (ht.nox [] s1 (start N vs) H _ I hq) (fun fl s' hs=>?_) fun e s' hs=>hs;cases fl with
 |ret u=>
  obtain⟨v,σ',H',J,rv,q⟩:=hs;exact⟨v,H',J.os,J.bare,J.base,J.hok,rv,q⟩
 |next=>
  obtain⟨σ',H',J,q⟩:=hs;exact⟨.non,H',J.os,J.bare,J.base,J.hok,rfl,q⟩
 |brk=>
  obtain⟨_,_,_,q⟩:=hs;exact False.elim q
 |cont=>
  obtain⟨_,_,_,q⟩:=hs;exact False.elim q
def tT (sp:Addr->List V->Hp->VK->Prop)(x:Addr)(t:TA):TE:=fun σ H Q=>t σ H fun vs H1=>sp x vs H1 Q
theorem pW{X:Cx}{k:Nat}{f x:Addr}{fd:FuncData}{ps:List Str}{sp:Addr->List V->Hp->VK->Prop}{y:Str}{p pos:Pos}{e:Expr}{es:List Expr}{t:TA}(F:FnX X.prog X.w X.K X.mg X.base k f fd ps sp)(hr:Hj k X.A x)(hg:Gl X y)(hm:X.mg y=some (.ref f))(hk:W.keepIn X.K (.ref f)=true)(hb:Binds X.K fd ps [])
  (ha:PA X (e::es) t)(hdb:(y==("__debug__":Str))=false:=by decide)(he:starEach (e::es) X.env=(false,eval e X.env)::starEach es X.env:=by rfl)(hpl:(backTo pos (starEach es X.env)).any (·.1)=false:=by rfl) :
  PE X (.Call (.Name y p) (e::es) [] pos) (tT sp x t):=by
 intro pins s σ H Q I h;refine wpAny_Call_Name_kw (dU I hg hm ?_ hdb);refine W.callWith_K (h₀:=X.base) I.ok.mod.kin hk (thn (ha pos pins s σ H _ I h) fun us s1 hq77=>?_) he hpl;obtain⟨vs,H1,I1,r,q⟩:=hq77;refine⟨I1.kIn,?_⟩;have hl:(us++[]).length=ps.length:=by rw[BD,<- r.length];exact F.len _ _ _ _ q
 have hb':=hb s1 us I1.kIn hl;rw[BD] at hb';refine wpAny_call (codeAny_mono (F.run x X.A X.stack s1 H1 ⟨us,[]⟩ us vs Q hr I1.KS hb' r q) fun r s' hq=>?_);cases r with
 |error e=>exact False.elim hq
 |ok fl=>
  cases fl with
  |ret u=>exact I1.after hq
  |next=>exact False.elim hq
  |brk=>exact False.elim hq
  |cont=>exact False.elim hq
def Itx (x:Addr)(cls:Value)(n:Nat):It:=⟨fun i _=>i<n,fun i H v H'=>H'=H/\v=.int i,fun i H=>n<=i/\H x=some (qY x cls)⟩
theorem pU{X:Cx}{tg:Expr}{x it:Addr}{cls:Value}{n:Nat}(hh:X.A.handled=some (.ref x)) :
  He X tg (Itx x cls n) [it] it (fun i h=>IsRangeIter h it (i:Int) ((n:Int)-(i:Nat)) 1) where
 item:=by
  intro i pins s σ H E I hf st hg;obtain⟨f0,f1,f2,f3,f4,f5⟩:=hf it (by simp);have hi:i<n:=hg;refine wpAny_pyNext_range_item st (by lia) fun h' st' sb=>?_;have I1:Inv X pins σ H {s with heap:=h',toks:=s.toks+1}:=I.turned (fun b o hb e=>(sb.2 b hb).trans e) f0 f1 f3 f4 f5;have st2:IsRangeIter h' it ((i+1:Nat):Int) ((n:Int)-((i+1:Nat):Int)) 1:=by
   have e1:((i+1:Nat):Int)=(i:Int)+1:=by lia
   have e2:(n:Int)-((i:Int)+1)=(n:Int)-(i:Int)-1:=by lia
   rw[e1,e2];exact st'
  exact⟨_,rfl,lg (s:={s with heap:=h',toks:=s.toks+1}) (n:="range_iterator") st' rfl rfl (by decide) ⟨.int i,H,I1,⟨_,rfl⟩,⟨rfl,rfl⟩,st2,fun b hb=>(hf b hb).1⟩⟩
 done:=by
  intro i pins s σ H E I hf st hg;obtain⟨hi,hx⟩:=hg;obtain⟨⟨vs,ea⟩,_⟩:=I.hok x _ hx;exact gX hh ea st (by lia) fun h' kk=>⟨rfl,I.kept (t':=s.toks) kk⟩
theorem mZ{X:Cx}{pins:List (Addr×Obj)}{σ:St}{H:Hp}{s:Shared}{E:Value->Shared->Prop}{hi:Int}{t u v:Tok}{tk:Nat}{Q:Value->Shared->Prop}(I:Inv X pins σ H s)(h3:-(2^62)<=hi)(h4:hi<2^62)
  (q:∀it s2,Inv X pins σ H s2->IsRangeIter s2.heap it 0 ((hi.toNat:Nat):Int) 1->(∀b∈[it],EW X pins H b)->Q (.ref it) s2) :
  (wq X) (pyIter (.ref s.heap.objs.size)) Q E {s with heap:=s.heap.push {cls:=.type "range",data:=.fields #[.int 0 t,.int hi u,.int 1 v]},toks:=tk}:=by
 refine wpAny_pyIter_range (IsRange.new ..) (small_one (by decide) (by decide) h3 h4) ?_;have I1:Inv X pins σ H {s with heap:=s.heap.push {cls:=.type "range",data:=.fields #[.int 0 t,.int hi u,.int 1 v]},toks:=tk}:=I.kept fun b o e=>Es _ e;refine q _ _ (I1.kept (t':=tk) fun b o e=>Es _ e) ?_ fun b hb=>?_
 ·have e2:((hi.toNat:Nat):Int)=Builtin.Range.rangeSize 0 hi 1:=by rw[rangeSize_one];split<;>lia
  rw[e2];exact Et _ rfl
 ·have e:b=(s.heap.push {cls:=.type "range",data:=.fields #[.int 0 t,.int hi u,.int 1 v]}).objs.size:=by simpa using hb
  subst e;exact I1.IJ (AW _) (I1.hok.fresh (AW _))
theorem oV{X:Cx}{scope:Scope}{ts cap:List Str}{js:List Nat}{tg elt a:Expr}{ifs:List Expr}{p pos cpos:Pos}{g:TG}{tc:TT}{te:TE}{ta:TA}{x:Addr}(hh:X.A.handled=some (.ref x))(CS:aM X scope ts cap js)
  (hgl:Gl X "range")(hm:X.mg "range"=none)(ha:PA X [a] ta)(hg:∀C fp s H,PG (ax X scope C fp (ts++cap) s H) tg g)
  (ht:∀C fp s H,PTs (ax X scope C fp (ts++cap) s H) ifs tc)(he:∀C fp s H,PE (ax X scope C fp (ts++cap) s H) elt te)
  (hst:starEach [a] X.env=[(false,eval a X.env)]:=by rfl)(hs:∀v,foldedSetIterable (.Call (.Name "range" p) [a] [] cpos) X.env v=pure v:=by intro _;rfl) :
  PE X (.ListComp elt [⟨tg,.Call (.Name "range" p) [a] [] cpos,ifs,0⟩] scope pos)
   (pM (fun σ H R=>ta σ H fun vs H1=>∃(j:Int)(cls:Value),vs=[.int j]/\-(2^62)<=j/\j<2^62/\R (Itx x cls j.toNat) H1) ts.length js g tc te):=by
 intro pins s σ H Q I h;rw[eval_ListComp];refine wpAny_comprehension_free (use:=none) rfl hs (bf (CS.cells I.ok)) CS.kind CS.names ?_;show wpAny _ _ (eval (.Call (.Name "range" p) [a] [] cpos) X.env) _ _ s;refine Call_ (dG I hgl hm boot_range (PyProof.Rows.callWith_type1 (thn (ha cpos pins s σ H _ I h) fun us s1 hq78=>?_) hst rfl));obtain⟨vs,H1,I1,r1,q1⟩:=hq78;obtain⟨j,cls,e,q2,q3,W,⟨m0,w0⟩,turn⟩:=q1;subst e;obtain⟨u,rfl,ru⟩:=dh r1;obtain⟨tk,rfl⟩:=ru;refine call_range_1 (mZ I1 q2 q3 fun it s2 I2 st2 f2=>?_)
 have T:TurnOk X.prog X.w [it] it (fun i h=>IsRangeIter h it (i:Int) (((j.toNat:Nat):Int) - (i:Nat)) 1):=⟨fun i h st b hb=>by
   have e:b=it:=by simpa using hb
   subst e
   exact⟨_,st,fun v z=>by cases z⟩,fun i h h' st k=>k it (by simp) _ st,fun _ _ _ _ _ st h=>wpAny_pyIter_rangeiter st h⟩
 refine fh (J:=Itx x cls j.toNat) (RR:=fun acc C=>compPost (model X.prog X.w) X.A X.xe none (EP X pins σ Q) acc C) I2 T (fun C=>pU (X:=ax X scope C [it] (ts++cap) s2 H1) hh) (by simpa using st2) f2 CS hg ht he w0 turn ?_;intro D C s' H' ys m I' hn hC hD hCD hHC hHD fin;have low:∀b o,s2.heap.get? b=some o->b≠C:=fun b o e=>AZ (Bc (Eg e) hC);refine⟨m,hn,fun h' hs'=>⟨.ref D,_,bK (n0:=0) I' (Heap.get?_none_of_le (Bm I2.sz hC)) (AZ (Bc I2.lt hC)) (fun x c e=>?_) (fun p hp=>?_) (by rw[ao hCD];exact hHC) hs',rfl,fin D hHD⟩⟩
 ·obtain⟨v,o,ho,_⟩:=I2.cell x c e;exact low c o ho
 ·exact low _ _ (I2.pin p hp).1
end L2
namespace L2
open PySem PySem.Spec PyProof.Rows PySem.W
section
variable {prog:Program}{w:World}{A:Around}{E:Value->Shared->Prop}{s:Shared}{K:Frag}{x C:Addr}{ox:Obj}
structure JU(K:Frag)(C:Addr):Prop where
 ga:findIn K (.ref C) "__getattribute__"=some (some (.builtin "BaseException.__getattribute__"))
 gt:findIn K (.ref C) "__getattr__"=some none
 ca:findIn K (.ref C) "__class__"=some (some (.builtin "object.__class__"))
 gn:specialIn K (.builtin "object.__class__") "__get__"=some (some (.builtin "getset_descriptor.__get__"))
 tk:takesIn K (.builtin "object.__class__")=some true
 mo:mroIn K C (.type "object")=some true
 mb:mroIn K C (.type "BaseException")=some true
 cl:(clsIn K C).isSome=true
theorem iP{M:Model}{nameV:Value}{Q:Unit->Shared->Prop}(Z:JU K C)(X:K.In s.heap)(I:InstAt s.heap x ox C none)(hq:Q () s):wpAny M A (checkBuiltinCall "BaseException.__getattribute__" ⟨[.ref x,nameV],[]⟩) Q E s:=by
 have hk:builtinKind "BaseException.__getattribute__"=some .slot:=by decide +kernel
 have hsplit:splitId "BaseException.__getattribute__"=some ("BaseException","__getattribute__"):=by decide +kernel
 have ha:=F.args_bexc_ga (.ref x) nameV;have L0:=I.type (M:=M);have L1:=looks_mroIn (M:=M) X Z.mb;obtain⟨h,g,d,t,os⟩:=s;simp only[checkBuiltinCall,hk,hsplit];refine DU ?_;unfold isInstance;refine DU (L0.at (L1.at ?_))
 repeat (first|wp_step)
 exact hq
theorem mK{tk:Tok}{Q:Fin->Shared->Prop}(Z:JU K C)(X:K.In s.heap)(I:InstAt s.heap x ox C none)(hq:Q (.done (.ret (.ref C))) s) :
  wpAny (model prog w) A (Builtin.«object.__getattribute__» ⟨[.ref x,.str "__class__" tk],[]⟩) Q E s:=by
 have f5:typeOf (.builtin "object.__class__")=pure (.type "getset_descriptor"):=by show builtinType _=_;rw[builtinType_eq_fast];kernel_rfl
 have f6:=F.slot_gs_get.lookup;have f7:=F.slot_gs_set.lookup;have L0:=I.type (M:=model prog w);have L1:=looks_findIn (M:=model prog w) X Z.ca;obtain⟨h,g,d,t,os⟩:=s;have ho:=I.at_;have hc:=I.cls
 repeat (any_goals (first|assumption|with_reducible refine L0.at ?_|with_reducible refine L1.at ?_|(with_reducible refine wpAny_loadPart_at ho ?_;rw[hc])|wp_step))
 exact class_get (ox:=ox) (od:=none) X I Z.mo (DV hq)
theorem nX{Q:Option Value->Shared->Prop}(Z:JU K C)(X:K.In s.heap)(I:InstAt s.heap x ox C none)(hq:Q (some (.ref C)) {s with toks:=s.toks+1}):wpAny (model prog w) A (getAttr? (.ref x) "__class__") Q E s:=by
 have f3:=PySem.F.attr_ValueError.ga.bind (.ref x);have hx2:(Value.builtin "BaseException.__getattribute__" == Value.builtin "object.__getattribute__")=false:=by decide +kernel
 have hx1:(onTheHeap (Value.ref C)&&Value.builtin "BaseException.__getattribute__" == Value.builtin "object.__getattribute__")=false:=by rw[hx2];rfl
 have hx0:(false&&onTheHeap (Value.builtin "BaseException.__getattribute__"))=false:=rfl;have L0:=I.type (M:=model prog w);have L1:=looks_findIn (M:=model prog w) X Z.ga;have L2:=looks_findIn (M:=model prog w) X Z.gt;obtain⟨h,g,d,t,os⟩:=s;have ho:=I.at_;have hc:=I.cls;unfold getAttr? getAttrBy?;refine DU (wpAny_mkText (DU (Ey ?_)));unfold getAttrBy;refine Ee (DU (L0.at (DU (L1.at ?_))));dsimp only;rw[DY (by rw[hx1];exact Bt)]
 repeat (any_goals (first|assumption|with_reducible refine L2.at ?_|wp_step))
 refine codeAny_call_builtin PySem.F.attr_ValueError.ga.plain F.entry_bexc_ga (iP (s:=⟨h,g,d,t+1,os⟩) Z X I (mK (s:=⟨h,g,d,t+1,os⟩) Z X I ?_));exact handed_on rfl (DV hq)
theorem oU(Z:JU K C):KitX K (.ref x) (.ref C) (fun h=>∃ox,InstAt h x ox C none) where
 ty:=fun _ _ _ hq79=>by obtain⟨_,I⟩:=hq79;exact I.type
 it:=fun _ _ X _=>by
  obtain⟨cd,hc⟩:=CA.mp Z.cl;unfold clsIn at hc;split at hc
  ·rename_i c' d' cd' sl' ho;intro A' Q' E' s' k q;unfold isType loadHead;exact DU (wpAny_loadPart (k _ _ (X _ _ ho)) (DV q))
  ·cases hc
 ne:=fun h tp dd its n sl X htp=>by
  obtain⟨cd,hc⟩:=CA.mp Z.cl;refine DC.mpr fun q=>?_;have e:C=tp:=Value.ref.inj (ED.mp q);subst e;unfold clsIn at hc;split at hc
  ·rename_i c' d' cd' sl' ho;have z:=(X _ _ ho).symm.trans htp;cases z
  ·cases hc
 ca:=fun X ⟨_,I⟩ k=>nX Z X I k
def rIsX (K:Frag):List V->Hp->VK->Prop:=fun xs H Q=>∃x y C c b,xs=[.ref x,y]/\Ly y=some c/\H x=some (qY x (.ref C))/\JU K C/\kitOne K (.ref C) c=some b/\Q (.bl b) H
theorem bC{X:Cx}:cy X (.builtin "isinstance") (rIsX X.K):=by
 intro pins s σ H xs us Q I r h;obtain⟨x,y,C,c,b,rfl,ec,hx,Z,e,q⟩:=h;obtain⟨u,u',rfl,rx,ry⟩:=pE r;cases rx;have:u'=c:=by
  cases y with
  |ref _=>cases ry;exact Eh ec
  |ty _=>cases ry;exact Eh ec
  |_=>cases ec
 subst this;obtain⟨⟨vs,⟨⟨oe,g1,g2,g3,g4⟩,_⟩⟩,_⟩:=I.hok x _ hx;have J:InstAt s.heap x oe C none:=⟨g1,g2,by unfold notCls;rw[g4],by rw[g3];trivial⟩
 exact kia_one (oU Z) I.kIn ⟨oe,J⟩ e (fun z=>nomatch z) fun tk=>⟨.bl b,H,I.tok _,rfl,q⟩
end
end L2
namespace SG
open PySem PyProof.Rows
def kf (κ:KeyKind)(p:Keyed):κ.α:=(κ.keyOf p.1).getD κ.dflt
def Has (κ:KeyKind)(p:Keyed):Prop:=∃a,κ.keyOf p.1=some a
def JO:Bool->Keyed->Array Keyed->Nat->Nat->Nat->StateT SortSt Sem (Option Nat):=sortPriv% PySem.Builtin.gallop
section
variable {prog:Program}{w:World}{A:Around}{E:Value->Shared->Prop}{s:Shared}{κ:KeyKind}{st:SortSt}
theorem aK{arr:Array Keyed}{i:Nat}{p:Keyed}{Q:Keyed->SortSt->Prop}(e:arr[i]?=some p)(h:Q p st):wpS (model prog w) A E s (elem' arr i) Q st:=by
 rw[elem'_eq,e];exact DX h
theorem gH{x y:Keyed}{Q:Option Bool->SortSt->Prop}(hO:κ.OneLt)(hk:kindOf st=oneType')(hx:Has κ x)(hy:Has κ y)(h:Q (some (κ.blt (kf κ x) (kf κ y))) st):wpS (model prog w) A E s (lt' x y) Q st:=by
 obtain⟨a,ha⟩:=hx;obtain⟨b,hb⟩:=hy;unfold kf at h;rw[ha,hb] at h;rw[lt'_eq];refine DW (wpS_get ?_);rw[hk,keyLt'_oneType];exact DW (wpS_lift (Ey (hO prog w A _ s x.1 y.1 a b ha hb ⟨rfl,DX h⟩)))
theorem bM{left:Bool}{key:Keyed}{arr:Array Keyed}{base n hint:Nat}{Q:Option Nat->SortSt->Prop}(hO:κ.OneLt)(hk:kindOf st=oneType')(hkey:Has κ key)(ps:Nat->Keyed)(harr:∀i,i<n->arr[base+i]?=some (ps i)/\Has κ (ps i))(hn:hint<n)(B:Nat->Bool)
  (hB:∀i,B i=if left=true then κ.blt (kf κ (ps i)) (kf κ key) else !κ.blt (kf κ key) (kf κ (ps i)))(mono:∀i j,i<=j->j<n->B j=true->B i=true)
  (h:∀k,k<=n->(∀i,i<k->B i=true)->(∀i,k<=i->i<n->B i=false)->Q (some k) st):wpS (model prog w) A E s (JO left key arr base n hint) Q st:=by
 have anti:∀i j,i<=j->j<n->B i=false->B j=false:=fun i j hij hj hi=>by
  cases e:B j with
  |false=>rfl
  |true=>rw[mono i j hij hj e] at hi;cases hi
 have hb:∀i,i < n->∀Q':Option Bool->SortSt->Prop,Q' (some (B i)) st->wpS (model prog w) A E s (do
   let x <- elem' arr (base+i)
   if left=true then lt' x key else do
    let r <- lt' key x
    pure (Option.map (fun x=>!x) r)) Q' st:=fun i hi Q' q=>by
  obtain⟨e,hp⟩:=harr i hi;refine DW (aK e ?_);rw[hB i] at q;cases left with
  |true=>
   simp only[if_true] at q ⊢;exact gH hO hk hp hkey q
  |false=>
   simp only[Cf,if_false] at q ⊢;exact DW (gH hO hk hkey hp (DX q))
 refine DW (hb hint hn _ ?_);cases hr:B hint with
 |true=>
  refine DW (wpS_mono (wpS_forRange (I:=fun x c st'=>st'=st/\c.1=none/\x+1<=c.2.2/\c.2.1 < c.2.2/\hint+c.2.1 < n/\B (hint+c.2.1)=true)
   (Q:=fun c st'=>st'=st/\c.1=none/\c.2.1 < c.2.2/\hint+c.2.1 < n/\B (hint+c.2.1)=true/\(n - hint<=c.2.2\/B (hint+c.2.2)=false)) ?step ?fin ⟨rfl,rfl,by show 0+1<=1; lia,by show 0 < 1; lia,by show hint+0 < n; exact hn,by show B (hint+0)=true; exact hr⟩) ?post)
  case fin=>
   rintro⟨c0,l,o⟩ st' ⟨rfl,e0,a1,a2,a3,a4⟩;exact⟨rfl,e0,a2,a3,a4,.inl (by have:max 0 n+1<=o:=a1;show n-hint<=o;lia)⟩
  case post=>
   rintro⟨c0,l,o⟩ st' ⟨rfl,e0,a2,a3,a4,a5⟩;cases e0;dsimp only at a2 a3 a4 a5 ⊢;have h1:hint+l+1<=hint+min o (n-hint):=by lia
   have h2:hint+min o (n-hint)<=n:=by lia
   have h3:∀i,i<hint+l+1->B i=true:=fun i hi=>mono i _ (by lia) a3 a4;have h4:∀i,hint+min o (n-hint)<=i->i<n->B i=false:=fun i hi hn'=>by
    rcases a5 with a5|a5
    ·lia
    ·by_cases hm:o<=n-hint
     ·exact anti _ i (by lia) hn' a5
     ·lia
   generalize hint+l+1=lo at h1 h3 ⊢;generalize hint+min o (n-hint)=hi at h1 h2 h4 ⊢
   refine DW (wpS_mono (wpS_forRange (I:=fun x c st''=>st''=st'/\c.1=none/\c.2.1<=c.2.2/\c.2.2<=n/\c.2.2 - c.2.1<=n - x/\(∀i,i < c.2.1->B i=true)/\(∀i,c.2.2<=i->i < n->B i=false))
    (Q:=fun c st''=>st''=st'/\c.1=none/\c.2.1=c.2.2/\c.2.2<=n/\(∀i,i < c.2.2->B i=true)/\(∀i,c.2.2<=i->i < n->B i=false)) ?step2 ?fin2 ⟨rfl,rfl,h1,h2,(by show hi - lo<=n - 0; lia),h3,h4⟩) ?post2)
   case fin2=>
    rintro⟨c0,l,r⟩ st' ⟨rfl,e0,a1,a2,a3,a4,a5⟩;have a3':r-l<=n-max 0 n:=a3;have e:l=r:=by
     have:l<=r:=a1;lia
    exact⟨rfl,e0,e,a2,by rw[e] at a4;exact a4,a5⟩
   case post2=>
    rintro⟨c0,l,r⟩ st' ⟨rfl,e0,a1,a2,a4,a5⟩;cases e0;exact DX (h r a2 a4 a5)
   case step2=>
    rintro x ⟨c0,l,r⟩ st' _ hx ⟨rfl,e0,a1,a2,a3,a4,a5⟩;cases e0;dsimp only at a1 a2 a3 a4 a5 ⊢;by_cases hge:l≥r
    ·rw[DZ hge];have e:l=r:=by lia
     subst e;exact DX ⟨rfl,rfl,rfl,a2,a4,a5⟩
    ·rw[DY hge];refine DW (hb _ (by lia) _ ?_);cases hm:B (l+(r-l)/2) with
     |true=>
      simp only[if_true];exact DX ⟨rfl,rfl,by show l+(r-l)/2+1<=r;lia,a2,by show r-(l+(r-l)/2+1)<=n-(x+1);lia,fun i hi=>mono i _ (by have:i<l+(r-l)/2+1:=hi;lia) (by lia) hm,a5⟩
     |false=>
      simp only[Cf,if_false];exact DX ⟨rfl,rfl,by show l<=l+(r-l)/2;lia,by show l+(r-l)/2<=n;lia,by show l+(r-l)/2-l<=n-(x+1);lia,a4,fun i hi hn'=>anti _ i hi hn' hm⟩
  case step=>
   rintro x ⟨c0,l,o⟩ st' _ hx ⟨rfl,e0,a1,a2,a3,a4⟩;cases e0;dsimp only at a1 a2 a3 a4 ⊢;by_cases hge:o≥n-hint
   ·rw[DZ hge];exact DX ⟨rfl,rfl,a2,a3,a4,.inl hge⟩
   ·rw[DY hge];refine DW (hb _ (by lia) _ ?_);cases hm:B (hint+o) with
    |true=>exact DX ⟨rfl,rfl,by show x+1+1<=2*o+1;lia,by show o<2*o+1;lia,by show hint+o<n;lia,hm⟩
    |false=>exact DX ⟨rfl,rfl,a2,a3,a4,.inr hm⟩
 |false=>
  refine DW (wpS_mono (wpS_forRange (I:=fun x c st'=>st'=st/\c.1=none/\x+1<=c.2.2/\c.2.1 < c.2.2/\c.2.1<=hint/\B (hint - c.2.1)=false)
   (Q:=fun c st'=>st'=st/\c.1=none/\c.2.1 < c.2.2/\c.2.1<=hint/\B (hint - c.2.1)=false/\(hint+1<=c.2.2\/B (hint - c.2.2)=true)) ?step ?fin ⟨rfl,rfl,by show 0+1<=1; lia,by show 0 < 1; lia,by show 0<=hint; lia,by show B (hint - 0)=false; exact hr⟩) ?post)
  case fin=>
   rintro⟨c0,l,o⟩ st' ⟨rfl,e0,a1,a2,a3,a4⟩;exact⟨rfl,e0,a2,a3,a4,.inl (by have:max 0 n+1<=o:=a1;show hint+1<=o;lia)⟩
  case post=>
   rintro⟨c0,l,o⟩ st' ⟨rfl,e0,a2,a3,a4,a5⟩;cases e0;dsimp only at a2 a3 a4 a5 ⊢;have h1:hint+1-min o (hint+1)<=hint-l:=by lia
   have h2:hint-l<=n:=by lia
   have h3:∀i,i<hint+1-min o (hint+1)->B i=true:=fun i hi=>by
    rcases a5 with a5|a5
    ·lia
    ·by_cases hm:o<=hint
     ·exact mono i _ (by lia) (by lia) a5
     ·lia
   have h4:∀i,hint-l<=i->i<n->B i=false:=fun i hi hn'=>anti _ i (by lia) hn' a4;generalize hint+1-min o (hint+1)=lo at h1 h3 ⊢;generalize hint-l=hi at h1 h2 h4 ⊢
   refine DW (wpS_mono (wpS_forRange (I:=fun x c st''=>st''=st'/\c.1=none/\c.2.1<=c.2.2/\c.2.2<=n/\c.2.2 - c.2.1<=n - x/\(∀i,i < c.2.1->B i=true)/\(∀i,c.2.2<=i->i < n->B i=false))
    (Q:=fun c st''=>st''=st'/\c.1=none/\c.2.1=c.2.2/\c.2.2<=n/\(∀i,i < c.2.2->B i=true)/\(∀i,c.2.2<=i->i < n->B i=false)) ?step2 ?fin2 ⟨rfl,rfl,h1,h2,(by show hi - lo<=n - 0; lia),h3,h4⟩) ?post2)
   case fin2=>
    rintro⟨c0,l,r⟩ st' ⟨rfl,e0,a1,a2,a3,a4,a5⟩;have a3':r-l<=n-max 0 n:=a3;have e:l=r:=by
     have:l<=r:=a1;lia
    exact⟨rfl,e0,e,a2,by rw[e] at a4;exact a4,a5⟩
   case post2=>
    rintro⟨c0,l,r⟩ st' ⟨rfl,e0,a1,a2,a4,a5⟩;cases e0;exact DX (h r a2 a4 a5)
   case step2=>
    rintro x ⟨c0,l,r⟩ st' _ hx ⟨rfl,e0,a1,a2,a3,a4,a5⟩;cases e0;dsimp only at a1 a2 a3 a4 a5 ⊢;by_cases hge:l≥r
    ·rw[DZ hge];have e:l=r:=by lia
     subst e;exact DX ⟨rfl,rfl,rfl,a2,a4,a5⟩
    ·rw[DY hge];refine DW (hb _ (by lia) _ ?_);cases hm:B (l+(r-l)/2) with
     |true=>
      simp only[if_true];exact DX ⟨rfl,rfl,by show l+(r-l)/2+1<=r;lia,a2,by show r-(l+(r-l)/2+1)<=n-(x+1);lia,fun i hi=>mono i _ (by have:i<l+(r-l)/2+1:=hi;lia) (by lia) hm,a5⟩
     |false=>
      simp only[Cf,if_false];exact DX ⟨rfl,rfl,by show l<=l+(r-l)/2;lia,by show l+(r-l)/2<=n;lia,by show l+(r-l)/2-l<=n-(x+1);lia,a4,fun i hi hn'=>anti _ i hi hn' hm⟩
  case step=>
   rintro x ⟨c0,l,o⟩ st' _ hx ⟨rfl,e0,a1,a2,a3,a4⟩;cases e0;dsimp only at a1 a2 a3 a4 ⊢;by_cases hge:o≥hint+1
   ·rw[DZ hge];exact DX ⟨rfl,rfl,a2,a3,a4,.inl hge⟩
   ·rw[DY hge];refine DW (hb _ (by lia) _ ?_);cases hm:B (hint-o) with
    |true=>exact DX ⟨rfl,rfl,a2,a3,a4,.inr hm⟩
    |false=>exact DX ⟨rfl,rfl,by show x+1+1<=2*o+1;lia,by show o<2*o+1;lia,by show o<=hint;lia,hm⟩
end
def kl (κ:KeyKind)(x y:Keyed):Prop:=κ.kle (kf κ x) (kf κ y)
theorem kl.trans{κ:KeyKind}{x y z:Keyed}(a:kl κ x y)(b:kl κ y z):kl κ x z:=KeyOrd.kle_trans a b
structure MI(κ:KeyKind)(A B out ra rb:List Keyed):Prop where
 perm:(out++(ra++rb)).Perm (A++B)
 so:out.Pairwise (kl κ)
 sa:ra.Pairwise (kl κ)
 sb:rb.Pairwise (kl κ)
 le:∀x∈out,∀y∈ra++rb,kl κ x y
def Fin (κ:KeyKind)(A B r:List Keyed):Prop:=r.Perm (A++B)/\r.Pairwise (kl κ)
section
variable {κ:KeyKind}{A B out ra rb:List Keyed}
theorem mv{l:List Keyed}{p:Keyed}(h:l.Pairwise (kl κ))(e:l[0]?=some p):∀y∈l,kl κ p y:=fun y hy=>by
 cases l with
 |nil=>cases e
 |cons a r=>
  cases e;rcases Bl.mp hy with rfl|hy
  ·exact Em _
  ·exact(List.pairwise_cons.mp h).1 y hy
theorem MI.IH(h:MI κ A B out ra rb)(k:Nat)(hk:∀x∈ra.take k,∀y∈rb,kl κ x y):MI κ A B (out++ra.take k) (ra.drop k) rb:=by
 have e:ra=ra.take k++ra.drop k:=(BK k ra).symm;have sa:=h.sa;rw[e] at sa;obtain⟨s1,s2,s3⟩:=BH.mp sa;refine⟨?_,BH.mpr ⟨h.so,s1,fun x hx y hy=>h.le x hx y (Bn _ (Cg hy))⟩,s2,h.sb,fun x hx y hy=>?_⟩
 ·rw[BC,<- BC (ra.take k),BK];exact h.perm
 ·rcases Bb.mp hx with hx|hx
  ·rcases Bb.mp hy with hy|hy
   ·exact h.le x hx y (Bn _ (Ci hy))
   ·exact h.le x hx y (AY _ hy)
  ·rcases Bb.mp hy with hy|hy
   ·exact s3 x hx y hy
   ·exact hk x hx y hy
theorem MI.II(h:MI κ A B out ra rb)(k:Nat)(hk:∀x∈rb.take k,∀y∈ra,kl κ x y):MI κ A B (out++rb.take k) ra (rb.drop k):=by
 have e:rb=rb.take k++rb.drop k:=(BK k rb).symm;have sb:=h.sb;rw[e] at sb;obtain⟨s1,s2,s3⟩:=BH.mp sb;refine⟨?_,BH.mpr ⟨h.so,s1,fun x hx y hy=>h.le x hx y (AY _ (Cg hy))⟩,h.sa,s2,fun x hx y hy=>?_⟩
 ·refine List.Perm.trans ?_ h.perm;rw[BC];refine List.Perm.append_left _ ?_;rw[<- BC];refine(Di.append_right _).trans ?_;rw[BC,BK]
 ·rcases Bb.mp hx with hx|hx
  ·rcases Bb.mp hy with hy|hy
   ·exact h.le x hx y (Bn _ hy)
   ·exact h.le x hx y (AY _ (Ci hy))
  ·rcases Bb.mp hy with hy|hy
   ·exact hk x hx y hy
   ·exact s3 x hx y hy
theorem MI.last(h:MI κ A B out ra rb)(hk:∀x∈rb,∀y∈ra,kl κ x y):Fin κ A B (out++rb++ra):=by
 refine⟨?_,BH.mpr ⟨BH.mpr ⟨h.so,h.sb,fun x hx y hy=>h.le x hx y (AY _ hy)⟩,h.sa,fun x hx y hy=>?_⟩⟩
 ·rw[BC];exact(Di.append_left _).trans h.perm
 ·rcases Bb.mp hx with hx|hx
  ·exact h.le x hx y (Bn _ hy)
  ·exact hk x hx y hy
theorem MI.done(h:MI κ A B out ra rb)(hk:∀x∈ra,∀y∈rb,kl κ x y):Fin κ A B (out++ra++rb):=by
 refine⟨by rw[BC];exact h.perm,BH.mpr ⟨BH.mpr ⟨h.so,h.sa,fun x hx y hy=>h.le x hx y (Bn _ hy)⟩,h.sb,fun x hx y hy=>?_⟩⟩;rcases Bb.mp hx with hx|hx
 ·exact h.le x hx y (AY _ hy)
 ·exact hk x hx y hy
end
section
variable {α:Type}
theorem dR(a:Array α)(i:Nat):(a.extract i a.size).toList=a.toList.drop i:=by
 rw[Dj];show(a.toList.drop i).take (a.size-i)=_;exact Bs (by rw[BJ,Bu];exact AW _)
theorem lN(a:Array α)(i k:Nat):(a.extract i (i+k)).toList=(a.toList.drop i).take k:=by
 rw[Dj];show(a.toList.drop i).take (i+k-i)=_;rw[Nat.add_sub_cancel_left]
theorem cZ{l:List α}{i:Nat}{p:α}(e:l[i]?=some p):(l.drop i).take 1=[p]:=by
 have hi:=(Be.mp e).1;rw[CF hi,List.take_succ_cons,CU];exact congrArg (fun x=>[x]) (Be.mp e).2
theorem drop_zero{l:List α}{i:Nat}:(l.drop i)[0]?=l[i]?:=by rw[BW,Cd]
end
section
variable {prog:Program}{w:World}{A:Around}{E:Value->Shared->Prop}{s:Shared}{κ:KeyKind}{st:SortSt}
theorem aD{α:Type}{c:Prop} [Decidable c]{m n:StateT SortSt Sem α}{Q:α->SortSt->Prop}(h1:c->wpS (model prog w) A E s m Q st)(h2:¬c->wpS (model prog w) A E s n Q st):wpS (model prog w) A E s (if c then m else n) Q st:=by
 by_cases h:c
 ·rw[DZ h];exact h1 h
 ·rw[DY h];exact h2 h
structure Fi(st st':SortSt):Prop where
 kind:kindOf st'=kindOf st
 arr:arrOf st'=arrOf st
 pend:pendingOf st'=pendingOf st
 fail:failedOf st'=failedOf st
theorem Fi.refl(st:SortSt):Fi st st:=⟨rfl,rfl,rfl,rfl⟩
theorem Fi.trans{a b c:SortSt}(h:Fi a b)(g:Fi b c):Fi a c:=⟨g.kind.trans h.kind,g.arr.trans h.arr,g.pend.trans h.pend,g.fail.trans h.fail⟩
theorem Fi.set(st:SortSt)(g:Nat):Fi st (SortSt.mk' (kindOf st) (arrOf st) (pendingOf st) g (failedOf st)):=⟨rfl,rfl,rfl,rfl⟩
theorem gh{g:Nat}{Q:Unit->SortSt->Prop}(h:∀st',Fi st st'->Q () st'):wpS (model prog w) A E s ((sortPriv% PySem.Builtin.setMinGallop) g) Q st:=wpS_modify (h _ (Fi.set st g))
def IW:Array Keyed->Array Keyed->StateT SortSt Sem (Array Keyed):=sortPriv% PySem.Builtin.mergeLo
theorem jl{a b:Array Keyed}{Q:Array Keyed->SortSt->Prop}(hO:κ.OneLt)(hk:kindOf st=oneType')(ka:∀p∈a.toList,Has κ p)(kb:∀p∈b.toList,Has κ p)(sa:a.toList.Pairwise (kl κ))(sb:b.toList.Pairwise (kl κ))
  (na:1<=a.size)(nb:1<=b.size)(h0:∀y∈a.toList,∀p,b[0]?=some p->kl κ p y)(hl:∀x∈b.toList,∀p,a[a.size-1]?=some p->kl κ x p)
  (h:∀r st',Fi st st'->Fin κ a.toList b.toList r.toList->Q r st'):wpS (model prog w) A E s (IW a b) Q st:=by
 have ea:∀i,i<a.size->∃p,a[i]?=some p/\a.toList[i]?=some p/\Has κ p:=fun i hi=>by
  have e:a.toList[i]?=some a[i]:=by rw[Bw];exact BL hi
  exact⟨a[i],BL hi,e,ka _ (Bp e)⟩
 have eb:∀i,i<b.size->∃p,b[i]?=some p/\b.toList[i]?=some p/\Has κ p:=fun i hi=>by
  have e:b.toList[i]?=some b[i]:=by rw[Bw];exact BL hi
  exact⟨b[i],BL hi,e,kb _ (Bp e)⟩
 have last1:∀{ia:Nat},ia+1=a.size->∀x∈b.toList,∀y∈a.toList.drop ia,kl κ x y:=fun {ia} hi x hx y hy=>by
  obtain⟨p,e1,e2,_⟩:=ea ia (by lia);have hd:a.toList.drop ia=[p]:=by
   rw[<- cZ e2,Bs (by rw[BJ,Bu];lia)]
  rw[hd] at hy;rw[Bg.mp hy];exact hl x hx p (by rw[show a.size-1=ia by lia];exact e1)
 have finL:∀{out:Array Keyed}{ia ib:Nat},MI κ a.toList b.toList out.toList (a.toList.drop ia) (b.toList.drop ib)->ia+1=a.size->Fin κ a.toList b.toList (out++b.extract ib b.size++a.extract ia a.size).toList:=fun {out ia ib} m hi=>by
  rw[BI,BI,dR,dR];exact m.last fun x hx y hy=>last1 hi x (Ci hx) y hy
 have finD:∀{out:Array Keyed}{ia ib:Nat},MI κ a.toList b.toList out.toList (a.toList.drop ia) (b.toList.drop ib)->ib=b.size->Fin κ a.toList b.toList (out++a.extract ia a.size++b.extract ib b.size).toList:=fun {out ia ib} m hi=>by
  rw[BI,BI,dR,dR];refine m.done fun x hx y hy=>?_;rw[CK (by rw[Bu];lia)] at hy;cases hy
 have goA:∀{out:Array Keyed}{ia ib k:Nat}{q:Keyed},MI κ a.toList b.toList out.toList (a.toList.drop ia) (b.toList.drop ib)->b.toList[ib]?=some q->(∀i x,i<k->a.toList[ia+i]?=some x->kl κ x q)->MI κ a.toList b.toList (out.toList++(a.toList.drop ia).take k) (a.toList.drop (ia+k)) (b.toList.drop ib):=fun {out ia ib k q} m eq hk=>by
  have:=m.IH k fun x hx y hy=>by
   obtain⟨i,hi,e⟩:=Cq.mp hx;rw[Bq] at hi;have e':a.toList[ia+i]?=some x:=by
    rw[<- BW,<- e,List.getElem_take];exact Bf (by lia)
   exact(hk i x (by lia) e').trans (mv m.sb (drop_zero.trans eq) y hy)
  rwa [DE] at this
 have goB:∀{out:Array Keyed}{ia ib k:Nat}{q:Keyed},MI κ a.toList b.toList out.toList (a.toList.drop ia) (b.toList.drop ib)->a.toList[ia]?=some q->(∀i x,i<k->b.toList[ib+i]?=some x->kl κ x q)->MI κ a.toList b.toList (out.toList++(b.toList.drop ib).take k) (a.toList.drop ia) (b.toList.drop (ib+k)):=fun {out ia ib k q} m eq hk=>by
  have:=m.II k fun x hx y hy=>by
   obtain⟨i,hi,e⟩:=Cq.mp hx;rw[Bq] at hi;have e':b.toList[ib+i]?=some x:=by
    rw[<- BW,<- e,List.getElem_take];exact Bf (by lia)
   exact(hk i x (by lia) e').trans (mv m.sa (drop_zero.trans eq) y hy)
  rwa [DE] at this
 have pushA:∀{out:Array Keyed}{ia ib:Nat}{p q:Keyed},MI κ a.toList b.toList out.toList (a.toList.drop ia) (b.toList.drop ib)->a.toList[ia]?=some p->b.toList[ib]?=some q->kl κ p q->MI κ a.toList b.toList (out.push p).toList (a.toList.drop (ia+1)) (b.toList.drop ib):=fun {out ia ib p q} m ep eq hk=>by
  have:=goA (k:=1) m eq fun i x hi e=>by
   have:i=0:=by lia
   subst this;rw[Cd,ep] at e;cases e;exact hk
  rwa [cZ ep,<- CV] at this
 have pushB:∀{out:Array Keyed}{ia ib:Nat}{p q:Keyed},MI κ a.toList b.toList out.toList (a.toList.drop ia) (b.toList.drop ib)->a.toList[ia]?=some p->b.toList[ib]?=some q->kl κ q p->MI κ a.toList b.toList (out.push q).toList (a.toList.drop ia) (b.toList.drop (ib+1)):=fun {out ia ib p q} m ep eq hk=>by
  have:=goB (k:=1) m ep fun i x hi e=>by
   have:i=0:=by lia
   subst this;rw[Cd,eq] at e;cases e;exact hk
  rwa [cZ eq,<- CV] at this
 refine DW (wpS_lift (EB ⟨rfl,?_⟩));obtain⟨q0,f1,f2,f3⟩:=eb 0 (by lia);refine DW (aK f1 ?_);have m0:MI κ a.toList b.toList (#[q0]:Array Keyed).toList (a.toList.drop 0) (b.toList.drop 1):=by
  have start:MI κ a.toList b.toList (#[]:Array Keyed).toList (a.toList.drop 0) (b.toList.drop 0):=⟨.refl _,.nil,sa,sb,fun x hx=>by cases hx⟩
  have:=start.II 1 fun x hx y hy=>by
   have:(b.toList.drop 0).take 1=[q0]:=cZ f2;rw[this] at hx;rw[Bg.mp hx];exact h0 y hy q0 f1
  rw[cZ f2,DE] at this;exact this
 refine aD (fun e=>DX (h _ st (.refl st) (finD m0 (by simpa using e)))) fun e1=>aD (fun e=>DX (h _ st (.refl st) (finL m0 (by simpa using e)))) fun e2=>?_;have hb1:1<b.size:=by
  have:¬1=b.size:=by simpa using e1
  lia
 have ha1:0+1<a.size:=by
  have:¬0+1=a.size:=by simpa using e2
  lia
 refine DW (wpS_get ?_)
 refine DW (wpS_mono (wpS_forRange (I:=fun x c st'=>Fi st st'/\c.1=none/\MI κ a.toList b.toList c.2.1.toList (a.toList.drop c.2.2.1) (b.toList.drop c.2.2.2.1)/\c.2.2.1+1 < a.size/\c.2.2.2.1 < b.size/\x < c.2.2.1+c.2.2.2.1)
  (Q:=fun c st'=>Fi st st'/\∃r,c.1=some r/\Fin κ a.toList b.toList r.toList) ?step ?fin ⟨.refl st,rfl,m0,ha1,hb1,by show 0 < 0+1; lia⟩) ?post)
 case fin=>
  rintro⟨c0,out,ia,ib,mg⟩ st' ⟨_,_,_,a1,a2,a3⟩;exfalso;have a1':ia+1<a.size:=a1;have a2':ib<b.size:=a2;have a3':max 0 (a.size+b.size)<ia+ib:=a3;lia
 case post=>
  rintro⟨c0,out,ia,ib,mg⟩ st' ⟨g,r,e,f⟩;cases e;exact DX (h r st' g f)
 case step=>
  rintro x ⟨c0,out,ia,ib,mg⟩ st1 _ hx ⟨g1,e0,m1,a1,a2,a3⟩;cases e0;dsimp only at m1 a1 a2 a3
  refine DW (wpS_mono (wpS_forRange (I:=fun y c st'=>Fi st st'/\c.1=none/\MI κ a.toList b.toList c.2.1.toList (a.toList.drop c.2.2.1) (b.toList.drop c.2.2.2.1)/\c.2.2.1+1 < a.size/\c.2.2.2.1 < b.size/\x+y < c.2.2.1+c.2.2.2.1)
   (Q:=fun c st'=>Fi st st'/\((∃r,c.1=some r/\Fin κ a.toList b.toList r.toList)\/(c.1=none/\MI κ a.toList b.toList c.2.1.toList (a.toList.drop c.2.2.1) (b.toList.drop c.2.2.2.1)/\c.2.2.1+1 < a.size/\c.2.2.2.1 < b.size/\x < c.2.2.1+c.2.2.2.1))) ?stepA ?finA ⟨g1,rfl,m1,a1,a2,by show x+0 < ia+ib; lia⟩) ?postA)
  case finA=>
   rintro⟨c0,out,ia,ib,ac,bc⟩ st' ⟨_,_,_,a1,a2,a3⟩;exfalso;have a1':ia+1<a.size:=a1;have a2':ib<b.size:=a2;have a3':x+max 0 (a.size+b.size)<ia+ib:=a3;lia
  case stepA=>
   rintro y ⟨c0,out,ia,ib,ac,bc⟩ st2 _ hy ⟨g2,e0,m2,a1,a2,a3⟩;cases e0;dsimp only at m2 a1 a2 a3;obtain⟨q,q1,q2,q3⟩:=eb ib a2;obtain⟨p,p1,p2,p3⟩:=ea ia (by lia);refine DW (aK q1 (DW (aK p1 (DW (gH hO (g2.kind.trans hk) q3 p3 ?_)))));cases hlt:κ.blt (kf κ q) (kf κ p) with
   |true=>
    refine DW (aK q1 ?_);have m3:=pushB m2 p2 q2 (En hlt);refine aD (fun e=>DX ⟨g2,.inl ⟨_,rfl,finD m3 (by simpa using e)⟩⟩) fun e=>?_;have e':ib+1<b.size:=by
     have:¬ib+1=b.size:=by simpa using e
     lia
    exact aD (fun _=>DX ⟨g2,.inr ⟨rfl,m3,a1,e',by show x<ia+(ib+1);lia⟩⟩) fun _=>DX ⟨g2,rfl,m3,a1,e',by show x+(y+1)<ia+(ib+1);lia⟩
   |false=>
    refine DW (aK p1 ?_);have m3:=pushA m2 p2 q2 hlt;refine aD (fun e=>DX ⟨g2,.inl ⟨_,rfl,finL m3 (by simpa using e)⟩⟩) fun e=>?_;have e':ia+1+1<a.size:=by
     have:¬ia+1+1=a.size:=by simpa using e
     lia
    exact aD (fun _=>DX ⟨g2,.inr ⟨rfl,m3,e',a2,by show x<ia+1+ib;lia⟩⟩) fun _=>DX ⟨g2,rfl,m3,e',a2,by show x+(y+1)<ia+1+ib;lia⟩
  case postA=>
   rintro⟨c0,out,ia,ib,ac,bc⟩ st2 ⟨g2,z⟩;rcases z with ⟨r,e,f⟩|⟨e0,m2,a1,a2,a3⟩
   ·cases e;exact DX ⟨g2,r,rfl,f⟩
   cases e0;dsimp only at m2 a1 a2 a3;refine DW (wpS_lift (EB ⟨rfl,?_⟩))
   refine DW (wpS_mono (wpS_forRange (I:=fun y c st'=>Fi st st'/\c.1=none/\MI κ a.toList b.toList c.2.1.toList (a.toList.drop c.2.2.1) (b.toList.drop c.2.2.2.1)/\c.2.2.1+1 < a.size/\c.2.2.2.1 < b.size/\x+y < c.2.2.1+c.2.2.2.1)
    (Q:=fun c st'=>Fi st st'/\((∃r,c.1=some r/\Fin κ a.toList b.toList r.toList)\/(c.1=none/\MI κ a.toList b.toList c.2.1.toList (a.toList.drop c.2.2.1) (b.toList.drop c.2.2.2.1)/\c.2.2.1+1 < a.size/\c.2.2.2.1 < b.size/\x+1 < c.2.2.1+c.2.2.2.1))) ?stepB ?finB ⟨g2,rfl,m2,a1,a2,by show x+0 < ia+ib; lia⟩) ?postB)
   case finB=>
    rintro⟨c0,out,ia,ib,mg',ac,bc⟩ st' ⟨_,_,_,a1,a2,a3⟩;exfalso;have a1':ia+1<a.size:=a1;have a2':ib<b.size:=a2;have a3':x+max 0 (a.size+b.size)<ia+ib:=a3;lia
   case postB=>
    rintro⟨c0,out,ia,ib,mg',ac,bc⟩ st3 ⟨g3,z⟩;rcases z with ⟨r,e,f⟩|⟨e0,m3,a1,a2,a3⟩
    ·cases e;exact DX ⟨g3,r,rfl,f⟩
    cases e0;exact DW (wpS_modify (DX ⟨g3.trans (Fi.set st3 _),rfl,m3,a1,a2,a3⟩))
   case stepB=>
    rintro y ⟨c0,out,ia,ib,mg',ac,bc⟩ st3 _ hy ⟨g3,e0,m3,a1,a2,a3⟩;cases e0;dsimp only at m3 a1 a2 a3;obtain⟨q,q1,q2,q3⟩:=eb ib a2;refine aD (fun _=>?_) fun _=>?_
    all_goals (
     refine DW (gh fun st4 g4'=>?_);have g4:=g3.trans g4';refine DW (aK q1 (DW (bM (κ:=κ) (base:=ia) (n:=a.size-ia) (hint:=0) hO (g4.kind.trans hk) q3 (fun i=>(a[ia+i]?).getD q) (fun i hi=>?_) (by lia) (fun i=>!κ.blt (kf κ q) (kf κ ((a[ia+i]?).getD q))) (fun i=>rfl) (fun i j hij hj hB=>?_) fun k hkn hk1 hk2=>?_)))
     ·obtain⟨p,p1,p2,p3⟩:=ea (ia+i) (by lia);rw[p1];exact⟨rfl,p3⟩
     ·obtain⟨p,p1,p2,p3⟩:=ea (ia+i) (by lia);obtain⟨r,r1,r2,r3⟩:=ea (ia+j) (by lia);rw[r1] at hB;rw[p1];have hr:kl κ r q:=by
       show κ.blt (kf κ q) (kf κ r)=false;simpa using hB
      have hp:kl κ p r:=by
       by_cases e:i=j
       ·subst e;rw[p1] at r1;cases r1;exact Em _
       ·have h1:=CG.mp sa (ia+i) (ia+j) (by rw[Bu];lia) (by rw[Bu];lia) (by lia);rw[(Be.mp p2).2,(Be.mp r2).2] at h1;exact h1
      have:=hp.trans hr;show(!κ.blt (kf κ q) (kf κ p))=true;have h2:κ.blt (kf κ q) (kf κ p)=false:=this;rw[h2];rfl
     have hkA:∀i x,i<k->a.toList[ia+i]?=some x->kl κ x q:=fun i x hi e=>by
      have:=hk1 i hi;rw[<- Bw,e] at this;show κ.blt (kf κ q) (kf κ x)=false;simpa using this
     have mA:=goA m3 q2 hkA;have hq:∀p,a.toList[ia+k]?=some p->kl κ q p:=fun p e=>by
      have hi:=(Be.mp e).1;rw[Bu] at hi;have:=hk2 k (AW _) (by lia);rw[<- Bw,e] at this;exact En (show κ.blt (kf κ q) (kf κ p)=true by simpa using this)
     apply aD
     case' h1=>
      intro hk0;rw[<- lN,<- BI] at mA;refine aD (fun e=>DX ⟨g4,.inl ⟨_,rfl,finL mA (by simpa using e)⟩⟩) fun e=>aD (fun e2=>DX ⟨g4,.inl ⟨_,rfl,?_⟩⟩) fun e2=>?_;have e2':ia+k=a.size:=by simpa using e2
      ·rw[BI,BI,dR,dR];refine mA.done fun x hx y hy=>?_;rw[CK (by rw[Bu];lia)] at hx;cases hx
      have hi2:ia+k+1<a.size:=by
       have:¬ia+k+1=a.size:=by simpa using e
       have:¬ia+k=a.size:=by simpa using e2
       lia
      have hs2:x+y<ia+k+ib:=by lia
      generalize out++a.extract ia (ia+k)=o2 at mA ⊢;generalize ia+k=i2 at mA hi2 hs2 hq ⊢
     case' h2=>
      intro hk0;have k0:k=0:=by lia
      subst k0;rw[CU,BD,Cd] at mA;rw[Cd] at hq;have hi2:ia+1<a.size:=a1;have hs2:x+y<ia+ib:=a3;generalize out=o2 at mA ⊢;generalize ia=i2 at mA hi2 hs2 hq ⊢
     all_goals (
      obtain⟨p,p1,p2,p3⟩:=ea i2 (by lia);refine DW (aK q1 ?_);have mB:=pushB mA p2 q2 (hq p p2);refine aD (fun e=>DX ⟨g4,.inl ⟨_,rfl,finD mB (by simpa using e)⟩⟩) fun e=>?_;have e':ib+1<b.size:=by
       have:¬ib+1=b.size:=by simpa using e
       lia
      refine DW (aK p1 (DW (bM (κ:=κ) (base:=ib+1) (n:=b.size-(ib+1)) (hint:=0) hO (g4.kind.trans hk) p3 (fun i=>(b[ib+1+i]?).getD p) (fun i hi=>?_) (by lia) (fun i=>κ.blt (kf κ ((b[ib+1+i]?).getD p)) (kf κ p)) (fun i=>rfl) (fun i j hij hj hB=>?_) fun k2 hkn2 hj1 hj2=>?_)))
      ·obtain⟨r,r1,r2,r3⟩:=eb (ib+1+i) (by lia);rw[r1];exact⟨rfl,r3⟩
      ·obtain⟨u,u1,u2,u3⟩:=eb (ib+1+i) (by lia);obtain⟨r,r1,r2,r3⟩:=eb (ib+1+j) (by lia);rw[r1] at hB;rw[u1];have hp:kl κ u r:=by
        by_cases e:i=j
        ·subst e;rw[u1] at r1;cases r1;exact Em _
        ·have h1:=CG.mp sb (ib+1+i) (ib+1+j) (by rw[Bu];lia) (by rw[Bu];lia) (by lia);rw[(Be.mp u2).2,(Be.mp r2).2] at h1;exact h1
       exact KeyOrd.klt_of_kle_of_klt hp hB
      have hkB:∀i x,i<k2->b.toList[ib+1+i]?=some x->kl κ x p:=fun i x hi e=>by
       have:=hj1 i hi;rw[<- Bw,e] at this;exact En this
      have mC:=goB mB p2 hkB;have hp:∀r,b.toList[ib+1+k2]?=some r->kl κ p r:=fun r e=>by
       have hi:=(Be.mp e).1;rw[Bu] at hi;have:=hj2 k2 (AW _) (by lia);rw[<- Bw,e] at this;exact this
      apply aD
      case' h1=>
       intro hk0;rw[<- lN,<- BI] at mC;refine aD (fun e=>DX ⟨g4,.inl ⟨_,rfl,finD mC (by simpa using e)⟩⟩) fun e=>?_;have hj:ib+1+k2<b.size:=by
        have:¬ib+1+k2=b.size:=by simpa using e
        lia
       have hs3:x+y+1<i2+(ib+1+k2):=by lia
       generalize o2.push q++b.extract (ib+1) (ib+1+k2)=o3 at mC ⊢;generalize ib+1+k2=j2 at mC hj hs3 hp ⊢
      case' h2=>
       intro hk0;have k0:k2=0:=by lia
       subst k0;rw[CU,BD,Cd] at mC;rw[Cd] at hp;have hj:ib+1<b.size:=e';have hs3:x+y+1<i2+(ib+1):=by lia
       generalize o2.push q=o3 at mC ⊢;generalize ib+1=j2 at mC hj hs3 hp ⊢
      all_goals (
       obtain⟨r,r1,r2,r3⟩:=eb j2 hj;refine DW (aK p1 ?_);have mD:=pushA mC p2 r2 (hp r r2);refine aD (fun e=>DX ⟨g4,.inl ⟨_,rfl,finL mD (by simpa using e)⟩⟩) fun e=>?_;have e3:i2+1+1<a.size:=by
        have:¬i2+1+1=a.size:=by simpa using e
        lia
       exact aD (fun _=>DX ⟨g4,.inr ⟨rfl,mD,e3,hj,by show x+1 < i2+1+j2; lia⟩⟩) fun _=>DX ⟨g4,rfl,mD,e3,hj,by show x+(y+1) < i2+1+j2; lia⟩)))
end
structure MH(κ:KeyKind)(A B ra rb suf:List Keyed):Prop where
 perm:(ra++rb++suf).Perm (A++B)
 so:suf.Pairwise (kl κ)
 sa:ra.Pairwise (kl κ)
 sb:rb.Pairwise (kl κ)
 le:∀x∈ra++rb,∀y∈suf,kl κ x y
section
variable {κ:KeyKind}{A B ra rb suf:List Keyed}
theorem mQ{l:List Keyed}{p:Keyed}(h:l.Pairwise (kl κ))(e:l[l.length-1]?=some p):∀x∈l,kl κ x p:=fun x hx=>by
 obtain⟨i,hi,rfl⟩:=Cq.mp hx;obtain⟨hj,rfl⟩:=Be.mp e;by_cases q:i=l.length-1
 ·subst q;exact Em _
 ·exact CG.mp h i (l.length-1) hi hj (by lia)
theorem MH.IH(h:MH κ A B ra rb suf)(k:Nat)(hk:∀x∈rb,∀y∈ra.drop k,kl κ x y):MH κ A B (ra.take k) rb (ra.drop k++suf):=by
 have sa:=h.sa;rw[<- BK k ra] at sa;obtain⟨s1,s2,s3⟩:=BH.mp sa;refine⟨?_,BH.mpr ⟨s2,h.so,fun x hx y hy=>h.le x (Bn _ (Ci hx)) y hy⟩,s1,h.sb,fun x hx y hy=>?_⟩
 ·refine List.Perm.trans ?_ h.perm;rw[<- BC];refine List.Perm.append_right _ ?_;rw[BC];refine(Di.append_left _).trans ?_;rw[<- BC,BK]
 ·rcases Bb.mp hy with hy|hy
  ·rcases Bb.mp hx with hx|hx
   ·exact s3 x hx y hy
   ·exact hk x hx y hy
  ·rcases Bb.mp hx with hx|hx
   ·exact h.le x (Bn _ (Cg hx)) y hy
   ·exact h.le x (AY _ hx) y hy
theorem MH.II(h:MH κ A B ra rb suf)(k:Nat)(hk:∀x∈ra,∀y∈rb.drop k,kl κ x y):MH κ A B ra (rb.take k) (rb.drop k++suf):=by
 have sb:=h.sb;rw[<- BK k rb] at sb;obtain⟨s1,s2,s3⟩:=BH.mp sb;refine⟨?_,BH.mpr ⟨s2,h.so,fun x hx y hy=>h.le x (AY _ (Ci hx)) y hy⟩,h.sa,s1,fun x hx y hy=>?_⟩
 ·refine List.Perm.trans ?_ h.perm;rw[<- BC,BC ra,BK]
 ·rcases Bb.mp hy with hy|hy
  ·rcases Bb.mp hx with hx|hx
   ·exact hk x hx y hy
   ·exact s3 x hx y hy
  ·rcases Bb.mp hx with hx|hx
   ·exact h.le x (Bn _ hx) y hy
   ·exact h.le x (AY _ (Cg hx)) y hy
theorem MH.done(h:MH κ A B ra rb suf)(hk:∀x∈ra,∀y∈rb,kl κ x y):Fin κ A B (ra++rb++suf):=⟨h.perm,BH.mpr ⟨BH.mpr ⟨h.sa,h.sb,hk⟩,h.so,h.le⟩⟩
theorem MH.first(h:MH κ A B ra rb suf)(hk:∀x∈rb,∀y∈ra,kl κ x y):Fin κ A B (rb++ra++suf):=
 ⟨(Di.append_right _).trans h.perm,BH.mpr ⟨BH.mpr ⟨h.sb,h.sa,hk⟩,h.so,fun x hx y hy=>h.le x (Bb.mpr ((Bb.mp hx).symm)) y hy⟩⟩
end
theorem gG{α:Type}(a:Array α)(n:Nat):(a.extract 0 n).toList=a.toList.take n:=by
 rw[Dj];show(a.toList.drop 0).take (n-0)=_;rw[CL,CW]
theorem cF{α:Type}(a:Array α)(i n:Nat):(a.extract i n).toList=(a.toList.take n).drop i:=by
 rw[Dj,List.drop_take]
theorem ni{α:Type}(o x:Array α):(o++x.reverse).toList.reverse=x.toList++o.toList.reverse:=by rw[BI,DG,DH,List.reverse_reverse]
theorem gz{α:Type}{l:List α}{n:Nat}{p:α}(h:1<=n)(e:l[n-1]?=some p):(l.take n).drop (n-1)=[p]:=by
 rw[List.drop_take,show n-(n-1)=1 by lia];exact cZ e
section
variable {prog:Program}{w:World}{A:Around}{E:Value->Shared->Prop}{s:Shared}{κ:KeyKind}{st:SortSt}
def IU:Array Keyed->Array Keyed->StateT SortSt Sem (Array Keyed):=sortPriv% PySem.Builtin.mergeHi
theorem iU{a b:Array Keyed}{Q:Array Keyed->SortSt->Prop}(hO:κ.OneLt)(hk:kindOf st=oneType')(ka:∀p∈a.toList,Has κ p)(kb:∀p∈b.toList,Has κ p)(sa:a.toList.Pairwise (kl κ))(sb:b.toList.Pairwise (kl κ))
  (na1:1<=a.size)(nb1:1<=b.size)(h0:∀y∈a.toList,∀p,b[0]?=some p->kl κ p y)(hl:∀x∈b.toList,∀p,a[a.size-1]?=some p->kl κ x p)
  (h:∀r st',Fi st st'->Fin κ a.toList b.toList r.toList->Q r st'):wpS (model prog w) A E s (IU a b) Q st:=by
 have ea:∀i,i<a.size->∃p,a[i]?=some p/\a.toList[i]?=some p/\Has κ p:=fun i hi=>by
  have e:a.toList[i]?=some a[i]:=by rw[Bw];exact BL hi
  exact⟨a[i],BL hi,e,ka _ (Bp e)⟩
 have eb:∀i,i<b.size->∃p,b[i]?=some p/\b.toList[i]?=some p/\Has κ p:=fun i hi=>by
  have e:b.toList[i]?=some b[i]:=by rw[Bw];exact BL hi
  exact⟨b[i],BL hi,e,kb _ (Bp e)⟩
 have la:a.toList.length=a.size:=Bu;have lb:b.toList.length=b.size:=Bu;have finF:∀{out:Array Keyed}{na nb:Nat},MH κ a.toList b.toList (a.toList.take na) (b.toList.take nb) out.toList.reverse->nb=1->Fin κ a.toList b.toList (b.extract 0 nb++a.extract 0 na++out.reverse).toList:=fun {out na nb} m hi=>by
  rw[BI,BI,gG,gG,DH];refine m.first fun x hx y hy=>?_;obtain⟨q,q1,q2,_⟩:=eb 0 (by lia);have e:b.toList.take nb=[q]:=by rw[hi];exact cZ (i:=0) q2
  rw[e] at hx;rw[Bg.mp hx];exact h0 y (Cg hy) q q1
 have finD:∀{out:Array Keyed}{na nb:Nat},MH κ a.toList b.toList (a.toList.take na) (b.toList.take nb) out.toList.reverse->na=0\/nb=0->Fin κ a.toList b.toList (a.extract 0 na++b.extract 0 nb++out.reverse).toList:=fun {out na nb} m hi=>by
  rw[BI,BI,gG,gG,DH];refine m.done fun x hx y hy=>?_;rcases hi with hi|hi
  ·rw[hi,CU] at hx;cases hx
  ·rw[hi,CU] at hy;cases hy
 have goA:∀{out:Array Keyed}{na nb at':Nat}{q:Keyed},MH κ a.toList b.toList (a.toList.take na) (b.toList.take nb) out.toList.reverse->1<=nb->nb<=b.size->at'<=na->b.toList[nb-1]?=some q->(∀i x,at'<=i->i<na->a.toList[i]?=some x->kl κ q x)->MH κ a.toList b.toList (a.toList.take at') (b.toList.take nb) ((a.toList.take na).drop at'++out.toList.reverse):=fun {out na nb at' q} m h1 h2 h3 eq hk=>by
  have:=m.IH at' fun x hx y hy=>by
   obtain⟨i,hi,e⟩:=Cq.mp hy;rw[BJ,Bq] at hi;have e':a.toList[at'+i]?=some y:=by
    have:((a.toList.take na).drop at')[i]?=some y:=by rw[<- e];exact Bf _
    rw[BW,BZ (by lia)] at this;exact this
   refine(mQ m.sb ?_ x hx).trans (hk (at'+i) y (by lia) (by lia) e');rw[Bq,lb,BS h2,BZ (by lia)];exact eq
  rwa [CY,BS h3] at this
 have goB:∀{out:Array Keyed}{na nb at':Nat}{q:Keyed},MH κ a.toList b.toList (a.toList.take na) (b.toList.take nb) out.toList.reverse->1<=na->na<=a.size->at'<=nb->a.toList[na-1]?=some q->(∀i x,at'<=i->i<nb->b.toList[i]?=some x->kl κ q x)->MH κ a.toList b.toList (a.toList.take na) (b.toList.take at') ((b.toList.take nb).drop at'++out.toList.reverse):=fun {out na nb at' q} m h1 h2 h3 eq hk=>by
  have:=m.II at' fun x hx y hy=>by
   obtain⟨i,hi,e⟩:=Cq.mp hy;rw[BJ,Bq] at hi;have e':b.toList[at'+i]?=some y:=by
    have:((b.toList.take nb).drop at')[i]?=some y:=by rw[<- e];exact Bf _
    rw[BW,BZ (by lia)] at this;exact this
   refine(mQ m.sa ?_ x hx).trans (hk (at'+i) y (by lia) (by lia) e');rw[Bq,la,BS h2,BZ (by lia)];exact eq
  rwa [CY,BS h3] at this
 have pushA:∀{out:Array Keyed}{na nb:Nat}{p q:Keyed},MH κ a.toList b.toList (a.toList.take na) (b.toList.take nb) out.toList.reverse->1<=na->1<=nb->nb<=b.size->a.toList[na-1]?=some p->b.toList[nb-1]?=some q->kl κ q p->MH κ a.toList b.toList (a.toList.take (na-1)) (b.toList.take nb) (out.push p).toList.reverse:=fun {out na nb p q} m h1 h2 h3 ep eq hk=>by
  have:=goA (at':=na-1) m h2 h3 (by lia) eq fun i x h4 h5 e=>by
   have:i=na-1:=by lia
   subst this;rw[ep] at e;cases e;exact hk
  rw[gz h1 ep] at this;rw[CV,DG];exact this
 have pushB:∀{out:Array Keyed}{na nb:Nat}{p q:Keyed},MH κ a.toList b.toList (a.toList.take na) (b.toList.take nb) out.toList.reverse->1<=na->na<=a.size->1<=nb->a.toList[na-1]?=some p->b.toList[nb-1]?=some q->kl κ p q->MH κ a.toList b.toList (a.toList.take na) (b.toList.take (nb-1)) (out.push q).toList.reverse:=fun {out na nb p q} m h1 h2 h3 ep eq hk=>by
  have:=goB (at':=nb-1) m h1 h2 (by lia) ep fun i x h4 h5 e=>by
   have:i=nb-1:=by lia
   subst this;rw[eq] at e;cases e;exact hk
  rw[gz h3 eq] at this;rw[CV,DG];exact this
 refine DW (wpS_lift (EB ⟨rfl,?_⟩));obtain⟨p0,f1,f2,f3⟩:=ea (a.size-1) (by lia);refine DW (aK f1 ?_);have m0:MH κ a.toList b.toList (a.toList.take (a.size-1)) (b.toList.take b.size) (#[p0]:Array Keyed).toList.reverse:=by
  have ta:a.toList.take a.size=a.toList:=Bs (by lia);have tb:b.toList.take b.size=b.toList:=Bs (by lia);have start:MH κ a.toList b.toList (a.toList.take a.size) (b.toList.take b.size) []:=by
   rw[ta,tb];exact⟨by rw[BD],.nil,sa,sb,fun x _ y hy=>by cases hy⟩
  have:=start.IH (a.size-1) fun x hx y hy=>by
   rw[gz na1 f2] at hy;rw[Bg.mp hy];exact hl x (Cg hx) p0 f1
  rw[gz na1 f2,CY,BS (by lia)] at this;exact this
 refine aD (fun e=>DX (h _ st (.refl st) (finD m0 (.inl (by simpa using e))))) fun e1=>aD (fun e=>DX (h _ st (.refl st) (finF m0 (by simpa using e)))) fun e2=>?_;have ha1:1<=a.size-1:=by
  have:¬a.size-1=0:=fun z=>e1 (by rw[z];rfl);lia
 have hb1:2<=b.size:=by
  have:¬b.size=1:=fun z=>e2 (by rw[z];rfl);lia
 refine DW (wpS_get ?_)
 refine DW (wpS_mono (wpS_forRange (I:=fun x c st'=>Fi st st'/\c.1=none/\MH κ a.toList b.toList (a.toList.take c.2.1) (b.toList.take c.2.2.1) c.2.2.2.1.toList.reverse/\1<=c.2.1/\2<=c.2.2.1/\c.2.1<=a.size/\c.2.2.1<=b.size/\x+c.2.1+c.2.2.1 < a.size+b.size)
  (Q:=fun c st'=>Fi st st'/\∃r,c.1=some r/\Fin κ a.toList b.toList r.toList) ?step ?fin ⟨.refl st,rfl,m0,ha1,hb1,by show a.size - 1<=a.size; lia,AW _,by show 0+(a.size - 1)+b.size < a.size+b.size; lia⟩) ?post)
 case fin=>
  rintro⟨c0,na,nb,out,mg⟩ st' ⟨_,_,_,a1,a2,_,_,a3⟩;exfalso;have a3':max 0 (a.size+b.size)+na+nb<a.size+b.size:=a3;lia
 case post=>
  rintro⟨c0,na,nb,out,mg⟩ st' ⟨g,r,e,f⟩;cases e;exact DX (h r st' g f)
 case step=>
  rintro x ⟨c0,na,nb,out,mg⟩ st1 _ hx ⟨g1,e0,m1,a1,a2,a4,a5,a3⟩;cases e0;dsimp only at m1 a1 a2 a3 a4 a5
  refine DW (wpS_mono (wpS_forRange (I:=fun y c st'=>Fi st st'/\c.1=none/\MH κ a.toList b.toList (a.toList.take c.2.1) (b.toList.take c.2.2.1) c.2.2.2.1.toList.reverse/\1<=c.2.1/\2<=c.2.2.1/\c.2.1<=a.size/\c.2.2.1<=b.size/\x+y+c.2.1+c.2.2.1 < a.size+b.size)
   (Q:=fun c st'=>Fi st st'/\((∃r,c.1=some r/\Fin κ a.toList b.toList r.toList)\/(c.1=none/\MH κ a.toList b.toList (a.toList.take c.2.1) (b.toList.take c.2.2.1) c.2.2.2.1.toList.reverse/\1<=c.2.1/\2<=c.2.2.1/\c.2.1<=a.size/\c.2.2.1<=b.size/\x+c.2.1+c.2.2.1 < a.size+b.size))) ?stepA ?finA ⟨g1,rfl,m1,a1,a2,a4,a5,by show x+0+na+nb < _; lia⟩) ?postA)
  case finA=>
   rintro⟨c0,na,nb,out,ac,bc⟩ st' ⟨_,_,_,_,_,_,_,a3⟩;exfalso;have a3':x+max 0 (a.size+b.size)+na+nb<a.size+b.size:=a3;lia
  case stepA=>
   rintro y ⟨c0,na,nb,out,ac,bc⟩ st2 _ hy ⟨g2,e0,m2,a1,a2,a4,a5,a3⟩;cases e0;dsimp only at m2 a1 a2 a3 a4 a5;obtain⟨q,q1,q2,q3⟩:=eb (nb-1) (by lia);obtain⟨p,p1,p2,p3⟩:=ea (na-1) (by lia);refine DW (aK q1 (DW (aK p1 (DW (gH hO (g2.kind.trans hk) q3 p3 ?_)))));cases hlt:κ.blt (kf κ q) (kf κ p) with
   |true=>
    refine DW (aK p1 ?_);have m3:=pushA m2 a1 (by lia) a5 p2 q2 (En hlt);refine aD (fun e=>DX ⟨g2,.inl ⟨_,rfl,finD m3 (.inl (by simpa using e))⟩⟩) fun e=>?_;have e':1<=na-1:=by
     have:¬na-1=0:=fun z=>e (by show((na-1:Nat)==0)=true;rw[z];rfl);lia
    exact aD (fun _=>DX ⟨g2,.inr ⟨rfl,m3,e',a2,by show na-1<=a.size;lia,a5,by show x+(na-1)+nb<_;lia⟩⟩) fun _=>DX ⟨g2,rfl,m3,e',a2,by show na-1<=a.size;lia,a5,by show x+(y+1)+(na-1)+nb<_;lia⟩
   |false=>
    refine DW (aK q1 ?_);have m3:=pushB m2 a1 a4 (by lia) p2 q2 hlt;refine aD (fun e=>DX ⟨g2,.inl ⟨_,rfl,finF m3 (by simpa using e)⟩⟩) fun e=>?_;have e':2<=nb-1:=by
     have:¬nb-1=1:=fun z=>e (by show((nb-1:Nat)==1)=true;rw[z];rfl);lia
    exact aD (fun _=>DX ⟨g2,.inr ⟨rfl,m3,a1,e',a4,by show nb-1<=b.size;lia,by show x+na+(nb-1)<_;lia⟩⟩) fun _=>DX ⟨g2,rfl,m3,a1,e',a4,by show nb-1<=b.size;lia,by show x+(y+1)+na+(nb-1)<_;lia⟩
  case postA=>
   rintro⟨c0,na,nb,out,ac,bc⟩ st2 ⟨g2,z⟩;rcases z with ⟨r,e,f⟩|⟨e0,m2,a1,a2,a4,a5,a3⟩
   ·cases e;exact DX ⟨g2,r,rfl,f⟩
   cases e0;dsimp only at m2 a1 a2 a3 a4 a5;refine DW (wpS_lift (EB ⟨rfl,?_⟩))
   refine DW (wpS_mono (wpS_forRange (I:=fun y c st'=>Fi st st'/\c.1=none/\MH κ a.toList b.toList (a.toList.take c.2.1) (b.toList.take c.2.2.1) c.2.2.2.1.toList.reverse/\1<=c.2.1/\2<=c.2.2.1/\c.2.1<=a.size/\c.2.2.1<=b.size/\x+y+c.2.1+c.2.2.1 < a.size+b.size)
    (Q:=fun c st'=>Fi st st'/\((∃r,c.1=some r/\Fin κ a.toList b.toList r.toList)\/(c.1=none/\MH κ a.toList b.toList (a.toList.take c.2.1) (b.toList.take c.2.2.1) c.2.2.2.1.toList.reverse/\1<=c.2.1/\2<=c.2.2.1/\c.2.1<=a.size/\c.2.2.1<=b.size/\x+1+c.2.1+c.2.2.1 < a.size+b.size))) ?stepB ?finB ⟨g2,rfl,m2,a1,a2,a4,a5,by show x+0+na+nb < _; lia⟩) ?postB)
   case finB=>
    rintro⟨c0,na,nb,out,mg',ac,bc⟩ st' ⟨_,_,_,_,_,_,_,a3⟩;exfalso;have a3':x+max 0 (a.size+b.size)+na+nb<a.size+b.size:=a3;lia
   case postB=>
    rintro⟨c0,na,nb,out,mg',ac,bc⟩ st3 ⟨g3,z⟩;rcases z with ⟨r,e,f⟩|⟨e0,m3,a1,a2,a4,a5,a3⟩
    ·cases e;exact DX ⟨g3,r,rfl,f⟩
    cases e0;exact DW (gh fun st4 g4=>DX ⟨g3.trans g4,rfl,m3,a1,a2,a4,a5,a3⟩)
   case stepB=>
    rintro y ⟨c0,na,nb,out,mg',ac,bc⟩ st3 _ hy ⟨g3,e0,m3,a1,a2,a4,a5,a3⟩;cases e0;dsimp only at m3 a1 a2 a3 a4 a5;obtain⟨q,q1,q2,q3⟩:=eb (nb-1) (by lia);refine aD (fun _=>?_) fun _=>?_
    all_goals (
     refine DW (gh fun st4 g4'=>?_);have g4:=g3.trans g4';refine DW (aK q1 (DW (bM (κ:=κ) (base:=0) (n:=na) (hint:=na-1) hO (g4.kind.trans hk) q3 (fun i=>(a[0+i]?).getD q) (fun i hi=>?_) (by lia) (fun i=>!κ.blt (kf κ q) (kf κ ((a[0+i]?).getD q))) (fun i=>rfl) (fun i j hij hj hB=>?_) fun at' hkn hk1 hk2=>?_)))
     ·obtain⟨p,p1,p2,p3⟩:=ea (0+i) (by lia);rw[p1];exact⟨rfl,p3⟩
     ·obtain⟨p,p1,p2,p3⟩:=ea (0+i) (by lia);obtain⟨r,r1,r2,r3⟩:=ea (0+j) (by lia);rw[r1] at hB;rw[p1];have hr:kl κ r q:=by
       show κ.blt (kf κ q) (kf κ r)=false;simpa using hB
      have hp:kl κ p r:=by
       by_cases e:i=j
       ·subst e;rw[p1] at r1;cases r1;exact Em _
       ·have h1:=CG.mp sa (0+i) (0+j) (by lia) (by lia) (by lia);rw[(Be.mp p2).2,(Be.mp r2).2] at h1;exact h1
      have h2:κ.blt (kf κ q) (kf κ p)=false:=hp.trans hr;show(!κ.blt (kf κ q) (kf κ p))=true;rw[h2];rfl
     have hkA:∀i x,at'<=i->i<na->a.toList[i]?=some x->kl κ q x:=fun i x h1 h2 e=>by
      have:=hk2 i h1 h2;rw[CZ,<- Bw,e] at this;exact En (show κ.blt (kf κ q) (kf κ x)=true by simpa using this)
     have mA:=goA m3 (by lia) a5 hkn q2 hkA;have hq:∀p,1<=at'->a.toList[at'-1]?=some p->kl κ p q:=fun p h1 e=>by
      have:=hk1 (at'-1) (by lia);rw[CZ,<- Bw,e] at this;show κ.blt (kf κ q) (kf κ p)=false;simpa using this
     apply aD
     case' h1=>
      intro hk0;rw[<- cF,<- ni] at mA;refine aD (fun e=>DX ⟨g4,.inl ⟨_,rfl,finD mA (.inl (by simpa using e))⟩⟩) fun e=>?_;have hi2:1<=at':=by
       have:¬at'=0:=fun z=>e (by show((at':Nat)==0)=true;rw[z];rfl);lia
      have hi3:at'<=a.size:=by lia
      have hs2:x+y+at'+nb<a.size+b.size:=by lia
      generalize out++(a.extract at' na).reverse=o2 at mA ⊢
     case' h2=>
      intro hk0;have k0:at'=na:=by have:¬na-at' > 0:=hk0;lia
      subst k0;rw[CK (by rw[Bq];lia),CQ] at mA;have hi2:1<=at':=a1;have hi3:at'<=a.size:=a4;have hs2:x+y+at'+nb<a.size+b.size:=a3;generalize out=o2 at mA ⊢
     all_goals (
      obtain⟨p,p1,p2,p3⟩:=ea (at'-1) (by lia);refine DW (aK q1 ?_);have mB:=pushB mA hi2 hi3 (by lia) p2 q2 (hq p hi2 p2);refine aD (fun e=>DX ⟨g4,.inl ⟨_,rfl,finF mB (by simpa using e)⟩⟩) fun e=>?_;have e':2<=nb-1:=by
       have:¬nb-1=1:=fun z=>e (by show((nb-1:Nat)==1)=true;rw[z];rfl);lia
      refine DW (aK p1 (DW (bM (κ:=κ) (base:=0) (n:=nb-1) (hint:=nb-1-1) hO (g4.kind.trans hk) p3 (fun i=>(b[0+i]?).getD p) (fun i hi=>?_) (by lia) (fun i=>κ.blt (kf κ ((b[0+i]?).getD p)) (kf κ p)) (fun i=>rfl) (fun i j hij hj hB=>?_) fun k2 hkn2 hj1 hj2=>?_)))
      ·obtain⟨r,r1,r2,r3⟩:=eb (0+i) (by lia);rw[r1];exact⟨rfl,r3⟩
      ·obtain⟨u,u1,u2,u3⟩:=eb (0+i) (by lia);obtain⟨r,r1,r2,r3⟩:=eb (0+j) (by lia);rw[r1] at hB;rw[u1];have hp:kl κ u r:=by
        by_cases e:i=j
        ·subst e;rw[u1] at r1;cases r1;exact Em _
        ·have h1:=CG.mp sb (0+i) (0+j) (by lia) (by lia) (by lia);rw[(Be.mp u2).2,(Be.mp r2).2] at h1;exact h1
       exact KeyOrd.klt_of_kle_of_klt hp hB
      have hkB:∀i x,k2<=i->i<nb-1->b.toList[i]?=some x->kl κ p x:=fun i x h1 h2 e=>by
       have:=hj2 i h1 h2;rw[CZ,<- Bw,e] at this;exact this
      have mC:=goB mB hi2 hi3 hkn2 p2 hkB;have hp:∀r,1<=k2->b.toList[k2-1]?=some r->kl κ r p:=fun r h1 e=>by
       have:=hj1 (k2-1) (by lia);rw[CZ,<- Bw,e] at this;exact En this
      apply aD
      case' h1=>
       intro hk0;rw[<- cF,<- ni] at mC;refine aD (fun e=>DX ⟨g4,.inl ⟨_,rfl,finF mC (by simpa using e)⟩⟩) fun e=>aD (fun e2=>DX ⟨g4,.inl ⟨_,rfl,finD mC (.inr (by simpa using e2))⟩⟩) fun e2=>?_;have hj:2<=k2:=by
        have:¬k2=1:=fun z=>e (by show((k2:Nat)==1)=true;rw[z];rfl);have:¬k2=0:=fun z=>e2 (by show((k2:Nat)==0)=true;rw[z];rfl);lia
       have hj3:k2<=b.size:=by lia
       have hs3:x+y+1+at'+k2<a.size+b.size:=by lia
       generalize o2.push q++(b.extract k2 (nb-1)).reverse=o3 at mC ⊢
      case' h2=>
       intro hk0;have k0:k2=nb-1:=by have:¬nb-1-k2>0:=hk0;lia
       subst k0;rw[CK (by rw[Bq];lia),CQ] at mC;have hj:2<=nb-1:=e';have hj3:nb-1<=b.size:=by lia
       have hs3:x+y+1+at'+(nb-1)<a.size+b.size:=by lia
       generalize o2.push q=o3 at mC ⊢;generalize nb-1=k2 at mC hj hj3 hs3 hp ⊢
      all_goals (
       obtain⟨r,r1,r2,r3⟩:=eb (k2-1) (by lia);refine DW (aK p1 ?_);have mD:=pushA mC hi2 (by lia) hj3 p2 r2 (hp r (by lia) r2);refine aD (fun e=>DX ⟨g4,.inl ⟨_,rfl,finD mD (.inl (by simpa using e))⟩⟩) fun e=>?_;have e3:1<=at'-1:=by
        have:¬at'-1=0:=fun z=>e (by show((at'-1:Nat)==0)=true;rw[z];rfl);lia
       exact aD (fun _=>DX ⟨g4,.inr ⟨rfl,mD,e3,hj,by show at' - 1<=a.size; lia,hj3,by show x+1+(at' - 1)+k2 < _; lia⟩⟩) fun _=>DX ⟨g4,rfl,mD,e3,hj,by show at' - 1<=a.size; lia,hj3,by show x+(y+1)+(at' - 1)+k2 < _; lia⟩)))
end
def Seg (κ:KeyKind)(xs:Array Keyed)(lo hi:Nat):Prop:=∀i j p q,lo<=i->i<=j->j<hi->xs[i]?=some p->xs[j]?=some q->kl κ p q
theorem Seg.list{κ:KeyKind}{xs:Array Keyed}{lo hi:Nat}(h:Seg κ xs lo hi)(hh:hi<=xs.size):(xs.extract lo hi).toList.Pairwise (kl κ):=by
 refine CG.mpr fun i j hi' hj hij=>?_;rw[cF,BJ,Bq,Bu] at hi' hj;have at':∀k (hk:k<(xs.extract lo hi).toList.length),xs[lo+k]?=some (xs.extract lo hi).toList[k]:=fun k hk=>by
  have e:(xs.extract lo hi).toList[k]?=some (xs.extract lo hi).toList[k]:=Bf hk;rw[cF,BJ,Bq,Bu] at hk;have e2:(xs.extract lo hi).toList[k]?=xs[lo+k]?:=by
   rw[cF,BW,BZ (by lia),Bw]
  rw[<- e2];exact e
 exact h (lo+i) (lo+j) _ _ (by lia) (by lia) (by lia) (at' i _) (at' j _)
def wr (sa:Nat)(L:List (Keyed×Nat))(a:Array Keyed):Array Keyed:=L.foldl (fun a x=>match x with|(p,j)=>a.setIfInBounds (sa+j) p) a
theorem nJ(sa:Nat):∀(L:List Keyed)(n:Nat)(a:Array Keyed)(k:Nat),sa+n+L.length<=a.size->(wr sa (L.zipIdx n) a)[k]?=if sa+n<=k/\k<sa+n+L.length then L[k-(sa+n)]? else a[k]?
 |[],n,a,k,_=>by rw[DY (by rw[DA];lia)];rfl
 |p::r,n,a,k,h=>by
  rw[BA] at h;show(wr sa (r.zipIdx (n+1)) (a.setIfInBounds (sa+n) p))[k]?=_;rw[nJ sa r (n+1) _ k (by rw[Array.size_setIfInBounds];lia),Array.getElem?_setIfInBounds,BA];by_cases h1:k=sa+n
  ·subst h1;rw[DY (by lia),DZ rfl,DZ (by lia),DZ (by lia),Nat.sub_self];rfl
  ·by_cases h2:sa+(n+1)<=k/\k<sa+(n+1)+r.length
   ·rw[DZ h2,DZ (by lia),show k-(sa+n)=(k-(sa+(n+1)))+1 by lia];rfl
   ·rw[DY h2,DY (fun z=>h1 z.symm),DY (by lia)]
theorem rF(sa:Nat)(L:List Keyed)(a:Array Keyed)(h:sa+L.length<=a.size):(wr sa (L.zipIdx 0) a).toList=a.toList.take sa++L++a.toList.drop (sa+L.length):=by
 refine List.ext_getElem? fun k=>?_;rw[Bw,nJ sa L 0 a k (by lia),Cd,BC];have lt:(a.toList.take sa).length=sa:=by rw[Bq,Bu];lia
 by_cases h1:k<sa
 ·rw[DY (by lia),CJ (by lia),BZ h1,Bw]
 ·rw[BV (by lia),lt];by_cases h2:k<sa+L.length
  ·rw[DZ ⟨by lia,h2⟩,CJ (by lia)]
  ·rw[DY (by lia),BV (by lia),BW,<- Bw]
   congr 1;lia
structure SB(κ:KeyKind)(a₀:Array Keyed)(st:SortSt):Prop where
 perm:(arrOf st).Perm a₀
 kind:kindOf st=oneType'
 failed:failedOf st=none
theorem SB.size{κ:KeyKind}{a₀:Array Keyed}{st:SortSt}(h:SB κ a₀ st):(arrOf st).size=a₀.size:=h.perm.size_eq
theorem SB.at{κ:KeyKind}{a₀:Array Keyed}{st:SortSt}(h:SB κ a₀ st)(h0:KeysOf κ a₀){i:Nat}(hi:i<a₀.size):∃p,(arrOf st)[i]?=some p/\Has κ p:=by
 have hi':i<(arrOf st).size:=by rw[h.size];exact hi
 exact⟨(arrOf st)[i],BL hi',h0 _ ((DI.mp h.perm).mem_iff.mp (by simp))⟩
section
variable {prog:Program}{w:World}{A:Around}{E:Value->Shared->Prop}{s:Shared}{κ:KeyKind}{st:SortSt}{a₀:Array Keyed}
theorem rZ{Q:PUnit->SortSt->Prop}{st':SortSt}(h:Q ⟨⟩ st'):wpS (model prog w) A E s (set st':StateT SortSt Sem PUnit) Q st:=by
 unfold wpS;rw[StateT.run_set];exact DV ⟨rfl,h⟩
theorem iV{i sa na sb nb pw pw2:Nat}{Q:Bool->SortSt->Prop}(hO:κ.OneLt)(h0:KeysOf κ a₀)(hB:SB κ a₀ st)(e1:(pendingOf st)[i]?=some (sa,na,pw))(e2:(pendingOf st)[i+1]?=some (sb,nb,pw2))(es:sb=sa+na)(n1:1<=na)(n2:1<=nb)(hz:sb+nb<=a₀.size)
  (s1:Seg κ (arrOf st) sa (sa+na))(s2:Seg κ (arrOf st) sb (sb+nb))
  (h:∀st',SB κ a₀ st'->pendingOf st'=((pendingOf st).setIfInBounds i (sa,na+nb,pw)).eraseIdxIfInBounds (i+1)->Seg κ (arrOf st') sa (sa+(na+nb))->(∀k,k<sa\/sb+nb<=k->(arrOf st')[k]?=(arrOf st)[k]?)->Q true st'):wpS (model prog w) A E s (mergeAt' i) Q st:=by
 refine DW (wpS_get ?_);have e1':(sortPriv% PySem.Builtin.SortState.pending) st=pendingOf st:=rfl;rw[e1',e1,e2];refine DW (rZ ?_);have hX:(arrOf st).size=a₀.size:=hB.size;have kk:∀p∈(arrOf st).toList,Has κ p:=fun p hp=>h0 _ ((DI.mp hB.perm).mem_iff.mp hp);have whole:∀{q:Keyed},(arrOf st)[sb]?=some q->(∀i x,sa<=i->i<sb->(arrOf st)[i]?=some x->kl κ x q)->Seg κ (arrOf st) sa (sa+(na+nb)):=fun {q} eq hq i j p r h1 h2 h3 e3 e4=>by
  by_cases c1:j<sb
  ·exact s1 i j p r h1 h2 (by lia) e3 e4
  ·by_cases c2:i<sb
   ·exact(hq i p h1 c2 e3).trans (s2 sb j q r (AW _) (by lia) (by lia) eq e4)
   ·exact s2 i j p r (by lia) h2 (by lia) e3 e4
 obtain⟨q,q1,q3⟩:=hB.at h0 (i:=sb) (by lia);refine DW (aK q1 (DW (bM (κ:=κ) (base:=sa) (n:=na) (hint:=0) hO hB.kind q3 (fun i=>((arrOf st)[sa+i]?).getD q) (fun i hi=>?_) (by lia) (fun i=>!κ.blt (kf κ q) (kf κ (((arrOf st)[sa+i]?).getD q))) (fun i=>rfl) (fun i j hij hj hBj=>?_) fun k hkn hk1 hk2=>?_)))
 ·obtain⟨p,p1,p3⟩:=hB.at h0 (i:=sa+i) (by lia);rw[p1];exact⟨rfl,p3⟩
 ·obtain⟨p,p1,p3⟩:=hB.at h0 (i:=sa+i) (by lia);obtain⟨r,r1,r3⟩:=hB.at h0 (i:=sa+j) (by lia);rw[r1] at hBj;rw[p1];have hr:kl κ r q:=by
   show κ.blt (kf κ q) (kf κ r)=false;simpa using hBj
  have h2:κ.blt (kf κ q) (kf κ p)=false:=(s1 (sa+i) (sa+j) p r (by lia) (by lia) (by lia) p1 r1).trans hr;show(!κ.blt (kf κ q) (kf κ p))=true;rw[h2];rfl
 have lo:∀i x,sa<=i->i<sa+k->(arrOf st)[i]?=some x->kl κ x q:=fun i x h1 h2 e=>by
  have:=hk1 (i-sa) (by lia);rw[show sa+(i-sa)=i by lia,e] at this;show κ.blt (kf κ q) (kf κ x)=false;simpa using this
 have hi':∀i x,sa+k<=i->i<sb->(arrOf st)[i]?=some x->kl κ q x:=fun i x h1 h2 e=>by
  have:=hk2 (i-sa) (by lia) (by lia);rw[show sa+(i-sa)=i by lia,e] at this;exact En (show κ.blt (kf κ q) (kf κ x)=true by simpa using this)
 refine aD (fun e=>DX (h _ ⟨hB.perm,hB.kind,hB.failed⟩ rfl ?_ fun _ _=>rfl)) fun e=>?_
 ·have e':na-k=0:=by simpa using e
  exact whole q1 fun i x h1 h2 ex=>lo i x h1 (by lia) ex
 have k1:1<=na-k:=by
  have:¬na-k=0:=fun z=>e (by show((na-k:Nat)==0)=true;rw[z];rfl);lia
 obtain⟨p,p1,p3⟩:=hB.at h0 (i:=sa+k+(na-k)-1) (by lia);have p1':(arrOf st)[sb-1]?=some p:=by rw[<- p1];congr 1;lia
 refine DW (aK p1 (DW (bM (κ:=κ) (base:=sb) (n:=nb) (hint:=nb-1) hO hB.kind p3 (fun i=>((arrOf st)[sb+i]?).getD p) (fun i hi=>?_) (by lia) (fun i=>κ.blt (kf κ (((arrOf st)[sb+i]?).getD p)) (kf κ p)) (fun i=>rfl) (fun i j hij hj hBj=>?_) fun k2 hkn2 hj1 hj2=>?_)))
 ·obtain⟨r,r1,r3⟩:=hB.at h0 (i:=sb+i) (by lia);rw[r1];exact⟨rfl,r3⟩
 ·obtain⟨u,u1,u3⟩:=hB.at h0 (i:=sb+i) (by lia);obtain⟨r,r1,r3⟩:=hB.at h0 (i:=sb+j) (by lia);rw[r1] at hBj;rw[u1];exact KeyOrd.klt_of_kle_of_klt (s2 (sb+i) (sb+j) u r (by lia) (by lia) (by lia) u1 r1) hBj
 have lo2:∀i x,sb<=i->i<sb+k2->(arrOf st)[i]?=some x->kl κ x p:=fun i x h1 h2 e=>by
  have:=hj1 (i-sb) (by lia);rw[show sb+(i-sb)=i by lia,e] at this;exact En this
 have hi2:∀i x,sb+k2<=i->i<sb+nb->(arrOf st)[i]?=some x->kl κ p x:=fun i x h1 h2 e=>by
  have:=hj2 (i-sb) (by lia) (by lia);rw[show sb+(i-sb)=i by lia,e] at this;exact this
 refine aD (fun e=>DX (h _ ⟨hB.perm,hB.kind,hB.failed⟩ rfl ?_ fun _ _=>rfl)) fun e=>?_
 ·have e':k2=0:=by simpa using e
  exact whole q1 fun i x h1 h2 ex=>(s1 i (sb-1) x p h1 (by lia) (by lia) ex p1').trans (hi2 sb q (by lia) (by lia) q1)
 have k21:1<=k2:=by
  have:¬k2=0:=fun z=>e (by show((k2:Nat)==0)=true;rw[z];rfl);lia
 have mem:∀{lo hi:Nat}{v:Keyed},v∈((arrOf st).extract lo hi).toList->∃i,lo<=i/\i<hi/\(arrOf st)[i]?=some v:=fun {lo hi v} hv=>by
  obtain⟨i,hi'',e⟩:=Cq.mp hv;have e1:((arrOf st).extract lo hi).toList[i]?=some v:=by rw[<- e];exact Bf _
  rw[cF,BJ,Bq] at hi'';rw[cF,BW,BZ (by lia),Bw] at e1;exact⟨lo+i,by lia,by lia,e1⟩
 have kx:∀{lo hi:Nat},∀v∈((arrOf st).extract lo hi).toList,Has κ v:=fun {lo hi} v hv=>by
  obtain⟨i,_,_,e⟩:=mem hv;exact kk v (Bp (by rw[Bw];exact e))
 have zx:((arrOf st).extract (sa+k) sb).size=na-k:=by rw[DJ];lia
 have zy:((arrOf st).extract sb (sb+k2)).size=k2:=by rw[DJ];lia
 have sx:((arrOf st).extract (sa+k) sb).toList.Pairwise (kl κ):=Seg.list (fun i j p q a1 a2 a3=>s1 i j p q (by lia) a2 (by lia)) (by lia);have sy:((arrOf st).extract sb (sb+k2)).toList.Pairwise (kl κ):=Seg.list (fun i j p q a1 a2 a3=>s2 i j p q a1 a2 (by lia)) (by lia);have hx0:∀y∈((arrOf st).extract (sa+k) sb).toList,∀p,((arrOf st).extract sb (sb+k2))[0]?=some p->kl κ p y:=fun y hy p' e=>by
  rw[<- Bw,cF,BW,BZ (by lia),Bw,Cd,q1] at e;cases e;obtain⟨i,a1,a2,a3⟩:=mem hy;exact hi' i y a1 a2 a3
 have hyl:∀x∈((arrOf st).extract sb (sb+k2)).toList,∀p,((arrOf st).extract (sa+k) sb)[((arrOf st).extract (sa+k) sb).size-1]?=some p->kl κ x p:=fun x hx p' e=>by
  rw[zx,<- Bw,cF,BW,BZ (by lia),Bw,show sa+k+(na-k-1)=sb-1 by lia,p1'] at e;cases e;obtain⟨i,a1,a2,a3⟩:=mem hx;exact lo2 i x a1 a2 a3
 have tail:∀(r:Array Keyed)(st2:SortSt),kindOf st2=oneType'->arrOf st2=arrOf st->pendingOf st2=((pendingOf st).setIfInBounds i (sa,na+nb,pw)).eraseIdxIfInBounds (i+1)->failedOf st2=none->Fin κ ((arrOf st).extract (sa+k) sb).toList ((arrOf st).extract sb (sb+k2)).toList r.toList->Q true (setArr st2 (wr (sa+k) (r.toList.zipIdx 0) (arrOf st2))):=fun r st2 c1 c2 c3 c4 f=>by
  have lr:r.toList.length=(na-k)+k2:=by
   have:=f.1.length_eq;rw[Ba,Bu (xs:=(arrOf st).extract (sa+k) sb),Bu (xs:=(arrOf st).extract sb (sb+k2)),zx,zy] at this;exact this
  have wl:=rF (sa+k) r.toList (arrOf st) (by lia);have wg:∀t,(wr (sa+k) (r.toList.zipIdx 0) (arrOf st))[t]?=if sa+k<=t/\t<sb+k2 then r.toList[t-(sa+k)]? else (arrOf st)[t]?:=fun t=>by
   rw[nJ (sa+k) r.toList 0 (arrOf st) t (by lia),Cd,show sa+k+r.toList.length=sb+k2 by lia]
  have rmem:∀v∈r.toList,(∃i,sa+k<=i/\i<sb/\(arrOf st)[i]?=some v)\/∃i,sb<=i/\i<sb+k2/\(arrOf st)[i]?=some v:=fun v hv=>by
   rcases Bb.mp (f.1.mem_iff.mp hv) with h1|h1
   ·exact .inl (mem h1)
   ·exact .inr (mem h1)
  have up:∀v∈r.toList,∀i u,sa<=i->i<sa+k->(arrOf st)[i]?=some u->kl κ u v:=fun v hv i u a1 a2 a3=>by
   rcases rmem v hv with ⟨t,b1,b2,b3⟩|⟨t,b1,b2,b3⟩
   ·exact s1 i t u v a1 (by lia) (by lia) a3 b3
   ·exact(lo i u a1 a2 a3).trans (s2 sb t q v (AW _) b1 (by lia) q1 b3)
  have dn:∀v∈r.toList,∀i u,sb+k2<=i->i<sb+nb->(arrOf st)[i]?=some u->kl κ v u:=fun v hv i u a1 a2 a3=>by
   rcases rmem v hv with ⟨t,b1,b2,b3⟩|⟨t,b1,b2,b3⟩
   ·exact(s1 t (sb-1) v p (by lia) (by lia) (by lia) b3 p1').trans (hi2 i u a1 a2 a3)
   ·exact s2 t i v u b1 (by lia) a2 b3 a3
  rw[c2];refine h _ ⟨?_,c1,c4⟩ c3 ?_ fun t ht=>?_
  ·refine Array.Perm.trans ?_ hB.perm;show(wr (sa+k) (r.toList.zipIdx 0) (arrOf st)).Perm (arrOf st);refine DI.mpr ?_;rw[wl];have eo:(arrOf st).toList=(arrOf st).toList.take (sa+k)++(((arrOf st).extract (sa+k) sb).toList++((arrOf st).extract sb (sb+k2)).toList)++(arrOf st).toList.drop (sa+k+r.toList.length):=by
    rw[cF,cF,show sa+k+r.toList.length=sb+k2 by lia];have a1:(arrOf st).toList.take (sa+k)++((arrOf st).toList.take sb).drop (sa+k)=(arrOf st).toList.take sb:=by
     have:=BK (sa+k) ((arrOf st).toList.take sb)
     rwa [CY,BS (by lia)] at this
    have a2:(arrOf st).toList.take sb++((arrOf st).toList.take (sb+k2)).drop sb=(arrOf st).toList.take (sb+k2):=by
     have:=BK sb ((arrOf st).toList.take (sb+k2))
     rwa [CY,BS (by lia)] at this
    rw[<- BC,a1,a2,BK]
   conv=>rhs;rw[eo]
   exact((f.1.append_left _).append_right _)
  ·intro i' j' u v a1 a2 a3 a4 a5;have a4':(wr (sa+k) (r.toList.zipIdx 0) (arrOf st))[i']?=some u:=a4;have a5':(wr (sa+k) (r.toList.zipIdx 0) (arrOf st))[j']?=some v:=a5;rw[wg] at a4' a5';by_cases d1:sa+k<=i'/\i'<sb+k2
   ·rw[DZ d1] at a4';by_cases d2:sa+k<=j'/\j'<sb+k2
    ·rw[DZ d2] at a5';obtain⟨w1,w2⟩:=Be.mp a4';obtain⟨w3,w4⟩:=Be.mp a5';rw[<- w2,<- w4];by_cases ee:i'=j'
     ·subst ee;exact Em _
     ·exact CG.mp f.2 _ _ w1 w3 (by lia)
    ·rw[DY d2] at a5';exact dn u (Bp a4') j' v (by lia) (by lia) a5'
   ·rw[DY d1] at a4';by_cases d2:sa+k<=j'/\j'<sb+k2
    ·rw[DZ d2] at a5';exact up v (Bp a5') i' u a1 (by lia) a4'
    ·rw[DY d2] at a5';by_cases d3:j'<sa+k
     ·exact s1 i' j' u v a1 a2 (by lia) a4' a5'
     ·by_cases d4:i'<sa+k
      ·exact(lo i' u a1 d4 a4').trans (s2 sb j' q v (AW _) (by lia) (by lia) q1 a5')
      ·exact s2 i' j' u v (by lia) a2 (by lia) a4' a5'
  ·show(wr (sa+k) (r.toList.zipIdx 0) (arrOf st))[t]?=_;rw[wg,DY (by lia)]
 have fin:∀(r:Array Keyed)(st2:SortSt),Fi (setPending st (((pendingOf st).setIfInBounds i (sa,na+nb,pw)).eraseIdxIfInBounds (i+1))) st2->Fin κ ((arrOf st).extract (sa+k) sb).toList ((arrOf st).extract sb (sb+k2)).toList r.toList->kindOf st2=oneType'/\arrOf st2=arrOf st/\pendingOf st2=((pendingOf st).setIfInBounds i (sa,na+nb,pw)).eraseIdxIfInBounds (i+1)/\failedOf st2=none:=fun r st2 g f=>⟨g.kind.trans hB.kind,g.arr,g.pend,g.fail.trans hB.failed⟩
 refine aD (fun _=>?_) fun _=>?_
 ·refine DW (jl hO hB.kind kx kx sx sy (show 1<=((arrOf st).extract (sa+k) sb).size by rw[zx];exact k1) (show 1<=((arrOf st).extract sb (sb+k2)).size by rw[zy];exact k21) hx0 hyl fun r st2 g f=>?_);obtain⟨c1,c2,c3,c4⟩:=fin r st2 g f;refine DW (wpS_modify (DW (wpS_get (DX ?_))));have:=tail r st2 c1 c2 c3 c4 f;show Q (failedOf st2).isNone _;rw[c4];exact this
 ·refine DW (iU hO hB.kind kx kx sx sy (show 1<=((arrOf st).extract (sa+k) sb).size by rw[zx];exact k1) (show 1<=((arrOf st).extract sb (sb+k2)).size by rw[zy];exact k21) hx0 hyl fun r st2 g f=>?_);obtain⟨c1,c2,c3,c4⟩:=fin r st2 g f;refine DW (wpS_modify (DW (wpS_get (DX ?_))));have:=tail r st2 c1 c2 c3 c4 f;show Q (failedOf st2).isNone _;rw[c4];exact this
end
structure Frm(κ:KeyKind)(a₀:Array Keyed)(st0:SortSt)(lo hi:Nat)(st:SortSt):Prop where
 sb:SB κ a₀ st
 pend:pendingOf st=pendingOf st0
 out:∀k,k<lo\/hi<=k->(arrOf st)[k]?=(arrOf st0)[k]?
section
variable {κ:KeyKind}{a₀:Array Keyed}{st0 st:SortSt}{lo hi:Nat}
theorem Frm.refl(h:SB κ a₀ st):Frm κ a₀ st lo hi st:=⟨h,rfl,fun _ _=>rfl⟩
theorem Frm.put(h:Frm κ a₀ st0 lo hi st){xs:Array Keyed}(p:xs.Perm (arrOf st))(o:∀k,k<lo\/hi<=k->xs[k]?=(arrOf st)[k]?):Frm κ a₀ st0 lo hi (setArr st xs):=⟨⟨p.trans h.sb.perm,h.sb.kind,h.sb.failed⟩,h.pend,fun k hk=>(o k hk).trans (h.out k hk)⟩
theorem Frm.mirror(h:Frm κ a₀ st0 lo hi st){i j:Nat}(h1:lo<=i)(h2:j<=hi)(h3:hi<=a₀.size):Frm κ a₀ st0 lo hi (setArr st (mirror (arrOf st) i j ((j-i)/2))):=h.put (mirror_perm _ _ _ _) fun k hk=>by
 rw[getElem?_mirror_all (by rw[h.sb.size];lia),DY (by lia)]
theorem Frm.bubble(h:Frm κ a₀ st0 lo hi st){src d:Nat}(h1:lo<=src-d)(h2:src<hi)(h3:hi<=a₀.size)(h4:d<=src):Frm κ a₀ st0 lo hi (setArr st (bubble (arrOf st) src d)):=h.put (bubble_perm _ _ _) fun k hk=>by
 rw[getElem?_bubble (by rw[h.sb.size];lia) d h4,DY (by lia),DY (by lia)]
end
def Up (κ:KeyKind)(xs:Array Keyed)(lo n:Nat):Prop:=∀i j,i<=j->j<n->κ.kle (KK κ xs (lo+i)) (KK κ xs (lo+j))
def Dn (κ:KeyKind)(xs:Array Keyed)(lo n:Nat):Prop:=∀i j,i<=j->j<n->κ.kle (KK κ xs (lo+j)) (KK κ xs (lo+i))
theorem Up.seg{κ:KeyKind}{xs:Array Keyed}{lo n:Nat}(h:Up κ xs lo n):Seg κ xs lo (lo+n):=fun i j p q h1 h2 h3 e1 e2=>by
 have:=h (i-lo) (j-lo) (by lia) (by lia);rw[show lo+(i-lo)=i by lia,show lo+(j-lo)=j by lia] at this;unfold KK at this;rw[e1,e2] at this;exact this
theorem Up.more{κ:KeyKind}{xs:Array Keyed}{lo n:Nat}(h:Up κ xs lo n)(h1:1<=n)(hl:κ.kle (KK κ xs (lo+n-1)) (KK κ xs (lo+n))):Up κ xs lo (n+1):=fun i j hij hj=>by
 by_cases c:j<n
 ·exact h i j hij c
 ·have e:j=n:=by lia
  subst e;by_cases d:i=j
  ·subst d;exact Em _
  ·refine KeyOrd.kle_trans (h i (j-1) (by lia) (by lia)) ?_;rw[show lo+(j-1)=lo+j-1 by lia];exact hl
theorem Dn.more{κ:KeyKind}{xs:Array Keyed}{lo n:Nat}(h:Dn κ xs lo n)(h1:1<=n)(hl:κ.kle (KK κ xs (lo+n)) (KK κ xs (lo+n-1))):Dn κ xs lo (n+1):=fun i j hij hj=>by
 by_cases c:j<n
 ·exact h i j hij c
 ·have e:j=n:=by lia
  subst e;by_cases d:i=j
  ·subst d;exact Em _
  ·refine KeyOrd.kle_trans ?_ (h i (j-1) (by lia) (by lia));rw[show lo+(j-1)=lo+j-1 by lia];exact hl
section
variable {prog:Program}{w:World}{A:Around}{E:Value->Shared->Prop}{s:Shared}{κ:KeyKind}{st:SortSt}{a₀:Array Keyed}
theorem dZ{i j:Nat}{Q:Option Bool->SortSt->Prop}(hO:κ.OneLt)(hB:SB κ a₀ st)(h0:KeysOf κ a₀)(hi:i<a₀.size)(hj:j<a₀.size)(h:Q (some (κ.blt (KK κ (arrOf st) i) (KK κ (arrOf st) j))) st):wpS (model prog w) A E s (ltAt' i j) Q st:=by
 obtain⟨⟨x,p⟩,e1,a,ha⟩:=hB.at h0 hi;obtain⟨⟨y,q⟩,e2,b,hb⟩:=hB.at h0 hj;have ka:KK κ (arrOf st) i=a:=by unfold KK;rw[e1];simp[ha]
 have kb:KK κ (arrOf st) j=b:=by unfold KK;rw[e2];simp[hb]
 rw[ka,kb] at h;exact wpS_ltAtK hO hB.kind e1 e2 ha hb h
theorem fP{i j:Nat}{Q:Unit->SortSt->Prop}(h:∀st',st'=setArr st (mirror (arrOf st) i j ((j-i)/2))->Q () st'):wpS (model prog w) A E s (reverseSlice' i j) Q st:=by
 rw[reverseSlice'_eq];exact wpS_modify (h _ rfl)
def Ks:Nat->Nat->StateT SortSt Sem (Option Nat):=sortPriv% PySem.Builtin.countRun
def JT:Nat->Nat->Nat->StateT SortSt Sem Bool:=sortPriv% PySem.Builtin.binarySort
theorem kD{lo nrem:Nat}{Q:Option Nat->SortSt->Prop}(hO:κ.OneLt)(h0:KeysOf κ a₀)(hn:lo+nrem<=a₀.size)(h1:1<=nrem)(hB:SB κ a₀ st)
  (h:∀m st',Frm κ a₀ st lo (lo+nrem) st'->1<=m->m<=nrem->Up κ (arrOf st') lo m->Q (some m) st'):wpS (model prog w) A E s (Ks lo nrem) Q st:=by
 have fin:∀st1,Frm κ a₀ st lo (lo+nrem) st1->∀n,1<=n->n<=nrem->Dn κ (arrOf st1) lo n->Up κ (arrOf (setArr st1 (mirror (arrOf st1) lo (lo+n) ((lo+n-lo)/2)))) lo n:=fun st1 F n n1 n2 hd i j hij hj=>by
  have hz:lo+n<=(arrOf st1).size:=by rw[F.sb.size];lia
  show κ.kle (KK κ (mirror (arrOf st1) lo (lo+n) ((lo+n-lo)/2)) (lo+i)) (KK κ (mirror (arrOf st1) lo (lo+n) ((lo+n-lo)/2)) (lo+j));rw[KK_mirror hz,KK_mirror hz,DZ (by lia),DZ (by lia)];have:=hd (n-1-j) (n-1-i) (by lia) (by lia);rw[show lo+(n-1-j)=lo+(lo+n)-1-(lo+j) by lia,show lo+(n-1-i)=lo+(lo+n)-1-(lo+i) by lia] at this;exact this
 have init:Up κ (arrOf st) lo 1:=fun i j hij hj=>by
  have:i=j:=by lia
  subst this;exact Em _
 refine DW (wpS_mono (wpS_forRange (I:=fun x c st'=>st'=st/\c=(none,x)/\Up κ (arrOf st) lo x) (Q:=fun c st'=>st'=st/\∃n,c=(none,n)/\1<=n/\n<=nrem/\Up κ (arrOf st) lo n/\(n=nrem\/κ.klt (KK κ (arrOf st) (lo+n)) (KK κ (arrOf st) (lo+n-1)))) ?step ?fin ⟨rfl,rfl,init⟩) ?post)
 case fin=>
  rintro c st' ⟨rfl,rfl,u⟩;rw[show max 1 nrem=nrem by lia] at u ⊢;exact⟨rfl,nrem,rfl,h1,AW _,u,.inl rfl⟩
 case step=>
  rintro x c st' hx1 hx2 ⟨rfl,rfl,u⟩;refine DW (dZ (i:=lo+x) (j:=lo+x-1) hO hB h0 (by lia) (by lia) ?_);cases hl:κ.blt (KK κ (arrOf st') (lo+x)) (KK κ (arrOf st') (lo+x-1)) with
  |true=>
   exact DX ⟨rfl,x,rfl,hx1,by lia,u,.inr hl⟩
  |false=>
   exact DX ⟨rfl,rfl,u.more hx1 hl⟩
 case post=>
  rintro c st' ⟨rfl,n,rfl,n1,n2,u,hor⟩;refine aD (fun e=>DX (h n st' (.refl hB) n1 n2 u)) fun e=>?_;have hne:n≠nrem:=fun z=>e (by show((n:Nat)==nrem)=true;rw[z];exact beq_self_eq_true _);have hlt:κ.klt (KK κ (arrOf st') (lo+n)) (KK κ (arrOf st') (lo+n-1)):=hor.resolve_left hne;apply aD
  case' h1=>
   intro hgt;have hgt':n>1:=hgt;refine DW (dZ (i:=lo) (j:=lo+n-1) hO hB h0 (by lia) (by lia) ?_);cases hrose:κ.blt (KK κ (arrOf st') lo) (KK κ (arrOf st') (lo+n-1))
   case true=>exact DX (h n st' (.refl hB) n1 n2 u)
   have hall:∀k,lo<=k->k<lo+n->KK κ (arrOf st') k=KK κ (arrOf st') (lo+n-1):=fun k k1 k2=>by
    have a1:=u 0 (k-lo) (by lia) (by lia);have a2:=u (k-lo) (n-1) (by lia) (by lia);rw[show lo+(k-lo)=k by lia] at a1 a2;rw[show lo+(n-1)=lo+n-1 by lia] at a2;exact KeyOrd.kle_antisymm a2 (KeyOrd.kle_trans hrose a1)
   refine DW (fP (i:=lo) (j:=lo+n) fun st1 hst=>?_);have hz:lo+n<=(arrOf st').size:=by rw[hB.size];lia
   have F1:Frm κ a₀ st' lo (lo+nrem) st1:=by rw[hst];exact(Frm.refl hB).mirror (AW _) (by lia) hn
   have D1:Dn κ (arrOf st1) lo (n+1):=by
    rw[hst];have e0:∀k,KK κ (arrOf (setArr st' (mirror (arrOf st') lo (lo+n) ((lo+n-lo)/2)))) k=KK κ (arrOf st') k:=KK_mirror_equal hz hall;have d0:Dn κ (arrOf (setArr st' (mirror (arrOf st') lo (lo+n) ((lo+n-lo)/2)))) lo n:=fun i j hij hj=>by
     rw[e0,e0,hall (lo+i) (by lia) (by lia),hall (lo+j) (by lia) (by lia)];exact Em _
    refine d0.more n1 ?_;rw[e0,e0];exact En hlt
  case' h2=>
   intro hgt;have hn1:n=1:=by
    have:¬n>1:=hgt;lia
   obtain⟨st1,e1⟩:∃st1,st1=st':=⟨_,rfl⟩
   have F1:Frm κ a₀ st' lo (lo+nrem) st1:=by rw[e1];exact .refl hB
   have D1:Dn κ (arrOf st1) lo (n+1):=by
    rw[e1];have d0:Dn κ (arrOf st') lo n:=fun i j hij hj=>by
     have:i=j:=by lia
     subst this;exact Em _
    exact d0.more n1 (En hlt)
   rw[<- e1]
  all_goals (
   clear hlt hor u;refine DW (wpS_lift (EB ⟨rfl,?_⟩))
   refine DW (wpS_mono (wpS_forRange (I:=fun x c st2=>∃neq,c=(none,x,neq)/\Frm κ a₀ st' lo (lo+nrem) st2/\Dn κ (arrOf st2) lo x/\neq+1<=x/\∀k,lo+x - (neq+1)<=k->k < lo+x->KK κ (arrOf st2) k=KK κ (arrOf st2) (lo+x - 1))
    (Q:=fun c st2=>∃m neq,c=(none,m,neq)/\Frm κ a₀ st' lo (lo+nrem) st2/\n+1<=m/\m<=nrem/\Dn κ (arrOf st2) lo m/\neq+1<=m/\∀k,lo+m - (neq+1)<=k->k < lo+m->KK κ (arrOf st2) k=KK κ (arrOf st2) (lo+m - 1)) (fun x c st2 hx1 hx2 z=>?_) (fun c st2 z=>?_) ⟨0,rfl,F1,D1,by lia,fun k k1 k2=>by congr 1; lia⟩) fun c st2 z=>?_)
   ·obtain⟨neq,rfl,F2,D2,q1,q2⟩:=z;have hz:lo+x<=(arrOf st2).size:=by rw[F2.sb.size];lia
    refine DW (dZ (i:=lo+x) (j:=lo+x-1) hO F2.sb h0 (by lia) (by lia) ?_);cases hl:κ.blt (KK κ (arrOf st2) (lo+x)) (KK κ (arrOf st2) (lo+x-1)) with
    |true=>
     refine aD (fun _=>aD (fun hq=>?_) fun hq=>?_) fun z=>absurd rfl z
     ·refine DW (fP (i:=lo+x-(neq+1)) (j:=lo+x) fun st3 hst=>DX ?_);have e0:∀k,KK κ (arrOf st3) k=KK κ (arrOf st2) k:=by rw[hst];exact KK_mirror_equal hz q2
      have d0:Dn κ (arrOf st3) lo x:=fun i j hij hj=>by rw[e0,e0];exact D2 i j hij hj
      exact⟨0,rfl,by rw[hst];exact F2.mirror (by lia) (by lia) hn,d0.more (by lia) (by rw[e0,e0];exact En hl),by lia,fun k k1 k2=>by congr 1;lia⟩
     ·exact DX ⟨0,rfl,F2,D2.more (by lia) (En hl),by lia,fun k k1 k2=>by congr 1;lia⟩
    |false=>
     refine DW (dZ (i:=lo+x-1) (j:=lo+x) hO F2.sb h0 (by lia) (by lia) ?_);cases hg:κ.blt (KK κ (arrOf st2) (lo+x-1)) (KK κ (arrOf st2) (lo+x)) with
     |true=>exact DX ⟨x,neq,rfl,F2,hx1,by lia,D2,q1,q2⟩
     |false=>
      have heq:KK κ (arrOf st2) (lo+x)=KK κ (arrOf st2) (lo+x-1):=KeyOrd.kle_antisymm hg hl;refine DX ⟨neq+1,rfl,F2,D2.more (by lia) (by rw[heq];exact Em _),by lia,fun k k1 k2=>?_⟩;rw[show lo+(x+1)-1=lo+x by lia];by_cases c:k=lo+x
      ·rw[c]
      ·rw[heq];exact q2 k (by lia) (by lia)
   ·obtain⟨neq,rfl,F2,D2,q1,q2⟩:=z;rw[show max (n+1) nrem=nrem by lia] at D2 q1 q2 ⊢;exact⟨nrem,neq,rfl,F2,by lia,AW _,D2,q1,q2⟩
   ·obtain⟨m,neq,rfl,F2,m1,m2,D2,q1,q2⟩:=z;have hz:lo+m<=(arrOf st2).size:=by rw[F2.sb.size];lia
    apply aD
    case' h1=>
     intro hq;refine DW (fP (i:=lo+m-(neq+1)) (j:=lo+m) fun st3 hst=>?_);have e0:∀k,KK κ (arrOf st3) k=KK κ (arrOf st2) k:=by rw[hst];exact KK_mirror_equal hz q2
     have D3:Dn κ (arrOf st3) lo m:=fun i j hij hj=>by rw[e0,e0];exact D2 i j hij hj
     have F3:Frm κ a₀ st' lo (lo+nrem) st3:=by rw[hst];exact F2.mirror (by lia) (by lia) hn
     clear hst e0
    case' h2=>
     intro hq;obtain⟨st3,e3⟩:∃st3,st3=st2:=⟨_,rfl⟩
     have D3:Dn κ (arrOf st3) lo m:=by rw[e3];exact D2
     have F3:Frm κ a₀ st' lo (lo+nrem) st3:=by rw[e3];exact F2
     rw[<- e3];clear e3
    all_goals (
     refine DW (fP (i:=lo) (j:=lo+m) fun st4 hst=>?_);have U4:Up κ (arrOf st4) lo m:=by rw[hst];exact fin st3 F3 m (by lia) m2 D3
     have F4:Frm κ a₀ st' lo (lo+nrem) st4:=by rw[hst];exact F3.mirror (AW _) (by lia) hn
     refine DW (wpS_mono (wpS_forRange (I:=fun x c st5=>st5=st4/\c=(none,x)/\Up κ (arrOf st4) lo x) (Q:=fun c st5=>st5=st4/\∃n,c=(none,n)/\1<=n/\n<=nrem/\Up κ (arrOf st4) lo n) (fun x c st5 hx1 hx2 z=>?_) (fun c st5 z=>?_) ⟨rfl,rfl,U4⟩) fun c st5 z=>?_)
     ·obtain⟨rfl,rfl,u⟩:=z;have hx1':m<=x:=hx1;have hx2':x<nrem:=hx2;refine DW (dZ (i:=lo+x) (j:=lo+x-1) hO F4.sb h0 (by lia) (by lia) ?_);cases hl:κ.blt (KK κ (arrOf st5) (lo+x)) (KK κ (arrOf st5) (lo+x-1)) with
      |true=>exact DX ⟨rfl,x,rfl,by lia,by lia,u⟩
      |false=>exact DX ⟨rfl,rfl,u.more (by lia) hl⟩
     ·obtain⟨rfl,rfl,u⟩:=z;rw[show max m nrem=nrem by lia] at u ⊢;exact⟨rfl,nrem,rfl,h1,AW _,u⟩
     ·obtain⟨rfl,n',rfl,b1,b2,u⟩:=z
      exact DX (h n' st5 F4 b1 b2 u)))
theorem jE{lo n ok:Nat}{Q:Bool->SortSt->Prop}(hO:κ.OneLt)(h0:KeysOf κ a₀)(hn:lo+n<=a₀.size)(hok:ok<=n)(hB:SB κ a₀ st)(hs:Up κ (arrOf st) lo ok)
  (h:∀st',Frm κ a₀ st lo (lo+n) st'->Up κ (arrOf st') lo n->Q true st'):wpS (model prog w) A E s (JT lo n ok) Q st:=by
 refine DW (wpS_mono (wpS_forRange (I:=fun k c st'=>c=(none,())/\Frm κ a₀ st lo (lo+n) st'/\Up κ (arrOf st') lo (min k n)) (Q:=fun c st'=>c=(none,())/\Frm κ a₀ st lo (lo+n) st'/\Up κ (arrOf st') lo n) (fun k c st1 hk1 hk2 z=>?_) (fun c st' z=>?_) ⟨rfl,.refl hB,?_⟩) fun c st' z=>?_)
 rotate_left
 ·obtain⟨hc,F,u⟩:=z;rw[show min (max (max ok 1) n) n=n by lia] at u;exact⟨hc,F,u⟩
 ·intro i j hij hj;by_cases c:ok=0
  ·have:i=j:=by lia
   subst this;exact Em _
  ·exact hs i j hij (by lia)
 ·obtain⟨rfl,F,u⟩:=z;exact DX (h st' F u)
 obtain⟨rfl,F1,u⟩:=z;rw[show min k n=k by lia] at u;have hk:lo+k<a₀.size:=by lia
 refine DW (wpS_mono (wpS_forRange (I:=fun x c st2=>st2=st1/\∃l r,c=(none,l,r)/\l<=r/\r<=k/\r - l<=k - x/\(∀i,i < l->κ.kle (KK κ (arrOf st1) (lo+i)) (KK κ (arrOf st1) (lo+k)))/\(∀i,r<=i->i < k->κ.klt (KK κ (arrOf st1) (lo+k)) (KK κ (arrOf st1) (lo+i))))
  (Q:=fun c st2=>st2=st1/\∃l r,c=(none,l,r)/\l<=k/\(∀i,i < l->κ.kle (KK κ (arrOf st1) (lo+i)) (KK κ (arrOf st1) (lo+k)))/\(∀i,l<=i->i < k->κ.klt (KK κ (arrOf st1) (lo+k)) (KK κ (arrOf st1) (lo+i)))) (fun x c st2 hx1 hx2 z=>?_) (fun c st2 z=>?_) ⟨rfl,0,k,rfl,Bo _,AW _,by lia,fun i hi=>by lia,fun i h1 h2=>by lia⟩) fun c st2 z=>?_)
 ·obtain⟨rfl,l,r,rfl,b1,b2,b3,b4,b5⟩:=z;refine aD (fun hge=>?_) fun hge=>?_
  ·have hge':l≥r:=hge;have:l=r:=by lia
   subst this;exact DX ⟨rfl,l,l,rfl,b2,b4,b5⟩
  have hge':¬l≥r:=hge;refine DW (dZ (i:=lo+k) (j:=lo+(l+r)/2) hO F1.sb h0 hk (by lia) ?_);cases hl:κ.blt (KK κ (arrOf st2) (lo+k)) (KK κ (arrOf st2) (lo+(l+r)/2)) with
  |true=>exact DX ⟨rfl,l,(l+r)/2,rfl,by lia,by lia,by lia,b4,fun i h1 h2=>KeyOrd.klt_of_klt_of_kle hl (u _ _ h1 h2)⟩
  |false=>exact DX ⟨rfl,(l+r)/2+1,r,rfl,by lia,by lia,by lia,fun i h1=>KeyOrd.kle_trans (u i ((l+r)/2) (by lia) (by lia)) hl,b5⟩
 ·obtain⟨rfl,l,r,rfl,b1,b2,b3,b4,b5⟩:=z;have b3':r-l<=k-max 0 k:=b3;have:l=r:=by lia
  subst this;exact⟨rfl,l,l,rfl,b2,b4,b5⟩
 ·obtain⟨rfl,l,r,rfl,b1,b4,b5⟩:=z;have hz:lo+k<(arrOf st2).size:=by rw[F1.sb.size];exact hk
  refine DW (wpS_modify (DX ⟨rfl,F1.bubble (src:=lo+k) (d:=lo+k-(lo+l)) (by lia) (by lia) hn (by lia),?_⟩));rw[show min (k+1) n=k+1 by lia];intro i j hij hj;show κ.kle (KK κ (bubble (arrOf st2) (lo+k) (lo+k-(lo+l))) (lo+i)) (KK κ (bubble (arrOf st2) (lo+k) (lo+k-(lo+l))) (lo+j));rw[KK_bubble hz (by lia),KK_bubble hz (by lia),show lo+k-(lo+k-(lo+l))=lo+l by lia];by_cases c1:lo+j=lo+l
  ·rw[DZ c1];by_cases c2:lo+i=lo+l
   ·rw[DZ c2];exact Em _
   ·rw[DY c2,DY (by lia)];exact b4 i (by lia)
  ·rw[DY c1];by_cases c3:lo+l<lo+j/\lo+j<=lo+k
   ·rw[DZ c3,show lo+j-1=lo+(j-1) by lia];by_cases c2:lo+i=lo+l
    ·rw[DZ c2];exact En (b5 _ (by lia) (by lia))
    ·rw[DY c2];by_cases c4:lo+l<lo+i/\lo+i<=lo+k
     ·rw[DZ c4,show lo+i-1=lo+(i-1) by lia];exact u _ _ (by lia) (by lia)
     ·rw[DY c4];exact u _ _ (by lia) (by lia)
   ·rw[DY c3,DY (by lia),DY (by lia)];exact u _ _ (by lia) (by lia)
end
abbrev Rn:=Nat×Nat×Nat
def Chain(κ:KeyKind)(xs:Array Keyed):List Rn->Nat->Nat->Prop
 |[],s,e=>s=e
 |t::r,s,e=>t.1=s/\1<=t.2.1/\Seg κ xs s (s+t.2.1)/\Chain κ xs r (s+t.2.1) e
section
variable {κ:KeyKind}{xs ys:Array Keyed}
theorem Chain.app:∀{L M:List Rn}{s e:Nat},Chain κ xs (L++M) s e↔∃m,Chain κ xs L s m/\Chain κ xs M m e
 |[],M,s,e=>⟨fun h=>⟨s,rfl,h⟩,fun⟨m,h1,h2⟩=>by cases h1;exact h2⟩
 |t::r,M,s,e=>by
  constructor
  ·rintro⟨h1,h2,h3,h4⟩;obtain⟨m,a,b⟩:=Chain.app.mp h4;exact⟨m,⟨h1,h2,h3,a⟩,b⟩
  ·rintro⟨m,⟨h1,h2,h3,a⟩,b⟩;exact⟨h1,h2,h3,Chain.app.mpr ⟨m,a,b⟩⟩
theorem Chain.len:∀{L:List Rn}{s e:Nat},Chain κ xs L s e->s+L.length<=e
 |[],s,e,h=>by cases h;exact AW _
 |t::r,s,e,⟨_,h2,_,h4⟩=>by
  have:=h4.len;rw[BA];lia
theorem Chain.keep:∀{L:List Rn}{s e:Nat},Chain κ xs L s e->(∀k,s<=k->k<e->ys[k]?=xs[k]?)->Chain κ ys L s e
 |[],s,e,h,_=>h
 |t::r,s,e,⟨h1,h2,h3,h4⟩,hk=>by
  have:=h4.len;exact⟨h1,h2,fun i j p q a1 a2 a3 e1 e2=>h3 i j p q a1 a2 a3 (by rw[<- hk i (by lia) (by lia)];exact e1) (by rw[<- hk j (by lia) (by lia)];exact e2),h4.keep fun k a b=>hk k (by lia) b⟩
theorem Chain.pow(pw:Nat):∀{L:List Rn}{s e:Nat}(i:Nat),Chain κ xs L s e->Chain κ xs (L.modify i fun t=>(t.1,t.2.1,pw)) s e
 |[],s,e,i,h=>by cases i<;>exact h
 |t::r,s,e,0,⟨h1,h2,h3,h4⟩=>⟨h1,h2,h3,h4⟩
 |t::r,s,e,i+1,⟨h1,h2,h3,h4⟩=>⟨h1,h2,h3,h4.pow pw i⟩
theorem mY{L:List Rn}{i:Nat}(h:i+1<L.length):∃L1 x y L2,L=L1++x::y::L2/\L1.length=i:=by
 refine⟨L.take i,L[i],L[i+1],L.drop (i+2),?_,by rw[Bq];lia⟩
 conv=>lhs;rw[<- BK i L]
 rw[CF (show i<L.length by lia),CF h]
end
structure RR(κ:KeyKind)(a₀:Array Keyed)(lo:Nat)(st:SortSt):Prop where
 sb:SB κ a₀ st
 ch:Chain κ (arrOf st) (pendingOf st).toList 0 lo
section
variable {prog:Program}{w:World}{A:Around}{E:Value->Shared->Prop}{s:Shared}{κ:KeyKind}{st:SortSt}{a₀:Array Keyed}
theorem fA{i lo:Nat}{Q:Bool->SortSt->Prop}(hO:κ.OneLt)(h0:KeysOf κ a₀)(R:RR κ a₀ lo st)(hi:i+1<(pendingOf st).size)(hl:lo<=a₀.size)
  (h:∀st',RR κ a₀ lo st'->(pendingOf st').size+1=(pendingOf st).size->(∀k,lo<=k->(arrOf st')[k]?=(arrOf st)[k]?)->Q true st'):wpS (model prog w) A E s (mergeAt' i) Q st:=by
 obtain⟨L1,x,y,L2,eL,l1⟩:=mY (L:=(pendingOf st).toList) (i:=i) (by rw[Bu];exact hi);obtain⟨sa,na,pw⟩:=x;obtain⟨sb,nb,pw2⟩:=y;have ch:=R.ch;rw[eL] at ch;obtain⟨m,c1,b1,b2,b3,b4,b5,b6,c2⟩:=Chain.app.mp ch;have b1:sa=m:=b1;have b4:sb=m+na:=b4;have b2:1<=na:=b2;have b5:1<=nb:=b5;subst b1;have z1:=c1.len;have z2:=c2.len;have z2:sa+na+nb+L2.length<=lo:=z2;have e1:(pendingOf st)[i]?=some (sa,na,pw):=by rw[<- Bw,eL,BV (by lia),l1,Nat.sub_self];rfl
 have e2:(pendingOf st)[i+1]?=some (sb,nb,pw2):=by rw[<- Bw,eL,BV (by lia),show i+1-L1.length=1 by lia];rfl
 refine iV hO h0 R.sb e1 e2 b4 b2 b5 (by lia) b3 (by rw[b4];exact b6) fun st' B' p' s' o'=>?_;have eP:(pendingOf st').toList=L1++(sa,na+nb,pw)::L2:=by
  rw[p',Array.toList_eraseIdxIfInBounds,Array.toList_setIfInBounds,eL,List.set_append_right _ _ (by lia),List.eraseIdx_append_of_length_le (by lia),show i-L1.length=0 by lia,show i+1-L1.length=1 by lia];rfl
 refine h st' ⟨B',?_⟩ ?_ fun k hk=>o' k (.inr (by lia))
 ·rw[eP];refine Chain.app.mpr ⟨sa,c1.keep fun k _ hk=>o' k (.inl hk),rfl,?_,s',?_⟩
  ·show 1<=na+nb;lia
  ·have:=c2.keep (ys:=arrOf st') fun k hk _=>o' k (.inr (by have:sa+na+nb<=k:=hk;lia));show Chain κ (arrOf st') L2 (sa+(na+nb)) lo;rw[<- Nat.add_assoc];exact this
 ·have h1:=congrArg List.length eP;have h2:=congrArg List.length eL;rw[Bu,Ba,BA] at h1;rw[Bu,Ba,BA,BA] at h2;lia
theorem less{N:Nat}(h:¬N<=1){c:Prop} [Decidable c]:(if c then N-2-1 else N-2)+1<N:=by split<;>lia
theorem iR{Q:Unit->SortSt->Prop}(hO:κ.OneLt)(h0:KeysOf κ a₀)(hB:SB κ a₀ st)(hp:pendingOf st=#[])
  (h:∀st',SB κ a₀ st'->Seg κ (arrOf st') 0 a₀.size->Q () st'):wpS (model prog w) A E s sortRuns' Q st:=by
 refine DW (wpS_get ?_);have hsz:(arrOf st).size=a₀.size:=hB.size;refine DW (wpS_mono (wpS_forRange (I:=fun x c st'=>c.1=none/\RR κ a₀ c.2 st'/\c.2<=a₀.size/\(x<=c.2\/c.2=a₀.size)) (Q:=fun c st'=>c.1=none/\RR κ a₀ a₀.size st') (fun x c st1 hx1 hx2 z=>?_) (fun c st' z=>?_) ⟨rfl,⟨hB,?_⟩,Bo _,.inl (AW _)⟩) fun c st' z=>?_)
 rotate_left
 ·obtain⟨e,R,l1,l2⟩:=z;refine⟨e,?_⟩;have:c.2=a₀.size:=by
   rcases l2 with l2|l2
   ·have l2':max 0 (arrOf st).size<=c.2:=l2;lia
   ·exact l2
  rw[this] at R;exact R
 ·rw[hp];rfl
 ·obtain⟨c0,lo⟩:=c;obtain⟨e,R⟩:=z;cases e;refine DW (wpS_mono (wpS_forRange (I:=fun x c st2=>c=(none,())/\RR κ a₀ a₀.size st2/\((pendingOf st2).size+x<=a₀.size+0\/(pendingOf st2).size<=1)) (Q:=fun c st2=>c=(none,())/\RR κ a₀ a₀.size st2/\(pendingOf st2).size<=1) (fun x c st2 hx1 hx2 z=>?_) (fun c st2 z=>?_) ⟨rfl,R,?_⟩) fun c st2 z=>?_)
  rotate_left
  ·obtain⟨e,R2,l⟩:=z;refine⟨e,R2,?_⟩;have l':(pendingOf st2).size+max 0 (arrOf st).size<=a₀.size+0\/(pendingOf st2).size<=1:=l;lia
  ·have:=R.ch.len;rw[Bu] at this;exact .inl (by lia)
  ·obtain⟨rfl,R2,l⟩:=z;refine DX (h st2 R2.sb ?_);have ch:=R2.ch;have ll:(pendingOf st2).toList.length<=1:=by rw[Bu];exact l
   cases eL:(pendingOf st2).toList with
   |nil=>
    rw[eL] at ch;have ch:0=a₀.size:=ch;intro i j p q a1 a2 a3;lia
   |cons t r=>
    rw[eL,BA] at ll;have hr:r=[]:=Cs.mp (by lia);rw[eL,hr] at ch;obtain⟨_,_,sg,ee⟩:=ch;have ee:0+t.2.1=a₀.size:=ee;rw[ee] at sg;exact sg
  obtain⟨rfl,R2,l⟩:=z;refine DW (wpS_get ?_);refine aD (fun e=>DX ⟨rfl,R2,e⟩) fun e=>?_;have e':¬(pendingOf st2).size<=1:=e;refine DW (fA hO h0 R2 (less e') (AW _) fun st3 R3 l3 _=>?_);exact DX ⟨rfl,R3,by lia⟩
 obtain⟨c0,lo⟩:=c;obtain⟨e,R,l1,l2⟩:=z;cases e;dsimp only at R l1 l2;refine aD (fun e=>DX ⟨rfl,?_⟩) fun e=>?_
 ·have e':lo≥(arrOf st).size:=e;rw[show lo=a₀.size by lia] at R;exact R
 have e':¬lo≥(arrOf st).size:=e;refine DW (kD (lo:=lo) (nrem:=(arrOf st).size-lo) hO h0 (by lia) (by lia) R.sb fun m st2 F2 m1 m2 U2=>?_);apply aD
 case' h1=>
  intro hm;refine DW (wpS_lift (EB ⟨rfl,?_⟩));have hm':m<minRun' (arrOf st).size (arrOf st).size 0:=hm;refine DW (jE (lo:=lo) (n:=min ((arrOf st).size-lo) (minRun' (arrOf st).size (arrOf st).size 0)) (ok:=m) hO h0 (by generalize minRun' (arrOf st).size (arrOf st).size 0=mr;lia) (by generalize minRun' (arrOf st).size (arrOf st).size 0=mr at hm' ⊢;lia) F2.sb U2 fun st3 F3 U3=>?_);have hmm:1<=min ((arrOf st).size-lo) (minRun' (arrOf st).size (arrOf st).size 0)/\lo+min ((arrOf st).size-lo) (minRun' (arrOf st).size (arrOf st).size 0)<=a₀.size:=by
   generalize minRun' (arrOf st).size (arrOf st).size 0=mr at hm' ⊢;lia
  refine aD (fun z=>absurd z (by decide)) fun _=>?_;have R3:RR κ a₀ lo st3:=⟨F3.sb,by rw[F3.pend,F2.pend];exact R.ch.keep fun k _ hk=>(F3.out k (.inl hk)).trans (F2.out k (.inl hk))⟩
  obtain⟨n1,n2⟩:=hmm;have S3:=U3.seg;clear F3 U3;obtain⟨n,hn⟩:∃n,n=min ((arrOf st).size-lo) (minRun' (arrOf st).size (arrOf st).size 0):=⟨_,rfl⟩
  rw[<- hn] at n1 n2 S3
 case' h2=>
  intro hm;obtain⟨st3,e3⟩:∃st3,st3=st2:=⟨_,rfl⟩
  have R3:RR κ a₀ lo st3:=by rw[e3];exact⟨F2.sb,by rw[F2.pend];exact R.ch.keep fun k _ hk=>F2.out k (.inl hk)⟩
  have n1:1<=m:=m1;have n2:lo+m<=a₀.size:=by lia
  have S3:Seg κ (arrOf st3) lo (lo+m):=by rw[e3];exact U2.seg
  rw[<- e3];clear e3;obtain⟨n,hn⟩:∃n,n=m:=⟨_,rfl⟩
  rw[<- hn] at n1 n2 S3
 all_goals (
  have push:∀st4,RR κ a₀ lo st4->Seg κ (arrOf st4) lo (lo+n)->RR κ a₀ (lo+n) (setPending st4 ((pendingOf st4).push (lo,n,0))):=fun st4 R4 S4=>⟨⟨R4.sb.perm,R4.sb.kind,R4.sb.failed⟩,by
   show Chain κ (arrOf st4) ((pendingOf st4).push (lo,n,0)).toList 0 (lo+n);rw[CV]
   exact Chain.app.mpr ⟨lo,R4.ch,rfl,n1,S4,rfl⟩⟩
  refine DW (wpS_get ?_);cases eb:(pendingOf st3).back? with
  |none=>
   subst hn;exact DW (wpS_modify (DX ⟨rfl,push st3 R3 S3,n2,.inl (by lia)⟩))
  |some t=>
   obtain⟨s1,n0,pw0⟩:=t;refine DW (wpS_mono (wpS_forRange (I:=fun y c st4=>c=(none,())/\RR κ a₀ lo st4/\∀k,lo<=k->(arrOf st4)[k]?=(arrOf st3)[k]?) (Q:=fun c st4=>c=(none,())/\RR κ a₀ lo st4/\∀k,lo<=k->(arrOf st4)[k]?=(arrOf st3)[k]?) (fun y c st4 hy1 hy2 z=>?_) (fun c st4 z=>z) ⟨rfl,R3,fun _ _=>rfl⟩) fun c st4 z=>?_)
   ·obtain⟨rfl,R4,o4⟩:=z;refine DW (wpS_get ?_);dsimp only;by_cases hp1:(pendingOf st4).size>1
    ·have e5:(if (pendingOf st4).size>1 then (pendingOf st4)[(pendingOf st4).size-2]? else none)=some ((pendingOf st4)[(pendingOf st4).size-2]'(by lia)):=by rw[DZ hp1];exact BL _
     generalize (pendingOf st4)[(pendingOf st4).size-2]'(by lia)=u at e5;obtain⟨u1,u2,u3⟩:=u;rw[show(if ((sortPriv% PySem.Builtin.SortState.pending) st4).size>1 then ((sortPriv% PySem.Builtin.SortState.pending) st4)[((sortPriv% PySem.Builtin.SortState.pending) st4).size-2]? else none)=some (u1,u2,u3) from e5];refine aD (fun _=>DX ⟨rfl,R4,o4⟩) fun _=>?_;refine DW (fA hO h0 R4 (show(pendingOf st4).size-2+1<(pendingOf st4).size by lia) l1 fun st5 R5 l5 o5=>?_);exact DX ⟨rfl,R5,fun k hk=>(o5 k hk).trans (o4 k hk)⟩
    ·rw[show(if ((sortPriv% PySem.Builtin.SortState.pending) st4).size>1 then ((sortPriv% PySem.Builtin.SortState.pending) st4)[((sortPriv% PySem.Builtin.SortState.pending) st4).size-2]? else none)=none from DY hp1];exact DX ⟨rfl,R4,o4⟩
   ·obtain⟨rfl,R4,o4⟩:=z;refine DW (wpS_modify (DW (wpS_modify ?_)));subst hn;refine DX ⟨rfl,push _ ⟨⟨R4.sb.perm,R4.sb.kind,R4.sb.failed⟩,?_⟩ (fun i j p q a1 a2 a3 e1 e2=>S3 i j p q a1 a2 a3 (by rw[<- o4 i a1];exact e1) (by rw[<- o4 j (by lia)];exact e2)),n2,.inl (by lia)⟩;show Chain κ (arrOf st4) ((pendingOf st4).modify ((pendingOf st4).size-1) _).toList 0 lo;rw[Array.toList_modify]
    exact R4.ch.pow _ _)
end
end SG
namespace L2
open PySem PySem.Spec PyProof.Rows
def qq {α:Type}(xs:List α)(lo hi:Option Int):List α:=(xs.drop (HT.sIx xs.length 0 lo)).take (HT.sIx xs.length xs.length hi-HT.sIx xs.length 0 lo)
theorem tP(lo hi:Option Int)(n:Nat):Builtin.Str.strSliceIndices lo hi 1 n=(List.range (HT.sIx n n hi-HT.sIx n 0 lo)).map fun k=>HT.sIx n 0 lo+k:=by
 have clipA:∀v:Int,max 0 (min (if v<0 then v+(n:Int) else v) (n:Int))=(((if v<0 then (v+(n:Int)).toNat else min v.toNat n):Nat):Int):=fun v=>by
  split<;>lia
 have key:∀i j:Nat,sliceRange (i:Int) (j:Int) 1=(List.range (j-i)).map fun k=>i+k:=fun i j=>by
  unfold sliceRange;simp only[show(1:Int)>0 by decide,if_true];have e:(if (i:Int)<(j:Int) then ((j:Int)-(i:Int)+1-1)/1 else 0).toNat=j-i:=by
   split<;>lia
  rw[e];apply Dk;intro k _;lia
 have lo':(match lo with|none=>(0:Int)|some i=>max 0 (min (if i<0 then i+(n:Int) else i) (n:Int)))=((HT.sIx n 0 lo:Nat):Int):=by
  cases lo with
  |none=>rfl
  |some v=>exact clipA v
 have hi':(match hi with|none=>(n:Int)|some i=>max 0 (min (if i<0 then i+(n:Int) else i) (n:Int)))=((HT.sIx n n hi:Nat):Int):=by
  cases hi with
  |none=>rfl
  |some v=>exact clipA v
 rw[<- key,<- lo',<- hi'];rfl
theorem mX{α:Type}(xs:List α)(i m:Nat)(h:i+m<=xs.length):((List.range m).map fun k=>i+k).filterMap (fun j=>xs[j]?)=(xs.drop i).take m:=by
 induction m with
 |zero=>simp
 |succ m ih=>
  have hm:i+m<xs.length:=by lia
  rw[Dl,Bk,List.filterMap_append,ih (by lia),Bz,BW,Bf hm];simp[hm]
theorem cM(z:Str)(lo hi:Option Int):(Txt.slice z lo hi).cps.toList=qq z.cps.toList lo hi:=by
 have hn:z.length=z.cps.toList.length:=rfl;unfold Txt.slice;have e:=tP lo hi z.length;have h1:=HT.IZ z.length 0 (Bo _) lo;have h2:=HT.IZ z.length z.length (AW _) hi;rw[e];split
 ·rename_i c;have c':(HT.sIx z.length z.length hi-HT.sIx z.length 0 lo)=z.length:=by
   have:=(BM _ _▸c).2;simpa using this
  unfold qq;rw[<- hn];have a0:HT.sIx z.length 0 lo=0\/z.length=0:=by lia
  rcases a0 with a0|a0
  ·rw[c',a0,CL];exact(Bs (by rw[<- hn];exact AW _)).symm
  ·have:z.cps.toList=[]:=Cs.mp (by rw[<- hn];exact a0);rw[this];simp
 ·show((List.map _ _).filterMap _).toArray.toList=_;unfold qq;rw[<- hn];have e2:(fun j:Nat=>z.cps[j]?)=fun j:Nat=>z.cps.toList[j]?:=by funext j;rw[Bw]
  rw[List.toList_toArray,e2];by_cases hle:HT.sIx z.length 0 lo<=HT.sIx z.length z.length hi
  ·exact mX _ _ _ (by rw[<- hn];lia)
  ·have:HT.sIx z.length z.length hi-HT.sIx z.length 0 lo=0:=by lia
   rw[this];simp
section
variable {X:Cx}
def rSlS:V->Option Int->Option Int->Hp->VK->Prop:=fun x lo hi H Q=>∃z,x=.str z/\z.length<=sizeLine/\Q (.str (Txt.slice z lo hi)) H
theorem Fj:SlR X rSlS:=by
 intro pins s σ H x v vl vu lo hi sl Q I rx hs pl pu q;obtain⟨z,rfl,hz,q⟩:=q;obtain⟨t,rfl⟩:=rx;refine⟨"str",_,PySem.F.slot_str_getitem.lookup,typeIs_str _ _ _,?_⟩;obtain⟨l',e1,e1'⟩:∃l':Option (Int×Tok),vl=partValue l'/\l'.map (·.1)=lo:=by
  cases pl with
  |none=>exact⟨none,rfl,rfl⟩
  |int i t=>exact⟨some (i,t),rfl,rfl⟩
 obtain⟨u',e2,e2'⟩:∃l':Option (Int×Tok),vu=partValue l'/\l'.map (·.1)=hi:=by
  cases pu with
  |none=>exact⟨none,rfl,rfl⟩
  |int i t=>exact⟨some (i,t),rfl,rfl⟩
 subst e1 e2 e1' e2';refine wpAny_getItem_str_slice (l:=l') (u:=u') (st:=none) hs rfl (post_val_or_str ⟨?_,fun t' k=>⟨.str (Txt.slice z (l'.map (·.1)) (u'.map (·.1))),H,I.tok _,⟨_,rfl⟩,q⟩⟩);exact Bm (Txt.slice_le z (l'.map (·.1)) (u'.map (·.1))) hz
def Le:R2:=fun x y H Q=>∃z n,x=.str z/\y=.int n/\-(2^63)<=n/\n<2^63/\z.length*n.toNat<=16777216/\Q (.str (Txt.mul z n)) H
theorem Gv:OpR X (binaryOp .Mult) Le:=by
 intro pins s σ H x y v u Q I rx ry h;obtain⟨z,n,rfl,rfl,h0,h1,hz,q⟩:=h;obtain⟨t,rfl⟩:=rx;obtain⟨t',rfl⟩:=ry;refine SB.mul ⟨?_,fun hn _ hc=>?_,fun hn _=>?_⟩ fun tk k=>⟨.str _,H,I.tok _,⟨_,rfl⟩,q⟩
 ·rw[Eb (by lia),Eb (by lia)];rfl
 ·have hn':1<=n:=by lia
  have e:((z.length*n.toNat:Nat):Int)=(z.length:Int)*n:=by
   rw[Int.natCast_mul,Int.toNat_of_nonneg (by lia)]
  have h3:(z.length:Int)*n<=16777216:=by rw[<- e];lia
  have h4:(z.length:Int)<=(2^63-1)/n:=by
   rw[Int.le_ediv_iff_mul_le (by lia)];lia
  lia
 ·unfold Builtin.Str.tooLong;exact Eb (by rw[sizeLine_eq];lia)
end
theorem kn(a:Array Nat):∀(n:Nat)(acc:Array Nat),((List.replicate n a).foldl (·++·) acc).toList=acc.toList++(List.replicate n a.toList).flatten
 |0,acc=>by simp
 |n+1,acc=>by
  rw[Ca,CD,kn a n,Ca,Cm,BI,BC]
theorem mul_list(z:Str)(n:Int):(Txt.mul z n).cps.toList=(List.replicate n.toNat z.cps.toList).flatten:=by
 unfold Txt.mul;split
 ·have:n.toNat=0:=by lia
  rw[this];rfl
 ·split
  ·rename_i hn c;have c':n=1\/z.length=0:=by simpa using c
   rcases c' with rfl|c'
   ·simp
   ·have:z.cps.toList=[]:=Cs.mp c';rw[this];simp
  ·show((List.replicate n.toNat z.cps).foldl (·++·) #[]).toList=_;rw[kn];simp
section
variable {X:Cx}
theorem HB:∀{ns:List Int}{us:List Value}{i:Nat}{v:Value},Vals (ns.map V.int) us->us[i]?=some v->∃t,v=.int (ns.getD i 0) t
 |[],_,_,_,.nil,e=>by simp at e
 |n::r,_,0,_,.cons h _,e=>by
  simp at e;subst e;obtain⟨t,rfl⟩:=h;exact⟨t,rfl⟩
 |n::r,_,i+1,v,.cons _ t,e=>by
  obtain⟨tk,q⟩:=HB (i:=i) (v:=v) t (by simpa using e);exact⟨tk,by simpa using q⟩
theorem Inv.HF{pins:List (Addr×Obj)}{σ:St}{H:Hp}{s:Shared}{h':Heap}{tk:Nat}{o:Obj}(I:Inv X pins σ H s)(hk:∀b u,b∉[s.heap.objs.size]->(s.heap.push o).get? b=some u->h'.get? b=some u):Inv X pins σ H {s with heap:=h',toks:=tk}:=by
 have I1:Inv X pins σ H {s with heap:=s.heap.push o,toks:=s.toks}:=I.kept fun b o e=>Es _ e;refine Inv.turned (s:={s with heap:=s.heap.push o,toks:=s.toks}) (it:=s.heap.objs.size) I1 (fun b o hb e=>hk b o (by simpa using hb) e) (I.hok.fresh (AW _)) (CO I.lt) (.inr (Heap.get?_none_of_le I.sz)) (fun x c e z=>?_) fun p hp z=>?_
 ·obtain⟨v,o,ho,_⟩:=I.cell x c e;rw[z] at ho;exact absurd (Eg ho) (Bx _)
 ·have:=(I.pin p hp).1;rw[z] at this;exact absurd (Eg this) (Bx _)
theorem nr(val:Nat->Int):∀k,argBest (fun i j=>decide (val i<val j)) k<=k/\∀j,j<=k->val (argBest (fun i j=>decide (val i<val j)) k)<=val j
 |0=>⟨AW _,fun j hj=>by have:j=0:=(by lia);subst this;exact Dm _⟩
 |k+1=>by
  obtain⟨h1,h2⟩:=nr val k;show(if decide (val (k+1)<val (argBest _ k))=true then k+1 else argBest _ k)<=k+1/\∀j,j<=k+1->val (if decide (val (k+1)<val (argBest _ k))=true then k+1 else argBest _ k)<=val j;by_cases c:val (k+1)<val (argBest (fun i j=>decide (val i<val j)) k)
  ·rw[DZ (Ea c)];refine⟨AW _,fun j hj=>?_⟩;by_cases e:j=k+1
   ·subst e;exact Dm _
   ·have:=h2 j (by lia);lia
  ·rw[DY (by rw[Eb c];decide)];refine⟨by lia,fun j hj=>?_⟩;by_cases e:j=k+1
   ·subst e;lia
   ·exact h2 j (by lia)
def vG (K:W.Frag):List V->Hp->VK->Prop:=fun xs H Q=>∃(p:Addr)(ns:List Int),xs=[.ref p]/\SqT K H p (ns.map V.int)/\ns≠[]/\∀m,m∈ns->(∀n∈ns,m<=n)->Q (.int m) H
theorem mw(hc:X.calm=true):cy X (.builtin "min") (vG X.K):=by
 intro pins s σ H xs us Q I r h;obtain⟨p,ns,rfl,hq,hne,q⟩:=h;obtain⟨u,rfl,rx⟩:=dh r;cases rx;obtain⟨its,rv,pl,hz⟩:=I.tuple hq;have hl:=rv.length;rw[AX] at hl;have hh:X.A.in1.handled=none:=I.ok.hd hc;obtain⟨ob,ho,hcl,n0,hd⟩:=id pl;have hp:p<s.heap.objs.size:=Eg ho;have it:s.heap.IsTuple p its.toArray:=pl;refine call_min_walk (wpAny_pyIter_tuple it ⟨s.heap.objs.size,_,_,_,_,_,fun i j=>decide (ns.getD i 0<ns.getD j 0),rfl,Walks.tuple hh s.heap.objs.size p (AZ hp) _,⟨⟨_,Et _ rfl,rfl,rfl⟩,it.push _⟩,?_,?_,CmpOf.ints_lt (fun i=>ns.getD i 0) fun i v hv=>HB rv (by rw[Dc] at hv;exact hv),fun v h' tk hv hk=>?_⟩)
 ·intro b hb;show b<(s.heap.push _).objs.size;rw[EA];simp only[Bl,BU,or_false] at hb;rcases hb with e|e
  ·rw[e];exact Cb _
  ·rw[e];exact BP hp
 ·rw[Bi];cases ns with
  |nil=>exact absurd rfl hne
  |cons _ _=>rw[<- hl];exact DK _
 ·obtain⟨t,rfl⟩:=HB rv (by rw[Dc] at hv;exact hv);obtain⟨h1,h2⟩:=nr (fun i=>ns.getD i 0) (its.toArray.size-1);have hs:its.toArray.size=ns.length:=by rw[Bi,hl]
  have pos:0<ns.length:=by
   cases ns with
   |nil=>exact absurd rfl hne
   |cons _ _=>exact DK _
  refine⟨.int _,H,I.HF hk,⟨_,rfl⟩,q _ ?_ fun n hn=>?_⟩
  ·have hi:argBest (fun i j=>decide (ns.getD i 0<ns.getD j 0)) (its.toArray.size-1)<ns.length:=by lia
   rw[BG,Bf hi];exact BE hi
  ·obtain⟨j,hj,rfl⟩:=Cq.mp hn;have:=h2 j (by lia);rw[BG (i:=j),Bf hj] at this;exact this
theorem ic(ns:List Int):∀k,k<=ns.length->preSum (fun i=>ns.getD i 0) k=(ns.take k).sum
 |0,_=>rfl
 |k+1,h=>by
  have hk:k<ns.length:=by lia
  show preSum (fun i=>ns.getD i 0) k+ns.getD k 0=_;rw[ic ns k (by lia),Bz,Bf hk,BG,Bf hk,List.sum_append];show(ns.take k).sum+ns[k]=(ns.take k).sum+(ns[k]+0)
  lia
end
def vn (_ j:Int):Prop:=0<j/\j<1000000000000000000000000000000000
theorem pI{X:Cx}:OpR X (binaryOp .FloorDiv) (rI vn fun i j=>.int (i/j)):=opI fun i j _ _ _ _ _ hc q=>by
 have h1:(0:Int)<j:=hc.1;have h2:j<1000000000000000000000000000000000:=hc.2;refine floordiv_int (by lia) (by rw[DQ i (by lia)];exact q) (.inl (PyProof.noPylong_of_log2 ?_));refine Bc ((Nat.log2_lt (by lia)).mpr (show j.natAbs<2^111 by lia)) (by decide)
def Ite (K:W.Frag)(a:Addr):It:=
 ⟨fun i H=>∃xs x,SqL K H a xs/\xs[i]?=some x,fun i H v H'=>∃p x,H p=none/\v=.ref p/\H'=upd H p (.tup [.int i,x])/\∀xs,SqL K H a xs->xs[i]?=some x,fun i H=>∃xs,SqL K H a xs/\xs.length<=i⟩
theorem mj{P:Program}{w:World}{K:W.Frag}{elts:List Expr}{x1}{pos:Pos}(a e it:Addr)(hne:e≠it) :
  Turn P w K (.Tuple elts x1 pos) (Ite K a) [e,it] e (fun i h=>(∃old,IsEnum h e it ((i:Nat):Int) old)/\h.IsListIter it a i) where
 mem:=by simp
 obj:=fun i h st b hb=>by
  obtain⟨⟨old,s1⟩,s2⟩:=st;simp only[Bl,BU,or_false] at hb;rcases hb with rfl|rfl
  ·exact⟨_,s1,fun v z=>by cases z⟩
  ·obtain⟨o,e,c,d⟩:=s2;exact⟨o,e,fun v z=>by rw[d] at z;cases z⟩
 keep:=fun i h h' st k=>by
  obtain⟨⟨old,s1⟩,s2⟩:=st;exact⟨⟨old,k e (by simp) _ s1⟩,s2.at fun o z=>k it (by simp) o z⟩
 item:=by
  intro X hP hw hK hc i pins s σ H E I hf st hg;subst hP hw hK;obtain⟨⟨old,s1⟩,s2⟩:=st;obtain⟨xs,x,hq,hx⟩:=hg;obtain⟨its,rv,p,hz⟩:=I.list hq;obtain⟨u,hu,ru⟩:=rv.get hx;have fe:=hf e (by simp);have fi:=hf it (by simp);refine wpAny_pyNext_enum_item s1 s2 p.isList (x:=u) (by simpa using hu) hne fun h₁ heo hit₁ ht₁ hz₁ hk₁=>?_;refine⟨_,rfl,wpAny_letOwnedTupleGo_enum heo fun h₂ he₂ hs₂=>?_⟩;have he0:e<s.heap.objs.size:=Eg s1;have kk:∀b o,b≠e->b≠it->s.heap.get? b=some o->h₂.get? b=some o:=fun b o b1 b2 q=>hs₂.extBut b o b1 (hk₁ b o b1 b2 q);have hit₂:=hit₁.extBut hs₂.extBut (Er hne)
  have I1:Inv X pins σ H { s with heap:=h₂,toks:=s.toks+1 }:=I.FY ⟨fun b o q n _=>kk b o (fun z=>n (z ▸ fe)) (fun z=>n (z ▸ fi)) q,fun b o q n=>⟨o.slots,kk b o (fun z=>n (z ▸ fe)) (fun z=>n (z ▸ fi)) q⟩,fun b o q=>by
   by_cases z1:b=e
   ·subst z1;exact⟨_,he₂⟩
   ·by_cases z2:b=it
    ·subst z2;obtain⟨oi,g,_⟩:=hit₂;exact⟨oi,g⟩
    ·exact⟨o,kk b o z1 z2 q⟩⟩
  have hn:=I.hok.fresh (AW s.heap.objs.size);have ht₂:h₂.get? s.heap.objs.size=some {cls:=.type "tuple",data:=.seq #[.int i s.toks,u]}:=(hs₂.2 _ (CO he0)).trans ht₁;have I2:Inv X pins σ (upd H s.heap.objs.size (.tup [.int i,x])) {s with heap:=h₂,toks:=s.toks+1}:=I1.Ko (I.GA _ (AW _)) ⟨by show 2<=sizeLine;decide,[.int i s.toks,u],.cons ⟨_,rfl⟩ (.cons ru .nil),_,ht₂,rfl,_,rfl⟩;refine⟨.ref s.heap.objs.size,_,I2,rfl,⟨_,x,hn,rfl,rfl,fun ys hy=>by rw[I.HM hy hq];exact hx⟩,⟨⟨u,?_⟩,hit₂⟩,fun b hb=>?_⟩
  ·have z:((i+1:Nat):Int)=(i:Int)+1:=by lia
   rw[z];exact he₂
  ·have hb':b≠s.heap.objs.size:=by
    simp only[Bl,BU,or_false] at hb;rcases hb with rfl|rfl
    ·exact AZ he0
    ·obtain⟨oi,g,_⟩:=s2;exact AZ (Eg g)
   rw[ao hb'];exact(hf b hb).1
 done:=by
  intro X hP hw hK hc i pins s σ H E I hf st hg;subst hP hw hK;obtain⟨⟨old,s1⟩,s2⟩:=st;obtain⟨xs,hq,hx⟩:=hg;obtain⟨its,rv,p,hz⟩:=I.list hq;obtain⟨f0,f1,f2,f3,f4,f5⟩:=hf it (by simp);have hl:=rv.length;exact wpAny_pyNext_enum_end (I.ok.hd hc) s1 s2 p.isList (by simp;lia) fun h' eb=>⟨rfl,I.turned (t':=s.toks) (fun b o hb e=>eb b o hb e) f0 f1 f3 f4 f5⟩
 self:=fun _ _ _ _ _ st h=>wpAny_pyIter_enum st.1.choose_spec h
section
variable {X:Cx}
theorem GS:bootBuiltins "enumerate"=some (.type "enumerate"):=by decide +kernel
def ve (K:W.Frag)(ta:TA):TI:=fun σ H R=>ta σ H fun vs H1=>∃a,vs=[.ref a]/\(∃xs,SqL K H1 a xs)/\R (Ite K a) H1
theorem gJ{elts:List Expr}{x1}{tpos:Pos}{a:Expr}{ta:TA}{p pos:Pos}(hg:Gl X "enumerate")(hm:X.mg "enumerate"=none)(ha:PA X [a] ta)(hs:starEach [a] X.env=[(false,eval a X.env)]:=by rfl) :
  PI X (.Tuple elts x1 tpos) (.Call (.Name "enumerate" p) [a] [] pos) (ve X.K ta):=by
 intro pins s σ H R I h;refine Call_ (dG I hg hm GS (PyProof.Rows.callWith_type1 (thn (ha pos pins s σ H _ I h) fun us s1 hq80=>?_) hs rfl));obtain⟨vs,H1,I1,r1,q1⟩:=hq80;obtain⟨l,e,⟨xs,hq⟩,q⟩:=q1;subst e;obtain⟨u,rfl,ru⟩:=dh r1;cases ru;obtain⟨its,rv,pl,hz⟩:=I1.list hq;refine call_enumerate_list pl.isList fun h' he hit hsz hk=>?_;refine wpAny_pyIter_enum he ?_;have I2:Inv X pins σ H1 {s1 with heap:=h',toks:=s1.toks}:=I1.kept hk;refine⟨s1.heap.objs.size+1,[s1.heap.objs.size+1,s1.heap.objs.size],_,Ite X.K l,H1,rfl,I2,mj l _ _ (Nat.succ_ne_self _),⟨⟨_,he⟩,hit⟩,fun b hb=>?_,q⟩;simp only[Bl,BU,or_false] at hb;rcases hb with rfl|rfl
 ·exact I1.IJ (BO _) (I1.hok.fresh (BO _))
 ·exact I1.IJ (AW _) (I1.hok.fresh (AW _))
theorem oZ{K:W.Frag}{a:Addr}{xs:List V}{k:Nat}{js:List Nat}{g:TG}{tc:TT}{te:TE}{σ:St}{H:Hp}{Q:VK}(P:Nat->List V->Hp->Prop)(h0:P 0 [] H)(hz:∀i ys H,i<=xs.length->P i ys H->ys.length<=i)(hn:xs.length<=sizeLine)
  (hl:∀i ys H,i<=xs.length->P i ys H->SqL K H a xs)
  (hs:∀i x ys H p,xs[i]?=some x->P i ys H->H p=none->g (.ref p) (List.replicate k none++bJ js σ) (upd H p (.tup [.int i,x])) fun σ2 H2=>tc σ2 H2 fun b H3=>if b=true then te σ2 H3 fun y H4=>Nx xs.length i P (ys++[y]) H4 else Nx xs.length i P ys H3)
  (hd:∀ys H,P xs.length ys H->∀p,H p=none->Q (.ref p) (upd H p (.lst ys))) :
  gw (Ite K a) k js g tc te σ H Q:=
 dX P h0 hz hn (fun i ys H hi p=>⟨xs,xs[i],hl i ys H (BF hi) p,by simp[hi]⟩) (fun ys H p=>⟨xs,hl _ ys H (AW _) p,AW _⟩)
  (fun i ys H v H' hi p y=>by obtain⟨q,x,hq,rfl,rfl,y⟩:=y;exact hs i x ys H q (y xs (hl i ys _ (BF hi) p)) p hq) hd
def Ld:V->List V->Hp->VK->Prop:=fun x vs H Q=>∃z y,x=.str z/\vs=[.str y]/\Q (.bl (Txt.endswith z y)) H
theorem JD:MtR X "str.endswith" Ld:=by
 intro pins s σ H x vs v us Q I rx rv h;obtain⟨z,y,rfl,rfl,q⟩:=h;obtain⟨t,rfl⟩:=rx;obtain⟨u,rfl,t',rfl⟩:=rv.one;exact SC.endswith ⟨.bl _,H,I,rfl,q⟩
def JI:V->List V->Hp->VK->Prop:=fun x vs H Q=>∃z y,x=.str z/\vs=[.str y]/\Q (.bl (Txt.startswith z y)) H
theorem FV:MtR X "str.startswith" JI:=by
 intro pins s σ H x vs v us Q I rx rv h;obtain⟨z,y,rfl,rfl,q⟩:=h;obtain⟨t,rfl⟩:=rx;obtain⟨u,rfl,t',rfl⟩:=rv.one;exact SC.startswith ⟨.bl _,H,I,rfl,q⟩
end
end L2
namespace L2
open PySem PySem.Spec PyProof.Rows
open PySem.SeqAt
open PySem.AutoSeq1 (wpAny_loadPart')
open PySem.MeetsSeq PySem.MeetsSeq2 PySem.MeetsSeq3
theorem Hq:∀{vs:List Value}{ns:List Int}{i:Nat},IntsAre vs ns->i<vs.length->∃t,vs[i]?=some (.int (ns.getD i 0) t)
 |_,_,_,.nil,h=>by simp at h
 |_,_,0,.cons n t _,_=>⟨t,rfl⟩
 |_,_,i+1,.cons n t r,h=>by
  obtain⟨t',e⟩:=Hq (i:=i) r (by simpa using h);exact⟨t',by simpa using e⟩
theorem rX(l b:Addr)(items items2:Array Value)(n n2:Nat)(dd dd2:Option Addr)(sl sl2:Array (Option Value))(ns ms:List Int)(hi:IntsAre items.toList ns)(hj:IntsAre items2.toList ms)(k:Nat) :
  ∀i:Nat,items.size-i=k->i<=items.size->i<=items2.size->Meets (Builtin.«list.__eq__.loop» ⟨[.ref l,.ref b,rawInt i,rawInt 0],[]⟩)
   (fun A R s=>s.heap.get? l=some { cls:=.type "list",dict:=dd,data:=.seq items n,slots:=sl }/\s.heap.get? b=some { cls:=.type "list",dict:=dd2,data:=.seq items2 n2,slots:=sl2 } /\
    R (.ok (.ret (.bool (HT.lexLt (ns.drop i) (ms.drop i))))) s):=by
 have z1:items.size=ns.length:=by rw[<- hi.length];simp
 have z2:items2.size=ms.length:=by rw[<- hj.length];simp
 induction k with
 |zero=>
  intro i hk h1 h2 prog w A R s h;obtain⟨hp,g,d,tk,os⟩:=s;obtain⟨hl,hb,h⟩:=h
  wp_walk using wpAny_loadPart' hl,wpAny_loadPart' hb
  have hi1:items[((i:Nat):Int).toNat]?=none:=by simp;lia
  rw[hi1];have e1:ns.drop i=[]:=Do (by lia);rw[e1] at h
  wp_walk using wpAny_loadPart' hl,wpAny_loadPart' hb
  show R (.ok (.ret (.bool (decide (items.size<items2.size))))) _;have e2:HT.lexLt [] (ms.drop i)=decide (items.size<items2.size):=by
   by_cases q:i<ms.length
   ·rw[CF q,HT.Gd];exact(Ea (by lia)).symm
   ·rw[Do (by lia),HT.Gq];exact(Eb (by lia)).symm
  rw[<- e2];exact h
 |succ k ih=>
  intro i hk h1 h2 prog w A R s h;obtain⟨hp,g,d,tk,os⟩:=s;obtain⟨hl,hb,h⟩:=h
  wp_walk using wpAny_loadPart' hl,wpAny_loadPart' hb
  have hlt:i<items.size:=by lia
  obtain⟨t,et⟩:=Hq (i:=i) hi (by simpa using hlt);have et':items[((i:Nat):Int).toNat]?=some (.int (ns.getD i 0) t):=by simpa using et
  have hn:i<ns.length:=by lia
  have d1:ns.drop i=ns.getD i 0::ns.drop (i+1):=by rw[CF hn,BG,Bf hn];rfl
  rw[d1] at h;by_cases hlt2:i<items2.size
  ·obtain⟨u,eu⟩:=Hq (i:=i) hj (by simpa using hlt2);have eu':items2[((i:Nat):Int).toNat]?=some (.int (ms.getD i 0) u):=by simpa using eu
   have hm:i<ms.length:=by lia
   have d2:ms.drop i=ms.getD i 0::ms.drop (i+1):=by rw[CF hm,BG,Bf hm];rfl
   rw[d2,HT.FJ] at h;rw[et',eu'];obtain⟨e,he,hiff⟩:=HT.Hw A.in1 ⟨hp,g,d,tk,os⟩ (ns.getD i 0) t (ms.getD i 0) u;refine DU (he prog w _ _ ?_);have hc:((i:Int)+1)=((i+1:Nat):Int):=by lia
   cases e with
   |true=>
    rw[DZ (hiff.mp rfl)] at h
    wp_walk
    rw[hc]
    exact⟨plainId_quiet plain_eq_loop _,codeAny_builtin entry_eq_loop (by
     rw[Around.under_plainId plain_eq_loop _]
     exact ih (i+1) (by lia) (by lia) (by lia) prog w A R _ ⟨hl,hb,h⟩)⟩
   |false=>
    rw[DY (fun q=>absurd (hiff.mpr q) Bt)] at h
    wp_walk using wpAny_loadPart' hl,wpAny_loadPart' hb
    rw[et',eu'];have hri:=HT.Gz A.in1 ⟨hp,g,d,tk,os⟩ (ns.getD i 0) t (ms.getD i 0) u prog w
    wp_walk using hri
    exact h
  ·have eu':items2[((i:Nat):Int).toNat]?=none:=by simp;lia
   have d2:ms.drop i=[]:=Do (by lia);rw[d2,HT.FZ] at h;rw[et',eu']
   wp_walk using wpAny_loadPart' hl,wpAny_loadPart' hb
   show R (.ok (.ret (.bool (decide (items.size<items2.size))))) _;rw[Eb (by lia)];exact h
theorem iJ(l b:Addr)(items items2:Array Value)(n n2:Nat)(dd dd2:Option Addr)(sl sl2:Array (Option Value))(ns ms:List Int)(hi:IntsAre items.toList ns)(hj:IntsAre items2.toList ms) :
  Meets (Builtin.«list.__lt__» ⟨[.ref l,.ref b],[]⟩)
   (fun A R s=>s.heap.get? l=some { cls:=.type "list",dict:=dd,data:=.seq items n,slots:=sl }/\s.heap.get? b=some { cls:=.type "list",dict:=dd2,data:=.seq items2 n2,slots:=sl2 } /\
    R (.ok (.ret (.bool (HT.lexLt ns ms)))) s):=by
 intro prog w A R s h;obtain⟨hp,g,d,tk,os⟩:=s;obtain⟨hl,hb,h⟩:=h;have f3:=AutoSeq1.sub_list_list
 wp_walk using wpAny_loadPart' hl,wpAny_loadPart' hb
 exact⟨plainId_quiet plain_eq_loop _,codeAny_builtin entry_eq_loop (by
  rw[Around.under_plainId plain_eq_loop _]
  exact rX l b items items2 n n2 dd dd2 sl sl2 ns ms hi hj _ 0 rfl (Bo _) (Bo _) prog w A R _ ⟨hl,hb,h⟩)⟩
theorem lS{prog:Program}{w:World}{A:Around}{E:Value->Shared->Prop}{s:Shared}{l b:Addr}{o o2:Obj}{items items2:Array Value}{n n2:Nat}{ns ms:List Int}{Q:Value->Shared->Prop}
  (hl:s.heap.get? l=some o)(hc:o.cls=.type "list")(hd:o.data=.seq items n)(hb:s.heap.get? b=some o2)(hc2:o2.cls=.type "list")(hd2:o2.data=.seq items2 n2)(hi:IntsAre items.toList ns)(hj:IntsAre items2.toList ms)
  (hu:A.units<cLine)(h:Q (.bool (HT.lexLt ns ms)) s):wpAny (model prog w) A (richCompare .Lt (.ref l) (.ref b)) Q E s:=by
 obtain⟨cls,dd,data,sl⟩:=o;obtain⟨cls2,dd2,data2,sl2⟩:=o2;simp only at hc hd hc2 hd2;subst hc hd hc2 hd2;exact richCompare_meets_room (op:=.Lt) ⟨_,hl,rfl⟩ ⟨_,hb,rfl⟩ PySem.F.slot_list_lt PySem.F.entry_list_lt (PySem.F.args_list_lt_2 _ _) (iJ l b items items2 n n2 dd dd2 sl sl2 ns ms hi hj)
  ⟨hl,hb,show Value.bool (HT.lexLt ns ms)≠Value.notImplemented/\Q (.bool (HT.lexLt ns ms)) s from⟨(fun x=>nomatch x),h⟩⟩ hu
def bV (a c:Int)(ns ms:List Int):Bool:=if a=c then HT.lexLt ns ms else decide (a<c)
theorem Fl:∀ns:List Int,HT.lexLt ns ns=false
 |[]=>rfl
 |n::r=>by rw[HT.FJ,DZ rfl];exact Fl r
theorem fR(p q l b:Addr)(a c:Int)(t u:Tok)(n n2:Nat)(dd dd2:Option Addr)(sl sl2:Array (Option Value))(ns ms:List Int) :
  Meets (Builtin.«tuple.__lt__» ⟨[.ref p,.ref q],[]⟩)
   (fun A R s=>s.heap.get? p=some { cls:=.type "tuple",dict:=dd,data:=.seq #[.int a t,.ref l] n,slots:=sl }/\s.heap.get? q=some { cls:=.type "tuple",dict:=dd2,data:=.seq #[.int c u,.ref b] n2,slots:=sl2 } /\
    EqAt A.in1 s (.ref l) (.ref b) (decide (ns=ms))/\(∀(prog:Program)(w:World)(E:Value->Shared->Prop)(Q:Value->Shared->Prop),Q (.bool (HT.lexLt ns ms)) s->wpAny (model prog w) A.in1 (richCompare .Lt (.ref l) (.ref b)) Q E s) /\
    R (.ok (.ret (.bool (bV a c ns ms)))) s) :=
 .of_wp fun prog w A R s h=>by
  obtain⟨hp,g,d,tk,os⟩:=s;obtain⟨hl,hb,hE,hL,h⟩:=h;have f2:=AutoSeq1.sub_tuple_tuple;obtain⟨e,he,hiff⟩:=HT.Hw A.in1 ⟨hp,g,d,tk,os⟩ a t c u;have hri:=HT.Gz A.in1 ⟨hp,g,d,tk,os⟩ a t c u prog w;have hrl:=hL prog w
  wp_walk using wpAny_loadPart' hl,wpAny_loadPart' hb,wpAny_forIn_list _ (fun rest b' s'=>b'.1=none/\s'=⟨hp,g,d,tk,os⟩/\(rest=[(.int a t,.int c u),(.ref l,.ref b)]\/(a=c/\rest=[(.ref l,.ref b)])\/(a=c/\ns=ms/\rest=[]))) _
  case turn=>
   rintro⟨y,x⟩ rest b' s' ⟨hb',rfl,hcase⟩;rcases hcase with hc|⟨hac,hc⟩|⟨_,_,hc⟩
   ·injection hc with h1 h2;injection h1 with h1 h3;subst h1 h3 h2;refine DU (he prog w _ _ ?_);cases e with
    |true=>
     wp_walk
     exact⟨rfl,rfl,.inr (.inl ⟨hiff.mp rfl,rfl⟩)⟩
    |false=>
     have hne:¬a=c:=fun q=>absurd (hiff.mpr q) Bt
     wp_walk using hri
     refine⟨_,rfl,?_⟩;have e1:bV a c ns ms=decide (a<c):=by unfold bV;rw[DY hne]
     rw[e1] at h;simpa using h
   ·injection hc with h1 h2;injection h1 with h1 h3;subst h1 h3 h2;have e1:bV a c ns ms=HT.lexLt ns ms:=by unfold bV;rw[DZ hac]
    rw[e1] at h;refine DU (hE prog w _ _ ?_);by_cases hm:ns=ms
    ·rw[Ea hm]
     wp_walk
     exact⟨rfl,rfl,.inr (.inr ⟨hac,hm,rfl⟩)⟩
    ·rw[Eb hm]
     wp_walk using hrl
     exact⟨_,rfl,by simpa using h⟩
   ·cases hc
  case fin=>
   rintro⟨b1,b2⟩ s' ⟨hb',rfl,hcase⟩;simp only at hb';subst hb';rcases hcase with hc|⟨_,hc⟩|⟨hac,hm,_⟩
   ·cases hc
   ·cases hc
   ·have e1:bV a c ns ms=false:=by unfold bV;rw[DZ hac,hm];exact Fl ms
    rw[e1] at h
    wp_walk
    exact⟨_,rfl,by simpa [Builtin.Tuple.tupleCompareSizes] using h⟩
  case h=>
   exact⟨rfl,rfl,.inl rfl⟩
theorem nV{prog:Program}{w:World}{A:Around}{E:Value->Shared->Prop}{s:Shared}{p q l b:Addr}{a c:Int}{t u:Tok}{ns ms:List Int}{Q:Value->Shared->Prop}
  (hp:IsTup s.heap p #[.int a t,.ref l])(hq:IsTup s.heap q #[.int c u,.ref b])(hE:EqAt A.in1 s (.ref l) (.ref b) (decide (ns=ms)))
  (hL:∀(prog:Program)(w:World)(E:Value->Shared->Prop)(Q:Value->Shared->Prop),Q (.bool (HT.lexLt ns ms)) s->wpAny (model prog w) A.in1 (richCompare .Lt (.ref l) (.ref b)) Q E s)
  (hu:A.units<cLine)(h:Q (.bool (bV a c ns ms)) s):wpAny (model prog w) A (richCompare .Lt (.ref p) (.ref q)) Q E s:=by
 obtain⟨⟨cls,dd,data,sl⟩,ho,hc,n,hd⟩:=id hp;obtain⟨⟨cls2,dd2,data2,sl2⟩,ho2,hc2,n2,hd2⟩:=id hq;simp only at hc hd hc2 hd2;subst hc hd hc2 hd2;exact richCompare_meets_room (op:=.Lt) ⟨_,ho,rfl⟩ ⟨_,ho2,rfl⟩ PySem.F.slot_tuple_lt PySem.F.entry_tuple_lt (PySem.F.args_tuple_lt_2 _ _) (fR p q l b a c t u n n2 dd dd2 sl sl2 ns ms)
  ⟨ho,ho2,hE,hL,show Value.bool (bV a c ns ms)≠Value.notImplemented/\Q (.bool (bV a c ns ms)) s from⟨(fun x=>nomatch x),h⟩⟩ hu
end L2
namespace L2
open PySem PySem.Spec PyProof.Rows
theorem bR{M:Model}{A:Around}{E:Value->Shared->Prop}{s:Shared}{pos:Pos}{id:String}{first:List Value}{args:List (Bool×Sem Value)}{keywords:List (Option Str×Sem Value)}{Q:Value->Shared->Prop}
  (hplain:(args.any (·.1)||keywords.any (·.1.isNone))=false)
  (h:wpAny M A (evalArgs (.builtin id) true args keywords) (fun a s₁=>wpAny M A (call (.builtin id) (first++a.pos) a.kw) Q E s₁) E s) :
  wpAny M A (callWith pos (.builtin id) first args keywords) Q E s:=by
 unfold callWith;refine DU (Ee (Ed h (fun a s₁ h₁=>DU (wpAny_standAt ?_)) fun _ _ x=>x));simp only[hplain];refine DU (DV ?_);exact DU (Ed h₁ (fun r s₂ hr=>DU (Ee (wpAny_point (DV hr)))) fun _ _ x=>x)
def sP (X:Cx)(f:Value)(ks:List Str)(r:List V->List V->Hp->VK->Prop):Prop:=
 ∀(pins:List (Addr×Obj))(s:Shared)(σ:St)(H:Hp)(xs zs:List V)(us ws:List Value)(Q:VK),Inv X pins σ H s->Vals xs us->Vals zs ws->r xs zs H Q ->
  (wq X) (call f us (ks.zip ws)) (EP X pins σ Q) X.xe s
def tCBK (r:List V->List V->Hp->VK->Prop)(t tk:TA):TE:=fun σ H Q=>t σ H fun vs H1=>tk σ H1 fun zs H2=>r vs zs H2 Q
theorem ng{X:Cx}{x:Str}{p pos:Pos}{e:Expr}{es:List Expr}{kws:List Keyword}{t tk:TA}{id:String}{ks:List Str}{r:List V->List V->Hp->VK->Prop}(hc:sP X (.builtin id) ks r)(hg:Gl X x)(hm:X.mg x=none)(hv:bootBuiltins x=some (.builtin id))(ha:PA X (e::es) t)(hkw:PK X kws tk)
  (hall:(backToKw pos (keywordEach kws X.env)).all (·.1.isSome)=true:=by rfl)(hks:(backToKw pos (keywordEach kws X.env)).filterMap (·.1)=ks:=by rfl)
  (hn:x≠"__name__":=by decide)(hdb:(x==("__debug__":Str))=false:=by decide)(he:starEach (e::es) X.env=(false,eval e X.env)::starEach es X.env:=by rfl)
  (hpl:((backTo pos (starEach (e::es) X.env)).any (·.1)||(backToKw pos (keywordEach kws X.env)).any (·.1.isNone))=false:=by rfl):PE X (.Call (.Name x p) (e::es) kws pos) (tCBK r t tk):=by
 intro pins s σ H Q I h;refine wpAny_Call_Name_kw (dG I hg hm hv ?_ hn hdb);refine bR hpl ?_;have hA:=ha pos pins s σ H _ I h;rw[he] at hA ⊢;refine evalArgs_kw hall (thn hA fun us s1 hq81=>?_);obtain⟨vs,H1,I1,r1,q1⟩:=hq81;refine thn (hkw pos pins s1 σ H1 _ I1 q1) fun ws s2 hq82=>?_;obtain⟨zs,H2,I2,rz,q2⟩:=hq82;rw[hks];exact hc pins s2 σ H2 vs zs us ws Q I2 r1 rz q2
theorem FX:∀{a b c:List Int},a.length=b.length->b.length=c.length->HT.lexLt a b=true->HT.lexLt b c=true->HT.lexLt a c=true
 |[],[],_,_,_,h,_=>by exact absurd h (by simp[Fl])
 |x::a,y::b,z::c,e,f,h,g=>by
  rw[HT.FJ] at h g ⊢;have e':a.length=b.length:=by simpa using e
  have f':b.length=c.length:=by simpa using f
  by_cases xy:x=y
  ·rw[DZ xy] at h;by_cases yz:y=z
   ·rw[DZ yz] at g;rw[DZ (xy.trans yz)];exact FX e' f' h g
   ·rw[DY yz] at g;rw[DY (by rw[xy];exact yz),xy];exact g
  ·rw[DY xy] at h;have h':x<y:=Ef h;by_cases yz:y=z
   ·rw[<- yz,DY xy];exact h
   ·rw[DY yz] at g;have g':y<z:=Ef g;rw[DY (by lia)];exact Ea (by lia)
def kLt (a b:List Int):Bool:=bV a.length b.length a b
theorem lW{a b c:List Int}(h:kLt a b=true)(g:kLt b c=true):kLt a c=true:=by
 unfold kLt bV at *;by_cases e:(a.length:Int)=b.length
 ·rw[DZ e] at h;by_cases f:(b.length:Int)=c.length
  ·rw[DZ f] at g;rw[DZ (e.trans f)];exact FX (by lia) (by lia) h g
  ·rw[DY f] at g;rw[DY (by rw[e];exact f),e];exact g
 ·rw[DY e] at h;have h':=Ef h;by_cases f:(b.length:Int)=c.length
  ·rw[<- f,DY e];exact h
  ·rw[DY f] at g;have g':=Ef g;rw[DY (by lia)];exact Ea (by lia)
def nN (X:Cx)(q:Addr):Prop:=
 ∀(pins:List (Addr×Obj))(s:Shared)(σ:St)(H:Hp)(r:Addr)(ns:List Int),Inv X pins σ H s->H r=some (.lst (ns.map V.int)) ->
  wpAny (model X.prog X.w) X.A.in1 (call (.ref q) [.ref r]) (EP X pins σ fun v H'=>∃p,v=.ref p/\H p=none/\H'=upd H p (.tup [.int ns.length,.ref r])) (fun _ _=>False) s
theorem lL{X:Cx}{k:Nat}{f:Addr}{fd:FuncData}{ps:List Str}{sp:Sp}(F:EK X.prog X.w X.K X.mg X.base CX0 k f fd ps sp)(hr:FC (k+1) X.A)(hb:Binds X.K fd ps [])
  (hsp:∀(r:Addr)(ns:List Int)(H:Hp)(Q:VK),H r=some (.lst (ns.map V.int))->(∀p,H p=none->Q (.ref p) (upd H p (.tup [.int ns.length,.ref r])))->sp [.ref r] H Q E0):nN X f:=by
 intro pins s σ H r ns I hn;have h:=hsp r ns H (fun v H'=>∃p,v=.ref p/\H p=none/\H'=upd H p (.tup [.int ns.length,.ref r])) hn fun p hp=>⟨p,rfl,hp,rfl⟩
 have hl:([Value.ref r]++[]).length=ps.length:=F.len _ _ _ _ h;have r2:Vals [V.ref r] [Value.ref r]:=.cons rfl .nil;refine wpAny_call (codeAny_mono (F.run X.A.in1 X.stack s H ⟨[.ref r],[]⟩ [.ref r] [.ref r] _ E0 hr.in1 I.KS.in1 (hb s [.ref r] I.kIn hl) r2 h) fun r s' hq=>?_);cases r with
 |error e=>exact False.elim hq
 |ok fl=>
  cases fl with
  |ret u=>exact I.after hq
  |next=>exact False.elim hq
  |brk=>exact False.elim hq
  |cont=>exact False.elim hq
theorem Hm:∀(ns ms:List Int),PyData.eqv (.list (ns.map PyData.int)) (.list (ms.map PyData.int))=decide (ns=ms):=by
 intro ns;induction ns with
 |nil=>intro ms;cases ms<;>rfl
 |cons n ns ih=>
  intro ms;cases ms with
  |nil=>rfl
  |cons m ms=>
   have h:=ih ms;show(PyData.eqv (.int n) (.int m)&&PyData.eqv (.list (ns.map PyData.int)) (.list (ms.map PyData.int)))=_;rw[h];show(decide (n=m)&&decide (ns=ms))=_;by_cases e:n=m<;>by_cases f:ns=ms<;>simp[e,f]
end L2
namespace L2
open PySem PySem.Spec PyProof.Rows SeqAt
theorem dq{K:W.Frag}{H:Hp}:∀ns:List Int,DatAll K H (ns.map V.int) (ns.map PyData.int)
 |[]=>.nil
 |n::r=>.cons (.int n) (dq r)
theorem FQ:∀ns:List Int,PyData.canLayAll0 (ns.map PyData.int)=true
 |[]=>rfl
 |n::r=>by
  show((PyData.int n).canLay0&&PyData.canLayAll0 (r.map PyData.int))=true;rw[FQ r];rfl
theorem jO(ns:List Int):(PyData.list (ns.map PyData.int)).canLay0=true:=FQ ns
theorem depthAll_ints:∀ns:List Int,PyData.depthAll (ns.map PyData.int)<=1
 |[]=>by show 0<=1;decide
 |n::r=>by
  have h:=depthAll_ints r;show max (PyData.int n).depth (PyData.depthAll (r.map PyData.int))<=1;have e:(PyData.int n).depth=0:=rfl;lia
theorem kJ(ns:List Int):(PyData.list (ns.map PyData.int)).depth<=2:=by
 have h:=depthAll_ints ns;have e:(PyData.list (ns.map PyData.int)).depth=PyData.depthAll (ns.map PyData.int)+1:=by simp[PyData.depth]
 lia
theorem jK{n:Int}{a:Addr}:∀{us:List Value},Vals [V.int n,V.ref a] us->∃t,us=[Value.int n t,Value.ref a]
 |_,.cons r (.cons q .nil)=>by obtain⟨t,rfl⟩:=r;cases q;exact⟨t,rfl⟩
section
variable {X:Cx}{pins:List (Addr×Obj)}{σ:St}{H:Hp}{s:Shared}
theorem lK{A:Around}{E:Value->Shared->Prop}{p q a b:Addr}{ns ms:List Int}{Q:Value->Shared->Prop}(I:Inv X pins σ H s)(hp:H p=some (.tup [.int ns.length,.ref a]))(hq:H q=some (.tup [.int ms.length,.ref b]))
  (ha:H a=some (.lst (ns.map V.int)))(hb:H b=some (.lst (ms.map V.int)))(hu:A.units+32<cLine)(h:Q (.bool (kLt ns ms)) s):wpAny (model X.prog X.w) A (richCompare .Lt (.ref p) (.ref q)) Q E s:=by
 obtain⟨ip,rp,pp,_⟩:=I.tuple (SqT.of hp);obtain⟨iq,rq,pq,_⟩:=I.tuple (SqT.of hq);obtain⟨tp,rfl⟩:=jK rp;obtain⟨tq,rfl⟩:=jK rq;obtain⟨_,ia,na,ra,_,ga⟩:=I.HV ha;obtain⟨_,ib,nb,rb,_,gb⟩:=I.HV hb;obtain⟨as,hA⟩:=I.reads (.lst (SqL.of ha) (dq ns)) (rfl:RelV (.ref a) (.ref a));obtain⟨bs,hB⟩:=I.reads (.lst (SqL.of hb) (dq ms)) (rfl:RelV (.ref b) (.ref b));have hd:=kJ ns;have hE:EqAt A.in1 s (.ref a) (.ref b) (decide (ns=ms)):=by
  have:=SeqAt.eqAt_reads _ _ A.in1 s _ _ as bs hA hB (jO ns) (jO ms) (by show A.units+1+_<cLine;lia);rw[Hm] at this;exact this
 exact nV pp pq hE (fun prog w E Q h=>lS ga rfl rfl gb rfl rfl (fH ra) (fH rb) (by show A.units+1<cLine;lia) h) (by lia) h
theorem dF{α:Type}(f:α->Addr):∀{xs:List α}{us:List Value},Vals (xs.map fun x=>V.ref (f x)) us->us=xs.map fun x=>Value.ref (f x)
 |[],_,.nil=>rfl
 |x::xs,_,.cons r t=>by cases r;rw[dF f t];rfl
end
section
variable {X:Cx}{pins:List (Addr×Obj)}{σ:St}
theorem EW.turn{t':Nat}{H:Hp}{s:Shared}{it:Addr}{h':Heap}(f:EW X pins H it)(I:Inv X pins σ H s)(k:∀b o,b≠it->s.heap.get? b=some o->h'.get? b=some o):Inv X pins σ H {s with heap:=h',toks:=t'}:=
 I.turned k f.1 f.2.1 f.2.2.2.1 f.2.2.2.2.1 f.2.2.2.2.2
theorem jg{q l IT S:Addr}(hq:nN X q)(hc:X.calm=true)(hu:X.A.units+64<cLine)(hIS:IT≠S)(hlI:l≠IT){ps:List (Addr×List Int)}{R:Result->Shared->Prop} :
  ∀(n j:Nat)(s:Shared)(H:Hp)(rb:Addr×List Int)(pb:Addr)(c:Nat),ps.length-j=n->j<=ps.length->Inv X pins σ H s->H l=some (.lst (ps.map fun p=>V.ref p.1))->(∀p∈ps,H p.1=some (.lst (p.2.map V.int))) ->
   EW X pins H IT->EW X pins H S->s.heap.IsListIter IT l j->s.heap.get? S=some (seqObj "list" #[.ref rb.1,.ref pb] c)->rb∈ps->H pb=some (.tup [.int rb.2.length,.ref rb.1])->(∀p∈ps.take j,kLt p.2 rb.2=false) ->
   (∀(p:Addr×List Int)(H':Hp)(s':Shared),p∈ps->(∀p'∈ps,kLt p'.2 p.2=false)->EJ H H'->Inv X pins σ H' s'->R (.ok (.ret (.ref p.1))) s') ->
   codeAny (model X.prog X.w) X.A (.builtin "min.loop" ⟨[.ref IT,.ref q,.ref S],[("default",.none)]⟩) R s:=by
 have hname:(toString "min"++toString ".loop":String)="min.loop":=by decide
 intro n;induction n with
 |zero=>
  intro j s H rb pb c hn hj I hl hp fI fS hit hS hrb hpb hbest hR;obtain rfl:j=ps.length:=by lia
  obtain⟨_,its,nl,rl,el,gl⟩:=I.HV hl;have ei:=dF _ rl;have W:=Walks.list (prog:=X.prog) (w:=X.w) (A:=X.A.in1) (I.ok.hd hc) IT l hlI its.toArray;have hsz:its.toArray.size=ps.length:=by rw[Bi,ei,AX]
  refine codeAny_builtin PySem.F.entry_min_loop ?_;rw[Around.under_plainId PySem.F.plain_min_loop _];show wpAny _ X.A.in1 (seqItems? (.ref S) >>= _) _ _ _;refine DU (wpAny_seqItems hS rfl ?_);show wpAny _ X.A.in1 (tryCatch (pyNext (.ref IT)) _ >>= _) _ _ _;refine DU (wpAny_tryCatch (W.done _ _ _ ⟨by rw[hsz];exact hit,⟨_,gl,rfl,_,rfl⟩⟩ fun h' tk' hk'=>?_));have I1:Inv X pins σ H {s with heap:=h',toks:=tk'}:=fI.turn I fun b o hb e=>hk' b o (by simpa using hb) e;have hS':=hk' S _ (by simpa using Er hIS) hS;have s1:=Heap.SameBut.update h' S (Obj.mapSeq fun _=>(#[]:Array Value));show wpAny _ X.A.in1 (updateSeq S (fun _=>#[]) >>= _) _ _ _;refine DU ?_;refine wpAny_updateSeq hS' rfl (DU (wpAny_letGo (DV ?_)));exact hR rb H _ hrb (fun p hp'=>hbest p (by rw[BX];exact hp')) (EJ.refl H) (fS.turn I1 fun b o hb e=>by rw[s1.2 b hb];exact e)
 |succ n ih=>
  intro j s H rb pb c hn hj I hl hp fI fS hit hS hrb hpb hbest hR;have hlt:j<ps.length:=by lia
  obtain⟨_,its,nl,rl,el,gl⟩:=I.HV hl;have ei:=dF _ rl;have W:=Walks.list (prog:=X.prog) (w:=X.w) (A:=X.A.in1) (I.ok.hd hc) IT l hlI its.toArray;have hsz:its.toArray.size=ps.length:=by rw[Bi,ei,AX]
  refine codeAny_builtin PySem.F.entry_min_loop ?_;rw[Around.under_plainId PySem.F.plain_min_loop _];show wpAny _ X.A.in1 (seqItems? (.ref S) >>= _) _ _ _;refine DU (wpAny_seqItems hS rfl ?_);show wpAny _ X.A.in1 (tryCatch (pyNext (.ref IT)) _ >>= _) _ _ _;refine DU (wpAny_tryCatch (W.item j _ _ _ (by rw[hsz];exact hlt) ⟨hit,⟨_,gl,rfl,_,rfl⟩⟩ fun v h' tk' hP hst' hk'=>?_));have hv:v=.ref (ps[j]).1:=by
   rw[Dc,ei,Br,Bf hlt] at hP;exact(Eh hP).symm
  subst hv;have hmem:ps[j]∈ps:=BE hlt;obtain⟨oI,hoI,hoc,hod⟩:=id hst'.1;have I1:Inv X pins σ H {s with heap:=h',toks:=tk'}:=fI.turn I fun b o hb e=>hk' b o (by simpa using hb) e;have hS':=hk' S _ (by simpa using Er hIS) hS
  have IP:=I1.pinned (fp:=[IT,S]) (fun b hb=>by
   rcases Bl.mp hb with rfl|hb
   ·exact fI
   ·rw[Bg.mp hb];exact fS) (fun b hb=>by
   rcases Bl.mp hb with rfl|hb
   ·exact⟨oI,hoI,fun v e=>by rw[hod] at e;cases e⟩
   ·rw[Bg.mp hb]; exact⟨_,hS',fun v e=>by cases e⟩)
  show wpAny _ X.A.in1 (tryCatch (holding [_] (call (.ref q) [_])) _ >>= _) _ _ _;refine DU (wpAny_tryCatch (Ee (Ed (hq _ _ σ H (ps[j]).1 (ps[j]).2 IP (hp _ hmem)) (fun x s2 he=>?_) fun _ _ hF=>hF.elim)));obtain⟨_,_,I2,r2,p2,rfl,hp2,rfl⟩:=he;cases r2;have pin:∀b o,b∈[IT,S]->h'.get? b=some o->s2.heap.get? b=some o/\upd H p2 (.tup [.int (ps[j]).2.length,.ref (ps[j]).1]) b=none:=fun b o hb e=>by
   have m:(b,o)∈bO [IT,S] h':=Cz.mpr ⟨b,hb,by rw[e];rfl⟩;have:=I2.pin (b,o) (AY _ (AY _ m));exact⟨this.1,this.2.1⟩
  obtain⟨gI2,nI2⟩:=pin IT oI (.head _) hoI;obtain⟨gS2,nS2⟩:=pin S _ (.tail _ (.head _)) hS';have fI2:EW X pins (upd H p2 (.tup [.int (ps[j]).2.length,.ref (ps[j]).1])) IT:=⟨nI2,fI.2⟩
  have fS2:EW X pins (upd H p2 (.tup [.int (ps[j]).2.length,.ref (ps[j]).1])) S:=⟨nS2,fS.2⟩
  have I3:=I2.ES;have SM:EJ H (upd H p2 (.tup [.int (ps[j]).2.length,.ref (ps[j]).1])):=af hp2 _;show wpAny _ X.A.in1 (tryCatch (holding [_,.ref p2] (richCompare .Lt (.ref p2) (.ref pb) >>= _)) _ >>= _) _ _ _;refine DU (wpAny_tryCatch (Ee (DU (lK I3 (ns:=(ps[j]).2) (ms:=rb.2) ae (SM _ _ hpb) (SM _ _ (hp _ hmem)) (SM _ _ (hp _ hrb)) (by show X.A.units+1+32<cLine;lia) ?_))));refine DU (Ee (wpAny_truthy_bool ?_));refine DU (wpAny_letGo (DV ?_));have htake:ps.take (j+1)=ps.take j++[ps[j]]:=by rw[Bz,Bf hlt];rfl
  by_cases hb':kLt (ps[j]).2 rb.2=true
  ·have s1:=Heap.SameBut.update s2.heap S (Obj.mapSeq fun _=>#[.ref (ps[j]).1,.ref p2]);obtain⟨c2,hc2⟩:∃c2,(s2.heap.update S (Obj.mapSeq fun _=>#[.ref (ps[j]).1,.ref p2])).get? S=some (seqObj "list" #[.ref (ps[j]).1,.ref p2] c2):=⟨_,get?_update_seq gS2 fun _=>#[.ref (ps[j]).1,.ref p2]⟩
   simp only[hb',if_true];refine DU ?_;refine wpAny_updateSeq gS2 rfl (DU (wpAny_letGo ?_));rw[hname]
   refine DV ⟨plainId_quiet PySem.F.plain_min_loop _,ih (j+1) _ _ (ps[j]) p2 c2 (by lia) hlt (fS2.turn (t':=s2.toks) I3 fun b o hb e=>by rw[s1.2 b hb]; exact e) (SM _ _ hl) (fun p h=>SM _ _ (hp p h)) fI2 fS2 ⟨oI,(s1.2 IT hIS).trans gI2,hoc,hod⟩ hc2 hmem ae (fun p h=>?_)
    fun p H' s' h1 h2 h3 h4=>hR p H' s' h1 h2 (SM.trans h3) h4⟩
   rw[htake] at h;rcases Bb.mp h with h|h
   ·have h0:=hbest p h;cases e:kLt p.2 (ps[j]).2 with
    |false=>rfl
    |true=>rw[lW e hb'] at h0;cases h0
   ·rw[Bg.mp h];unfold kLt bV;rw[DZ rfl];exact Fl _
  ·have hb'':kLt (ps[j]).2 rb.2=false:=by simpa using hb'
   simp only[hb'',Cf,if_false];refine DU (wpAny_letGo ?_);rw[hname]
   refine DV ⟨plainId_quiet PySem.F.plain_min_loop _,ih (j+1) s2 _ rb pb c (by lia) hlt I3 (SM _ _ hl) (fun p h=>SM _ _ (hp p h)) fI2 fS2 ⟨oI,gI2,hoc,hod⟩ gS2 hrb (SM _ _ hpb) (fun p h=>?_)
    fun p H' s' h1 h2 h3 h4=>hR p H' s' h1 h2 (SM.trans h3) h4⟩
   rw[htake] at h;rcases Bb.mp h with h|h
   ·exact hbest p h
   ·rw[Bg.mp h];exact hb''
end
theorem pB(a v d:Value):argsOk "min" ⟨[a],[("key",v),("default",d)]⟩:=by unfold argsOk;kernel_rfl
def rS (q:Addr):List V->List V->Hp->VK->Prop:=fun xs zs H Q=>∃(l:Addr)(ps:List (Addr×List Int)),xs=[.ref l]/\zs=[.ref q,.non]/\H l=some (.lst (ps.map fun p=>V.ref p.1))/\(∀p∈ps,H p.1=some (.lst (p.2.map V.int))) /\
 (ps=[]->Q .non H)/\∀(p:Addr×List Int)(H':Hp),p∈ps->(∀p'∈ps,kLt p'.2 p.2=false)->EJ H H'->Q (.ref p.1) H'
theorem lQ{X:Cx}{q:Addr}(hq:nN X q)(hc:X.calm=true)(hu:X.A.units+64<cLine):sP X (.builtin "min") ["key","default"] (rS q):=by
 intro pins s σ H xs zs us ws Q I r rz h;obtain⟨l,ps,rfl,rfl,hl,hp,h0,h1⟩:=h;obtain⟨u,rfl,rx⟩:=dh r;cases rx;obtain⟨rfl⟩:ws=[.ref q,.none]:=by
  cases rz with
  |cons a b=>cases b with
   |cons c d=>cases d;cases a;cases c;rfl
 have hname:(toString "min"++toString ".loop":String)="min.loop":=by decide
 show (wq X) (call (.builtin "min") [.ref l] [("key",.ref q),("default",.none)]) _ _ s;obtain⟨_,its,nl,rl,el,gl⟩:=I.HV hl;have ei:=dF _ rl;have hll:l<s.heap.objs.size:=Eg gl;have hls:s.heap.IsList l its.toArray:=⟨_,gl,rfl,_,rfl⟩
 refine kmk_tree PySem.F.kind_min PySem.F.plain_min PySem.F.entry_min (pB _ _ _) ?_;show wpAny _ X.A.in1 (Builtin.Builtins.bindParams "min" ["key","default"] 0 ⟨[],[("key",.ref q),("default",.none)]⟩ >>= _) _ _ s;refine DU (wpAny_of_eq (show Builtin.Builtins.bindParams "min" ["key","default"] 0 ⟨[],[("key",.ref q),("default",.none)]⟩=pure [some (.ref q),some .none] from rfl) ?_);refine DU (DV ?_);refine DU (wpAny_pyIter_list hls ?_);refine DU (wpAny_newList ?_ (Bo _));rw[hname];have hS:(s.heap.push {cls:=.type "list_iterator",data:=.fields #[.ref l,.int 0 0]}).objs.size=s.heap.objs.size+1:=size_push' ..;have hlI:l≠s.heap.objs.size:=AZ hll;have hIS:s.heap.objs.size≠(s.heap.push {cls:=.type "list_iterator",data:=.fields #[.ref l,.int 0 0]}).objs.size:=by rw[hS];exact AZ (Cb _)
 refine DV ⟨plainId_quiet PySem.F.plain_min_loop _,?_⟩;have K0:∀b o,s.heap.get? b=some o->((s.heap.push {cls:=.type "list_iterator",data:=.fields #[.ref l,.int 0 0]}).push (seqObj "list" #[] 0)).get? b=some o:=fun b x e=>Es _ (Es _ e);have gI:((s.heap.push {cls:=.type "list_iterator",data:=.fields #[.ref l,.int 0 0]}).push (seqObj "list" #[] 0)).get? s.heap.objs.size=some {cls:=.type "list_iterator",data:=.fields #[.ref l,.int 0 0]}:=
  Es _ (Et _ rfl)
 have gS:((s.heap.push {cls:=.type "list_iterator",data:=.fields #[.ref l,.int 0 0]}).push (seqObj "list" #[] 0)).get? (s.heap.push {cls:=.type "list_iterator",data:=.fields #[.ref l,.int 0 0]}).objs.size=some (seqObj "list" #[] 0):=Et _ rfl;have fI:EW X pins H s.heap.objs.size:=I.GA _ (AW _);have fS:EW X pins H (s.heap.push {cls:=.type "list_iterator",data:=.fields #[.ref l,.int 0 0]}).objs.size:=I.GA _ (by rw[hS];exact BO _);have I0:Inv X pins σ H {s with heap:=(s.heap.push {cls:=.type "list_iterator",data:=.fields #[.ref l,.int 0 0]}).push (seqObj "list" #[] 0)}:=I.kept (t':=s.toks) K0;generalize (s.heap.push {cls:=.type "list_iterator",data:=.fields #[.ref l,.int 0 0]}).objs.size=S at *;generalize (s.heap.push {cls:=.type "list_iterator",data:=.fields #[.ref l,.int 0 0]}).push (seqObj "list" #[] 0)=hh at *;have W:=Walks.list (prog:=X.prog) (w:=X.w) (A:=X.A.in1) (I.ok.hd hc) s.heap.objs.size l hlI its.toArray;have hsz:its.toArray.size=ps.length:=by rw[Bi,ei,AX]
 have hlH:hh.IsList l its.toArray:=⟨_,K0 _ _ gl,rfl,_,rfl⟩
 refine codeAny_builtin PySem.F.entry_min_loop ?_;rw[Around.under_plainId PySem.F.plain_min_loop _];show wpAny _ X.A.in1 (seqItems? (.ref _) >>= _) _ _ _;refine DU (wpAny_seqItems gS rfl ?_);show wpAny _ X.A.in1 (tryCatch (pyNext (.ref s.heap.objs.size)) _ >>= _) _ _ _;cases ps with
 |nil=>
  refine DU (wpAny_tryCatch (W.done _ _ _ ⟨by rw[hsz];exact⟨_,gI,rfl,rfl⟩,hlH⟩ fun h' tk' hk'=>?_));have I1:Inv X pins σ H {s with heap:=h',toks:=tk'}:=fI.turn (s:={s with heap:=hh}) I0 fun b o hb e=>hk' b o (by simpa using hb) e;refine DU (EB (DV ?_));exact⟨.non,H,I1,rfl,h0 rfl⟩
 |cons p0 pr=>
  refine DU (wpAny_tryCatch (W.item 0 _ _ _ (by rw[hsz];exact DK _) ⟨⟨_,gI,rfl,rfl⟩,hlH⟩ fun v h' tk' hP hst' hk'=>?_));have hv:v=.ref p0.1:=by
   rw[Dc,ei] at hP;exact(Eh hP).symm
  subst hv;obtain⟨oI,hoI,hoc,hod⟩:=id hst'.1;have I1:Inv X pins σ H {s with heap:=h',toks:=tk'}:=fI.turn (s:={s with heap:=hh}) I0 fun b o hb e=>hk' b o (by simpa using hb) e;have hS':=hk' S _ (by simpa using Er hIS) gS
  have IP:=I1.pinned (fp:=[s.heap.objs.size,S]) (fun b hb=>by
   rcases Bl.mp hb with rfl|hb
   ·exact fI
   ·rw[Bg.mp hb];exact fS) (fun b hb=>by
   rcases Bl.mp hb with rfl|hb
   ·exact⟨oI,hoI,fun v e=>by rw[hod] at e;cases e⟩
   ·rw[Bg.mp hb]; exact⟨_,hS',fun v e=>by cases e⟩)
  show wpAny _ X.A.in1 (tryCatch (holding [_] (call (.ref q) [_])) _ >>= _) _ _ _;refine DU (wpAny_tryCatch (Ee (Ed (hq _ _ σ H p0.1 p0.2 IP (hp _ (.head _))) (fun x s2 he=>?_) fun _ _ hF=>hF.elim)));obtain⟨_,_,I2,r2,p2,rfl,hp2,rfl⟩:=he;cases r2;have pin:∀b o,b∈[s.heap.objs.size,S]->h'.get? b=some o->s2.heap.get? b=some o/\upd H p2 (.tup [.int p0.2.length,.ref p0.1]) b=none:=fun b o hb e=>by
   have m:(b,o)∈bO [s.heap.objs.size,S] h':=Cz.mpr ⟨b,hb,by rw[e];rfl⟩;have:=I2.pin (b,o) (AY _ (AY _ m));exact⟨this.1,this.2.1⟩
  obtain⟨gI2,nI2⟩:=pin _ oI (.head _) hoI;obtain⟨gS2,nS2⟩:=pin S _ (.tail _ (.head _)) hS';have fI2:EW X pins (upd H p2 (.tup [.int p0.2.length,.ref p0.1])) s.heap.objs.size:=⟨nI2,fI.2⟩
  have fS2:EW X pins (upd H p2 (.tup [.int p0.2.length,.ref p0.1])) S:=⟨nS2,fS.2⟩
  have I3:=I2.ES;have SM:EJ H (upd H p2 (.tup [.int p0.2.length,.ref p0.1])):=af hp2 _;have s1:=Heap.SameBut.update s2.heap S (Obj.mapSeq fun _=>#[.ref p0.1,.ref p2]);obtain⟨c2,hc2⟩:∃c2,(s2.heap.update S (Obj.mapSeq fun _=>#[.ref p0.1,.ref p2])).get? S=some (seqObj "list" #[.ref p0.1,.ref p2] c2):=⟨_,get?_update_seq gS2 fun _=>#[.ref p0.1,.ref p2]⟩
  show wpAny _ X.A.in1 (updateSeq S (fun _=>#[.ref p0.1,.ref p2]) >>= _) _ _ _;refine DU ?_;refine wpAny_updateSeq gS2 rfl ?_;rw[hname]
  refine DV ⟨plainId_quiet PySem.F.plain_min_loop _,jg (pins:=pins) (σ:=σ) hq hc hu hIS hlI _ 1 _ _ p0 p2 c2 rfl (by simp) (fS2.turn (t':=s2.toks) I3 fun b o hb e=>by rw[s1.2 b hb]; exact e) (SM _ _ hl) (fun p h=>SM _ _ (hp p h)) fI2 fS2 ⟨oI,(s1.2 _ hIS).trans gI2,hoc,hod⟩ hc2 (.head _) ae (fun p h=>?_)
   fun p H' s' a1 a2 a3 a4=>⟨.ref p.1,H',a4,rfl,h1 p H' a1 a2 (SM.trans a3)⟩⟩
  have e:p=p0:=by simpa using h
  rw[e];unfold kLt bV;rw[DZ rfl];exact Fl _
end L2
namespace L2
open PySem PySem.Spec PyProof.Rows
section
variable {X:Cx}
def vz (K:W.Frag):List V->Hp->VK->Prop:=fun xs H Q=>∃(p:Addr)(ns:List Int),xs=[.ref p]/\SqL K H p (ns.map V.int)/\Q (.int ns.sum) H
theorem nj(hc:X.calm=true):cy X (.builtin "sum") (vz X.K):=by
 intro pins s σ H xs us Q I r h;obtain⟨p,ns,rfl,hq,q⟩:=h;obtain⟨u,rfl,rx⟩:=dh r;cases rx;obtain⟨its,rv,pl,hz⟩:=I.list hq;have hl:=rv.length;rw[AX] at hl;have hh:X.A.in1.handled=none:=I.ok.hd hc;obtain⟨ob,ho,hcl,n0,hd⟩:=id pl.isList;have hp:p<s.heap.objs.size:=Eg ho;have it:s.heap.IsList p its.toArray:=pl.isList;refine call_sum_walkAnyS (wpAny_pyIter_list it ⟨s.heap.objs.size,_,_,_,_,_,_,fun i=>ns.getD i 0,rfl,(Walks.list hh s.heap.objs.size p (AZ hp) _).toS,⟨⟨_,Et _ rfl,rfl,rfl⟩,it.push _⟩,?_,fun i v hv=>HB rv (by rw[Dc] at hv;exact hv),fun s' t' hm=>?_⟩)
 ·intro b hb;show b<(s.heap.push _).objs.size;rw[EA];simp only[Bl,BU,or_false] at hb;rcases hb with e|e
  ·rw[e];exact Cb _
  ·rw[e];exact BP hp
 ·have e:preSum (fun i=>ns.getD i 0) its.toArray.size=ns.sum:=by
   rw[ic ns _ (by rw[Bi];lia),Bs (by rw[Bi];lia)]
  rw[e];obtain⟨hp1,g1,d1,o1,t1⟩:=hm;obtain⟨h',g',d',tk',os'⟩:=s';have eg:g'=s.gens:=g1;have ed:d'=s.drawn:=d1;have eo:os'=s.os:=o1;subst eg ed eo;exact⟨.int _,H,I.HF (o:=_) hp1,⟨_,rfl⟩,q⟩
end
theorem gZ{X:Cx}{o e:Expr}{es:List Expr}{to:TE}{t:TA}{name:Str}{apos cpos:Pos}{T id:String}{r:V->List V->Hp->VK->Prop}(K':W.Frag)(hK:X.K=K')(pa:PlainAttrs T)(slot:Slot T name id)(hty:typeOf (.builtin id)=pure (.type "method_descriptor"))(hm:MtR X id r)(ho:PE X o to)(ha:PA X (e::es) t)
  (hbase:attributeBase o name X.env (eval o X.env)=eval o X.env:=by rfl)
  (hfew:((backTo cpos (starEach (e::es) X.env)).all (fun x=>!x.1) && (backToKw cpos (keywordEach [] X.env)).all (fun x=>x.1.isSome)
   && decide ((e::es).length+([]:List Keyword).length+(if ([]:List Keyword).isEmpty then 0 else 1) < 30))=true:=by rfl)
  (hline:(apos.endLine==cpos.line)=true:=by rfl) (hs:starEach (e::es) X.env=(false,eval e X.env)::starEach es X.env:=by rfl) (hplain:(backTo cpos (starEach es X.env)).any (·.1)=false:=by rfl) :
  PE X (.Call (.Attribute o name apos) (e::es) [] cpos) (tBM K' T r to t):=by
 subst hK;exact jn pa slot hty hm ho ha hbase hfew hline hs hplain
theorem bT{X:Cx}{pos:Pos}{es:List Expr}{k:Nat}{t:TGs}{n:Nat}(K':W.Frag)(hK:X.K=K')(hc:X.calm=true)(h:PGs X es t)
  (hn:(assignEach es X.env).length=n:=by rfl)(hst:(assignEach es X.env).findIdx? (·.1)=none:=by rfl):PG X (.Tuple es k pos) (vY K' n t):=by
 subst hK;exact fq hc h hn hst
section
variable {X:Cx}
theorem oK(its:List Value)(k:Nat)(y:Value)(h:k<=its.length):(its.toArray.extract 0 k).push y++its.toArray.extract k=(its.take k++y::its.drop k).toArray:=by
 apply Array.ext';simp;exact Bs (by rw[BJ];exact AW _)
theorem Vals.cut{xs:List V}{us:List Value}(h:Vals xs us)(k:Nat):Vals (xs.take k) (us.take k)/\Vals (xs.drop k) (us.drop k):=by
 induction h generalizing k with
 |nil=>rw[List.take_nil,List.take_nil,List.drop_nil,List.drop_nil];exact⟨.nil,.nil⟩
 |cons a b ih=>
  cases k with
  |zero=>exact⟨.nil,.cons a b⟩
  |succ k=>exact⟨.cons a (ih k).1,(ih k).2⟩
theorem ja{prog:Program}{w:World}{A:Around}{E:Value->Shared->Prop}{s:Shared}{Q:Value->Shared->Prop}(l:Addr)(its:Array Value)(n:Nat)(k:Int)(t:Tok)(u2:Value)(h0:¬(!Builtin.List.listFitsIndex k)=true)(h1:its.size<=sizeLine)
  (e:s.heap.get? l=some {cls:=.type "list",data:=.seq its n})
  (h:Q .none {s with heap:=s.heap.update l (Obj.mapSeq fun xs=>(xs.extract 0 (if k<0 then (k+(xs.size:Int)).toNat else min k.toNat xs.size)).push u2++xs.extract (if k<0 then (k+(xs.size:Int)).toNat else min k.toNat xs.size))}):wpAny (model prog w) A (call (.builtin "list.insert") [.ref l,.int k t,u2]) Q E s:=by
 exact call_meets F.slot_list_insert ⟨_,e,rfl⟩ F.entry_list_insert (F.args_list_insert_3 (.ref l) (.int k t) u2) (PySem.AutoSeq1.list_insert_list_int_val_1 l its n k t u2 h0 h1) ⟨e,h⟩
def JN:V->List V->Hp->VK->Prop:=fun x vs H Q=>∃l xs y,∃k:Nat,x=.ref l/\vs=[.int (k:Int),y]/\H l=some (.lst xs)/\xs.length<sizeLine/\k<=xs.length/\Q .non (upd H l (.lst (xs.take k++y::xs.drop k)))
theorem Ie:MtM X "list.insert" JN:=by
 intro pins s σ H x vs v us Q I rx rv h;obtain⟨l,xs,y,k,rfl,rfl,hH,hz,hk,q⟩:=h;cases rx;obtain⟨u1,u2,rfl,r1,r2⟩:∃u1 u2,us=[u1,u2]/\RelV (.int (k:Int)) u1/\RelV y u2:=by
  cases rv with
  |cons r1 rv=>
  cases rv with
  |cons r2 rv=>
  cases rv;exact⟨_,_,rfl,r1,r2⟩
 obtain⟨t,rfl⟩:=r1;obtain⟨z,its,n,r,hl,e⟩:=I.HV hH;have hk':k<=its.length:=by lia
 have h0:¬(!Builtin.List.listFitsIndex (k:Int))=true:=by
  unfold Builtin.List.listFitsIndex;have h1:=sizeLine_eq;have h2:k<2^63:=Cn hk (CT hz (by rw[h1];decide));rw[Ea (by lia),Ea (by lia)];decide
 have h1:its.toArray.size<=sizeLine:=by rw[Bi];lia
 refine ja l its.toArray n (k:Int) t u2 h0 h1 e ⟨.non,_,I.KU (t':=s.toks) (its':=its.take k++u2::its.drop k) hH e ?_ ((Vals.cut r k).1.append (.cons r2 (Vals.cut r k).2)) ?_,rfl,q⟩
 ·rw[DY (by lia),Ck,Bi,BS hk'];exact oK its k u2 hk'
 ·rw[Ba,BA,Bq,BJ];lia
theorem HE:∀{us:List Value}{zs:List Str},StrsAre us zs->Vals (zs.map V.str) us
 |_,_,.nil=>.nil
 |_,_,.cons x t h=>.cons ⟨t,rfl⟩ (HE h)
def sQ (K:W.Frag):List V->Hp->VK->Prop:=fun xs H Q=>∃p zs,xs=[.ref p]/\SqL K H p (zs.map V.str)/\zs.length<64/\∀l zs',zs'.Perm zs->sortedS zs'=true->H l=none->Q (.ref l) (upd H l (.lst (zs'.map V.str)))
theorem Gn:cy X (.builtin "sorted") (sQ X.K):=by
 intro pins s σ H xs us Q I r h;obtain⟨p,zs,rfl,hq,h64,q⟩:=h;obtain⟨u,rfl,rx⟩:=dh r;cases rx;obtain⟨its,rv,pl,hz⟩:=I.list hq;have hl:=rv.length;rw[AX] at hl;refine sorted_strs pl.isList (strsOf rv) (by lia) fun out ss' a1 a2 a3=>?_;obtain⟨e,he⟩:=sortedAll_at s.heap its out;refine⟨.ref (s.heap.objs.size+1),_,I.laid (t':=s.toks) (o:=.lst (ss'.map V.str)) (fun _ _=>sortedAll_old) (BO _) ?_,rfl,q _ ss' a2 a3 (I.hok.fresh (BO _))⟩;refine⟨?_,out.toList,e,HE a1,?_⟩
 ·rw[AX,a2.length_eq];have:=sizeLine_eq;lia
 ·rw[DM];exact he
end
section
variable {prog:Program}{w:World}{A:Around}{E:Value->Shared->Prop}{s:Shared}
theorem ky{d:Addr}{od:Obj}{es:Array DictEntry}{ep:Nat}{Q:Value->Shared->Prop}(hs:(d==sysModules)=false)(hod:s.heap.get? d=some od)(hc:od.ExactDict)(hdd:od.data=.dict es ep)
  (hQ:Q (.ref s.heap.objs.size) {s with heap:=s.heap.push {cls:=.type "dict_keyiterator",data:=.fields #[.ref d,.int 0 0,.int es.size 0,.int ep 0]}}):wpAny (model prog w) A (pyIter (.ref d)) Q E s:=by
 have hT:s.TypeIs (.ref d) "dict":=⟨od,hod,hc.1⟩
 refine wpAny_pyIter_slot hT F.slot_dict_iter (Ez F.slot_dict_iter hT F.entry_dict_iter ?_ (F.args_dict_iter_1 _));unfold Builtin.«dict.__iter__»;refine DU ?_;unfold Builtin.Dict.dictSlotNone;refine DU (wpAny_notOrdered_dict hT ?_);show wpAny _ _ (pure (Value.ref d)) _ _ s;refine DV ?_;show wpAny _ _ (Builtin.Dict.showsAll d >>= _) _ _ s;unfold Builtin.Dict.showsAll;rw[DY (by rw[hs];decide)];refine DU (DV (DU (wpAny_dictEntries hod hdd (DU (wpAny_dictEpoch hod hdd ?_)))));refine DU (wpAny_newObj_type (DV ⟨_,rfl,"dict_keyiterator",_,⟨_,Et _ rfl,rfl⟩,F.slot_dict_keyiterator_next.lookup,by simpa [rawInt] using hQ⟩))
theorem pd{it d:Addr}{i ep:Nat}{od:Obj}{es:Array DictEntry}{Q:Option Value->Shared->Prop}(hit:s.heap.IsKeyIter it d i es.size ep)(hod:s.heap.get? d=some od)(hdd:od.data=.dict es ep)(hlt:i<es.size)
  (hQ:∀h',h'.IsKeyIter it d (i+1) es.size ep->Heap.SameBut it s.heap h'->Q (some es[i].key) {s with heap:=h'}):wpAny (model prog w) A (pyNext (.ref it)) Q E s:=by
 obtain⟨o,ho,hc,hd⟩:=id hit;unfold pyNext;refine DU (Ey (wpAny_callSpecial?_slot (name:=Str.ofString "__next__") hit.typeIs F.slot_dict_keyiterator_next (Ez F.slot_dict_keyiterator_next hit.typeIs F.entry_dict_keyiterator_next ?_ (F.args_dict_keyiterator_next_1 _))));refine DU (DV (DU (DU ?_)));(first|refine DU (wpAny_typeNameOfWhole_keyiter hit.typeIs (DV ?_))|refine DU (wpAny_typeNameOf_keyiter hit.typeIs (DV ?_)));refine DU (wpAny_fieldsOf ho hd ?_);have hown:Builtin.Dict_items.ownsTuple "dict_keyiterator"=false:=by decide
 simp only[hown,Cf,if_false];show wpAny _ _ (if (Value.ref d==Value.none)=true then _ else _) _ _ s;rw[DY (show ¬((Value.ref d==Value.none)=true) by intro z;cases z)];refine DU (DV (DU (wpAny_dictEntries hod hdd ?_)));rw[DY (by simp)];refine DU (DV (DU (wpAny_dictEpoch hod hdd ?_)));rw[DY (by simp)];refine DV ?_;simp only[show ¬((i:Int)<0) by lia,if_false,Ck,BL hlt];refine DU ?_
 (first|refine DU (wpAny_typeNameOfWhole_keyiter hit.typeIs (DV ?_))|refine DU (wpAny_typeNameOf_keyiter hit.typeIs (DV ?_)));refine DU (wpAny_isOneOf_keyiter hit.typeIs ?_)
 show wpAny _ _ (setField (.ref it) 1 (rawInt ((i:Int)+1)) >>= _) _ _ s;refine DU (wpAny_setField ho hd (by simp) ?_);have hit2:(s.heap.update it (Obj.mapFields (·.setIfInBounds 1 (rawInt ((i:Int)+1))))).IsKeyIter it d (i+1) es.size ep:=⟨_,Heap.get?_update_self _ ho (Obj.isFreed_of_fields (Obj.data_mapFields hd _)),(Obj.cls_mapFields ..).trans hc,by rw[Obj.data_mapFields hd];simp[rawInt]⟩
 refine DU (Ee (DU (wpAny_isOneOf_keyiter (s:={s with heap:=s.heap.update it (Obj.mapFields (·.setIfInBounds 1 (rawInt ((i:Int)+1))))}) hit2.typeIs ?_)));show wpAny _ _ (pure es[i].key) _ _ _;exact DV (DV ⟨_,rfl,DV (hQ _ hit2 (Heap.SameBut.update ..))⟩)
theorem rE{it d:Addr}{i ep:Nat}{od:Obj}{es:Array DictEntry}{Q:Option Value->Shared->Prop}(hh:A.handled=none)(hit:s.heap.IsKeyIter it d i es.size ep)(hod:s.heap.get? d=some od)(hdd:od.data=.dict es ep)(hge:es.size<=i)
  (hQ:∀h',Heap.ExtBut it s.heap h'->Q none {s with heap:=h'}):wpAny (model prog w) A (pyNext (.ref it)) Q E s:=by
 obtain⟨o,ho,hc,hd⟩:=id hit;unfold pyNext;refine DU (Ey (wpAny_callSpecial?_slot (name:=Str.ofString "__next__") hit.typeIs F.slot_dict_keyiterator_next (Ez F.slot_dict_keyiterator_next hit.typeIs F.entry_dict_keyiterator_next ?_ (F.args_dict_keyiterator_next_1 _))));refine DU (DV (DU (DU ?_)));(first|refine DU (wpAny_typeNameOfWhole_keyiter hit.typeIs (DV ?_))|refine DU (wpAny_typeNameOf_keyiter hit.typeIs (DV ?_)));refine DU (wpAny_fieldsOf ho hd ?_);have hown:Builtin.Dict_items.ownsTuple "dict_keyiterator"=false:=by decide
 simp only[hown,Cf,if_false];show wpAny _ _ (if (Value.ref d==Value.none)=true then _ else _) _ _ s;rw[DY (show ¬((Value.ref d==Value.none)=true) by intro z;cases z)];refine DU (DV (DU (wpAny_dictEntries hod hdd ?_)));rw[DY (by simp)];refine DU (DV (DU (wpAny_dictEpoch hod hdd ?_)));rw[DY (by simp)];refine DV ?_;simp only[show ¬((i:Int)<0) by lia,if_false,Ck,Array.getElem?_eq_none hge];refine DU ?_
 (first|refine DU (wpAny_typeNameOfWhole_keyiter hit.typeIs (DV ?_))|refine DU (wpAny_typeNameOf_keyiter hit.typeIs (DV ?_)));show wpAny _ _ (setField (.ref it) 0 .none >>= _) _ _ s
 refine DU (wpAny_setField ho hd (by simp) ?_);show wpAny _ _ (newExc (.type "StopIteration") [] >>= _) _ _ _;refine DU ?_;simp only[newExc,newTuple];refine DU (wpAny_newObj_type ?_ (by size_fits));refine DU (m:=firstArgMember _ _) (wpAny_of_eq (a:=Value.none) (by first|rfl|(simp only[firstArgMember];rfl)) ?_);refine wpAny_newObj_type ?_ (by size_fits);simp only[raiseNew];refine DU (wpAny_handled ?_);rw[show A.in1.handled=none from hh];refine DU (DV (wpAny_throw ?_));refine DU (wpAny_isInstance (T:="StopIteration") (b:=true) ⟨_,Et _ rfl,rfl⟩ isSubtype_stop ?_);exact DV (hQ _ (((Heap.SameBut.update ..).extBut.push _).push _))
end
section
variable {X:Cx}{pins:List (Addr×Obj)}{σ:St}{H:Hp}{s:Shared}
theorem Inv.freeze{a:Addr}{u:HO}{o:Obj}(I:Inv X pins σ H s)(e:H a=some u)(ho:s.heap.get? a=some o)(nt:∀xs,u≠.tup xs)(nf:∀o' u',u≠.frz o' u')(nb:∀ps,u≠.tbl ps)(no:∀x,u≠.own x):Inv X pins σ (upd H a (.frz o u)) s:=by
 have tu:∀b xs,H b=some (.tup xs)->upd H a (.frz o u) b=some (.tup xs):=fun b xs q=>by
  rw[ao (fun z=>by rw[z,e] at q;exact nt xs (Eh q))];exact q
 have ow:∀b x,H b=some (.own x)->upd H a (.frz o u) b=some (.own x):=fun b x q=>by
  rw[ao (fun z=>by rw[z,e] at q;exact no x (Eh q))];exact q
 refine I.un (h':=s.heap) (t':=s.toks) ⟨fun b ob q _ _ _=>q,fun b ob q _ _ _=>⟨ob.slots,q⟩,fun b ob _ n _=>?_,fun b ob q _=>⟨ob,q⟩,tu,fun b ob uu q=>?_,fun b ps q=>⟨#[],?_⟩⟩ fun b ub q=>?_
 ·rw[ao (fun z=>by rw[z,e] at n;cases n)];exact n
 ·rw[ao (fun z=>by rw[z,e] at q;exact nf ob uu (Eh q))];exact q
 ·rw[ao (fun z=>by rw[z,e] at q;exact nb ps (Eh q)),q];simp
 ·by_cases hb:b=a
  ·subst hb;rw[ae] at q;cases q;exact⟨ho,(I.hok b u e).Hr (fun _ _ _ q=>q) (fun c q=>ow c _ q) tu⟩
  ·rw[ao hb] at q;exact(I.hok b ub q).Hr (fun _ _ _ q=>q) (fun c q=>ow c _ q) tu
end
section
variable {X:Cx}{a b:Expr}{rest:List Expr}{pos:Pos}{ta tb:TE}
def tOrS (ta tb:TE):TE:=fun σ H Q=>ta σ H fun x H1=>∃z:Str,x=.str z/\z.length<=sizeLine/\if z.length=0 then tb σ H1 Q else Q (.str z) H1
theorem tJ(ha:PE X a ta)(hb:PE X (.BoolOp .Or (b::rest) pos) tb):PE X (.BoolOp .Or (a::b::rest) pos) (tOrS ta tb):=by
 intro pins s σ H Q I h;refine BoolOp_or (thn (ha pins s σ H _ I h) fun v s1 hq83=>?_);obtain⟨x,H1,I1,r1,q1⟩:=hq83;obtain⟨z,rfl,hz,q1⟩:=q1;obtain⟨t,rfl⟩:=r1;have hl:=FK;have hs:sizeLine=16777216:=sizeLine_eq;refine PySem.P.truthy_str (by lia) ?_;by_cases e:z.length=0
 ·rw[DZ e] at q1;have e2:((z.length:Int) != 0)=false:=by rw[e];rfl
  rw[e2];exact hb pins _ σ H1 Q (I1.tok _) q1
 ·rw[DY e] at q1;have e2:((z.length:Int) != 0)=true:=bne_iff_ne.mpr (by lia);rw[e2];exact⟨.str z,H1,I1.tok _,⟨_,rfl⟩,q1⟩
theorem oo{X:Cx}{tg}{l:Expr}{tl:TE}(K':W.Frag)(hK:X.K=K')(hl:PE X l tl):PI X tg l (ua K' tl):=by
 subst hK;exact aZ hl
end
section
variable {X:Cx}
def KD:V->List V->Hp->VK->Prop:=fun x vs H Q=>∃z y,x=.str z/\vs=[.str y]/\z.length<=sizeLine/\Q (.str (Txt.stripChars z y)) H
theorem IX:MtR X "str.strip" KD:=by
 intro pins s σ H x vs v us Q I rx rv h;obtain⟨z,i,rfl,rfl,hp,q⟩:=h;obtain⟨t,rfl⟩:=rx;obtain⟨u,rfl,t',rfl⟩:=rv.one;exact SC.stripChars (fun _ _=>⟨.str _,H,I.tok _,⟨_,rfl⟩,q⟩) hp
end
section
variable {prog:Program}{w:World}{A:Around}{R:Result->Shared->Prop}{s:Shared}{elt tg0 iter0 tg1 iter1:Expr}{ifs0 ifs1:List Expr}{scope:Scope}{pos:Pos}{it acc:Value}{env:Env}
abbrev cz(elt tg0 iter0 tg1 iter1:Expr)(ifs0 ifs1:List Expr)(scope:Scope)(pos:Pos):Expr:=.ListComp elt [⟨tg0,iter0,ifs0,0⟩,⟨tg1,iter1,ifs1,0⟩] scope pos
theorem Hk:compTurn (cz elt tg0 iter0 tg1 iter1 ifs0 ifs1 scope pos) 1 it acc env=(do
   standAt iter1.pos
   match <- pyNext it with
   |none=>pure (.done .next)
   |some v=>
    letOwnedTupleGo tg1 it v
    assign tg1 env v
    let mut ok:=true
    for c in ifs1 do
     if ok then ok <- isTrue c env (eval c env)
    if ok then
     (do let _ <- call (.builtin "list.append") [acc,<- eval elt env])
    again (.compLoop (cz elt tg0 iter0 tg1 iter1 ifs0 ifs1 scope pos) 1 it acc env)):=by rfl
theorem GX:compTurn (cz elt tg0 iter0 tg1 iter1 ifs0 ifs1 scope pos) 0 it acc env=(do
   standAt iter0.pos
   match <- pyNext it with
   |none=>pure (.done .next)
   |some v=>
    letOwnedTupleGo tg0 it v
    assign tg0 env v
    let mut ok:=true
    for c in ifs0 do
     if ok then ok <- isTrue c env (eval c env)
    if ok then
     let x <- eval iter1 env
     standAt iter1.pos
     let x <- foldedSetIterable iter1 env x
     let _ <- runOwn (.compStart (cz elt tg0 iter0 tg1 iter1 ifs0 ifs1 scope pos) 1 (<- holding [x] (pyIter x)) acc env) env
    again (.compLoop (cz elt tg0 iter0 tg1 iter1 ifs0 ifs1 scope pos) 0 it acc env)):=by rfl
theorem qP(I:Nat->Shared->Prop)
  (turn:∀n s,I n s->wpAny (model prog w) A (pyNext it) (fun r s₁=>match r with
   |none=>R (.ok .next) s₁
   | some v=>wpAny (model prog w) A (letOwnedTupleGo tg1 it v) (fun _ s₁'=>wpAny (model prog w) A (assign tg1 env v) (fun _ s₂ =>
     wpAny (model prog w) A (forIn ifs1 true fun c r=>if r=true then do let ok <- isTrue c env (eval c env); pure (ForInStep.yield ok) else pure (ForInStep.yield r)) (fun ok s₃ =>
      if ok=true then wpAny (model prog w) A (eval elt env) (fun x s₄ =>
       wpAny (model prog w) A (call (.builtin "list.append") [acc,x]) (fun _ s₅=>∃m,m < n/\I m s₅) (fun _ _=>False) s₄) (fun _ _=>False) s₃
      else ∃m,m < n/\I m s₃) (fun _ _=>False) s₂) (fun _ _=>False) s₁') (fun _ _=>False) s₁) (fun _ _=>False) s)
  (n:Nat) (h:I n s):codeAny (model prog w) A (.compLoop (cz elt tg0 iter0 tg1 iter1 ifs0 ifs1 scope pos) 1 it acc env) R s:=by
 refine codeAny_loop rfl I (fun n s hI=>?_) n h;show wpAny _ A ((compTurn (cz elt tg0 iter0 tg1 iter1 ifs0 ifs1 scope pos) 1 it acc env).onRaise (fun x=>do noteFrame x env;theTreesLotGoes x)) _ _ s;refine wpAny_noted ?_;rw[Hk];refine DU (wpAny_standAt (DU (Ed (turn n s hI) (fun r s₁ h₁=>?_) fun _ _ h'=>h'.elim)));cases r with
 |none=>exact DV h₁
 |some v=>
  refine DU (Ed h₁ (fun _ s₁' h₁'=>?_) fun _ _ h'=>h'.elim);refine DU (Ed h₁' (fun _ s₂ h₂=>DU (Ed h₂ (fun ok s₃ h₃=>?_) fun _ _ h'=>h'.elim)) fun _ _ h'=>h'.elim);cases ok with
  |false=>exact DV ⟨rfl,h₃⟩
  |true=>
   exact DU (DU (Ed h₃ (fun x s₄ h₄=>DU (Ed h₄ (fun _ s₅ h₅=>DV (DV ⟨rfl,h₅⟩)) fun _ _ h'=>h'.elim)) fun _ _ h'=>h'.elim))
theorem pN(hs:∀x,foldedSetIterable iter1 env x=pure x)(I:Nat->Shared->Prop)
  (turn:∀n s,I n s->wpAny (model prog w) A (pyNext it) (fun r s₁=>match r with
   |none=>R (.ok .next) s₁
   | some v=>wpAny (model prog w) A (letOwnedTupleGo tg0 it v) (fun _ s₁'=>wpAny (model prog w) A (assign tg0 env v) (fun _ s₂ =>
     wpAny (model prog w) A (forIn ifs0 true fun c r=>if r=true then do let ok <- isTrue c env (eval c env); pure (ForInStep.yield ok) else pure (ForInStep.yield r)) (fun ok s₃ =>
      if ok=true then wpAny (model prog w) A (eval iter1 env) (fun x s₄ =>
       wpAny (model prog w) A (pyIter x) (fun itv s₅=>codeAny (model prog w) A (.compStart (cz elt tg0 iter0 tg1 iter1 ifs0 ifs1 scope pos) 1 itv acc env) (fun r s₆=>r=.ok .next/\∃m,m < n/\I m s₆) s₅) (fun _ _=>False) s₄) (fun _ _=>False) s₃
      else ∃m,m < n/\I m s₃) (fun _ _=>False) s₂) (fun _ _=>False) s₁') (fun _ _=>False) s₁) (fun _ _=>False) s)
  (n:Nat) (h:I n s):codeAny (model prog w) A (.compLoop (cz elt tg0 iter0 tg1 iter1 ifs0 ifs1 scope pos) 0 it acc env) R s:=by
 refine codeAny_loop rfl I (fun n s hI=>?_) n h;show wpAny _ A ((compTurn (cz elt tg0 iter0 tg1 iter1 ifs0 ifs1 scope pos) 0 it acc env).onRaise (fun x=>do noteFrame x env;theTreesLotGoes x)) _ _ s;refine wpAny_noted ?_;rw[GX];refine DU (wpAny_standAt (DU (Ed (turn n s hI) (fun r s₁ h₁=>?_) fun _ _ h'=>h'.elim)));cases r with
 |none=>exact DV h₁
 |some v=>
  refine DU (Ed h₁ (fun _ s₁' h₁'=>?_) fun _ _ h'=>h'.elim);refine DU (Ed h₁' (fun _ s₂ h₂=>DU (Ed h₂ (fun ok s₃ h₃=>?_) fun _ _ h'=>h'.elim)) fun _ _ h'=>h'.elim);cases ok with
  |false=>exact DV ⟨rfl,h₃⟩
  |true=>
   refine DU (Ed h₃ (fun x s₄ h₄=>DU (wpAny_standAt ?_)) fun _ _ h'=>h'.elim);rw[hs];refine DU (DV (DU (Ee (Ed h₄ (fun itv s₅ h₅=>?_) fun _ _ h'=>h'.elim))));refine DU (wpAny_runOwn (codeAny_mono h₅ fun r s₆ h₆=>?_));obtain⟨rfl,h7⟩:=h₆;exact DV ⟨rfl,h7⟩
theorem oY(h0:codeAny (model prog w) A (.compLoop (cz elt tg0 iter0 tg1 iter1 ifs0 ifs1 scope pos) 1 it acc env) R s)
  (h:wpAny (model prog w) A (pyIter it) (fun it' s'=>codeAny (model prog w) A (.compLoop (cz elt tg0 iter0 tg1 iter1 ifs0 ifs1 scope pos) 1 it' acc env) R s')
   (notedBy (model prog w) A env fun x s'=>R (.error x) s') s) :
  codeAny (model prog w) A (.compStart (cz elt tg0 iter0 tg1 iter1 ifs0 ifs1 scope pos) 1 it acc env) R s:=by
 refine codeAny_of_tree ?_;show wpAny _ _ ((compStart (cz elt tg0 iter0 tg1 iter1 ifs0 ifs1 scope pos) 1 it acc env).onRaise (fun x=>do noteFrame x env;standAt theWindowsPlace)) _ _ s;refine wpAny_notedAt ?_;unfold compStart;show wpAny _ _ (ask >>= _) _ _ s;refine DU (wpAny_askSetting (wpAny_ite ?_));split
 ·first
   |exact DU (DV (DV (And.intro rfl h0)))
   |exact DV (And.intro rfl h0)
 ·first
   |exact DU (EB (DU (wpAny_standAt (DU (Ed h (fun it' s' h'=>DV (And.intro rfl h')) fun _ _ x=>x)))))
   |(refine DU (EB ?_);show wpAny _ _ (standAt iter1.pos >>= _) _ _ s;exact DU (wpAny_standAt (DU (Ed h (fun it' s' h'=>DV (And.intro rfl h')) fun _ _ x=>x))))
end
def fX (J:It)(g:TG)(tc:TT)(te:TE)(σ:St)(H:Hp)(ys:List V)(Q:List V->Hp->Prop):Prop:=
 ∃W:Nat->Nat->St->List V->Hp->Prop,(∃m,W 0 m σ ys H)/\∀j m σ ys H,W j m σ ys H ->
  (J.stop j H/\ys.length<=sizeLine/\Q ys H) \/
  (J.go j H/\ys.length<sizeLine/\∀x H',J.yld j H x H'->g x σ H' fun σ2 H2=>tc σ2 H2 fun b H3=>if b=true then te σ2 H3 fun y H4=>∃m',m'<m/\W (j+1) m' σ2 (ys++[y]) H4 else ∃m',m'<m/\W (j+1) m' σ2 ys H3)
def jZ (J:It)(k:Nat)(js:List Nat)(g:TG)(tc:TT)(wi1:TI)(g1:TG)(tc1:TT)(te:TE)(σ:St)(H1:Hp)(Q:VK):Prop:=
 ∃W:Nat->Nat->List V->Hp->Prop,(∃m,W 0 m [] H1)/\∀i m ys H,W i m ys H ->
  (J.stop i H/\ys.length<=sizeLine/\∀p,H p=none->Q (.ref p) (upd H p (.lst ys))) \/
  (J.go i H/\∀x H',J.yld i H x H'->g x (List.replicate k none++bJ js σ) H' fun σ2 H2=>tc σ2 H2 fun b H3 =>
   if b=true then wi1 σ2 H3 fun J1 H4=>fX J1 g1 tc1 te σ2 H4 ys fun ys' H5=>∃m',m' < m/\W (i+1) m' ys' H5 else ∃m',m' < m/\W (i+1) m' ys H3)
def qj (wi:TI)(k:Nat)(js:List Nat)(g:TG)(tc:TT)(wi1:TI)(g1:TG)(tc1:TT)(te:TE):TE:=fun σ H Q=>wi σ H fun J H1=>jZ J k js g tc wi1 g1 tc1 te σ H1 Q
section
variable {X:Cx}{scope:Scope}{ts cap:List Str}{js:List Nat}{elt tg0 iter0 tg1 iter1:Expr}{ifs0 ifs1:List Expr}{pos:Pos}
theorem kR{s0:Shared}{H0:Hp}{C:Addr}{fp:List Addr}{P:List (Addr×Obj)}{D:Addr}{its0:List Value}{n0:Nat}{ys0:List V}{σ:St}{H:Hp}{s:Shared}{J:It}{fp1:List Addr}{it1:Addr}{tn1:Nat->Heap->Prop}{g1:TG}{tc1:TT}{te:TE}{Q:List V->Hp->Prop}{R:Result->Shared->Prop}
  (hc:X.calm=true)(I:Inv (ax X scope C fp (ts++cap) s0 H0) ([(D,bL its0 n0)]++P) σ H s)(v0:Vals ys0 its0)(T:Turn X.prog X.w X.K tg1 J fp1 it1 tn1)(st:tn1 0 s.heap)(hf:∀b∈fp1,EW (ax X scope C fp (ts++cap) s0 H0) ([(D,bL its0 n0)]++P) H b)
  (hD0:D∈(ax X scope C fp (ts++cap) s0 H0).ex\/s0.heap.get? D=none)(hDc:∀x c,(ax X scope C fp (ts++cap) s0 H0).env.cells.lookup x=some c->c≠D)(hDp:∀p∈X.pn++P,p.1≠D)
  (hg:PG (ax X scope C fp (ts++cap) s0 H0) tg1 g1)(ht:PTs (ax X scope C fp (ts++cap) s0 H0) ifs1 tc1)(he:PE (ax X scope C fp (ts++cap) s0 H0) elt te)
  (cv:fX J g1 tc1 te σ H ys0 Q)
  (hR:∀σ' ys its n H' s',Inv (ax X scope C fp (ts++cap) s0 H0) ([(D,bL its n)]++P) σ' H' s'->Vals ys its->Q ys H'->R (.ok .next) s') :
  codeAny (model X.prog X.w) X.A (.compStart (cz elt tg0 iter0 tg1 iter1 ifs0 ifs1 scope pos) 1 (.ref it1) (.ref D) (compEnvC scope (bU X.env.cells scope.names []) C X.env)) R s:=by
 obtain⟨W,⟨m0,w0⟩,turn⟩:=cv;have stat:∀{H':Hp}{its:List Value}{n:Nat},(∀b∈fp1,H' b=none)->∀b∈fp1,EW (ax X scope C fp (ts++cap) s0 H0) ([(D,bL its n)]++P) H' b:=fun {H' its n} hn b hb=>by
  obtain⟨f0,f1,f2,f3,f4,f5⟩:=hf b hb;refine⟨hn b hb,f1,f2,f3,f4,fun p hp=>?_⟩;rcases Bb.mp hp with z|z
  ·exact f5 p (Bn _ z)
  ·rcases Bb.mp z with z|z
   ·have e:p=(D,bL its n):=by simpa using z
    subst e;exact f5 (D,bL its0 n0) (AY _ (Bn _ Bj))
   ·exact f5 p (AY _ (AY _ z))
 have nfp:∀b∈fp1,b≠D:=fun b hb=>by
  obtain⟨f0,f1,f2,f3,f4,f5⟩:=hf b hb;exact Er (f5 (D,bL its0 n0) (AY _ (Bn _ Bj)))
 have loop:∀s3:Shared,s3=s->codeAny (model X.prog X.w) X.A (.compLoop (cz elt tg0 iter0 tg1 iter1 ifs0 ifs1 scope pos) 1 (.ref it1) (.ref D) (compEnvC scope (bU X.env.cells scope.names []) C X.env)) R s3:=by
  rintro s3 rfl;refine qP (fun k s'=>∃j σ' H' ys its n,Inv (ax X scope C fp (ts++cap) s0 H0) ([(D,bL its n)]++P) σ' H' s'/\Vals ys its/\tn1 j s'.heap/\(∀b∈fp1,H' b=none)/\W j k σ' ys H') ?_ m0
   ⟨0,σ,H,ys0,its0,n0,I,v0,st,fun b hb=>(hf b hb).1,w0⟩
  rintro k s3 ⟨j,σ3,H3,ys,its,n,I3,v3,st3,fr3,w3⟩;rcases turn j k σ3 ys H3 w3 with ⟨stop,hz,fin⟩|⟨go,hz,step⟩
  ·refine thn (T.done (ax X scope C fp (ts++cap) s0 H0) rfl rfl rfl hc j _ s3 _ H3 _ I3 (stat fr3) st3 stop) fun r s4 hq84=>?_;obtain⟨hr,I4⟩:=hq84;subst hr;exact hR _ _ _ _ _ _ I4 v3 fin
  ·refine thn (T.item (ax X scope C fp (ts++cap) s0 H0) rfl rfl rfl hc j _ s3 _ H3 _ I3 (stat fr3) st3 go) fun r s4 hq85=>?_;obtain⟨u,hr,h4⟩:=hq85;subst hr;refine thn h4 fun _ s5 hq86=>?_;obtain⟨x,H5,I5,r5,y5,st5,fr5⟩:=hq86;have I5':=I5.pinned (stat fr5) (T.obj _ _ st5);refine thn (hg _ s5 _ H5 x u _ I5' r5 (step x H5 y5)) fun _ s6 hq87=>?_;obtain⟨σ6,H6,I6,q6⟩:=hq87;refine thn (ht _ s6 σ6 H6 _ I6 q6) fun ok s7 hq88=>?_;obtain⟨H7,I7,q7⟩:=hq88;have pinned:∀{σ':St}{H':Hp}{s':Shared},Inv (ax X scope C fp (ts++cap) s0 H0) ([(D,bL its n)]++P++bO fp1 s5.heap) σ' H' s'->tn1 (j+1) s'.heap/\∀b∈fp1,H' b=none:=fun {σ' H' s'} J'=>by
    refine⟨T.keep _ _ _ st5 fun b hb o e=>(J'.pin (b,o) (AY _ (AY _ (aS hb e)))).1,fun b hb=>?_⟩;obtain⟨o,e,d⟩:=T.obj _ _ st5 b hb;exact(J'.pin (b,o) (AY _ (AY _ (aS hb e)))).2.1
   cases ok with
   |false=>
    rw[DY Bt] at q7 ⊢;obtain⟨m',hm,w7⟩:=q7;obtain⟨st7,fr7⟩:=pinned I7;exact⟨m',hm,j+1,σ6,H7,ys,its,n,I7.ES,v3,st7,fr7,w7⟩
   |true=>
    rw[DZ rfl] at q7 ⊢;refine thn (he _ s7 σ6 H7 _ I7 q7) fun yv s8 hq89=>?_;obtain⟨y,H8,I8,r8,m',hm,w8⟩:=hq89;obtain⟨st8,fr8⟩:=pinned I8;have I8':=I8.ES;obtain⟨hDg,hDn,hDC',hDs,hDd⟩:=I8'.pin (D,bL its n) (AY _ (Bn _ Bj));have hl:=v3.length;refine append_at (hsz:=by rw[Bi];lia) hDg fun h9 hs9 hD9=>?_;have tracked:∀b o,b≠D->s8.heap.get? b=some o->h9.get? b=some o:=fun b o hb e=>hs9.extBut b o hb e;have I9:Inv (ax X scope C fp (ts++cap) s0 H0) ([(D,bL (its++[yv]) (n+1))]++P) σ6 H8 {s8 with heap:=h9}:=by
     have J0:Inv (ax X scope C fp (ts++cap) s0 H0) P σ6 H8 s8:=I8'.Fo (fun p hp=>I8'.pin p (AY _ (AY _ hp)));have J1:Inv (ax X scope C fp (ts++cap) s0 H0) P σ6 H8 {s8 with heap:=h9,toks:=s8.toks}:=J0.turned (it:=D) tracked hDn hDC' hD0 hDc hDp;refine J1.Fo fun p hp=>?_;rcases Bb.mp hp with z|z
     ·have e:p=(D,bL (its++[yv]) (n+1)):=by simpa using z
      subst e;refine⟨?_,hDn,hDC',hDs,fun v z=>by cases z⟩;show h9.get? D=_;rw[hD9];simp[bL,Dz]
     ·exact J1.pin p (AY _ z)
    have st9:tn1 (j+1) h9:=T.keep _ _ _ st8 fun b hb o e=>tracked b o (nfp b hb) e;exact⟨m',hm,j+1,σ6,H8,ys++[y],its++[yv],n+1,I9,v3.append (.cons r8 .nil),st9,fr8,w8⟩
 exact oY (loop _ rfl) (T.self _ _ _ _ _ st (loop _ rfl))
theorem fg{pins:List (Addr×Obj)}{σ:St}{H:Hp}{s:Shared}{fp:List Addr}{g:TG}{tc:TT}{wi1:TI}{g1:TG}{tc1:TT}{te:TE}{J:It}{it:Addr}{tn:Nat->Heap->Prop}{W:Nat->Nat->List V->Hp->Prop}{m0:Nat}{E:Value->Shared->Prop}
  {RR:Value->Addr->Result->Shared->Prop}{Fin:List V->Hp->Prop}(hc:X.calm=true)
  (I:Inv X pins σ H s)(T:Turn X.prog X.w X.K tg0 J fp it tn)(st:tn 0 s.heap)(hf:∀b∈fp,EW X pins H b)(CS:aM X scope ts cap js)
  (hg:∀C fp s H,PG (ax X scope C fp (ts++cap) s H) tg0 g)(ht:∀C fp s H,PTs (ax X scope C fp (ts++cap) s H) ifs0 tc)(hi1:∀C fp s H,PI (ax X scope C fp (ts++cap) s H) tg1 iter1 wi1)
  (hg1:∀C fp s H,PG (ax X scope C fp (ts++cap) s H) tg1 g1)(ht1:∀C fp s H,PTs (ax X scope C fp (ts++cap) s H) ifs1 tc1)(he:∀C fp s H,PE (ax X scope C fp (ts++cap) s H) elt te)
  (hs1:∀C x,foldedSetIterable iter1 (compEnvC scope (bU X.env.cells scope.names []) C X.env) x=pure x)
  (w0:W 0 m0 [] H)
  (turn:∀i m ys H,W i m ys H->(J.stop i H/\ys.length<=sizeLine/\Fin ys H)\/(J.go i H/\∀x H',J.yld i H x H'->g x (List.replicate ts.length none++bJ js σ) H' fun σ2 H2=>tc σ2 H2 fun b H3 =>
   if b=true then wi1 σ2 H3 fun J1 H4=>fX J1 g1 tc1 te σ2 H4 ys fun ys' H5=>∃m',m' < m/\W (i+1) m' ys' H5 else ∃m',m' < m/\W (i+1) m' ys H3))
  (hRR:∀D C s' H' ys m,Inv X pins σ (upd H' D (.lst ys)) s'->s'.heap.Ns C m->s.heap.objs.size<=C->s.heap.objs.size<=D->C≠D->H' C=none->H' D=none->Fin ys H'->RR (.ref D) C (.ok .next) s') :
  (wq X) (newList []) (fun acc s₃=>(wq X) (newFunctionEnv scope X.env.globals (bU X.env.cells scope.names []) [] X.env.qual none .none (some X.env)) (fun cenv s₄ =>
   codeAny (model X.prog X.w) X.A (.compStart (cz elt tg0 iter0 tg1 iter1 ifs0 ifs1 scope pos) 0 (.ref it) acc { cenv with scope:=relabel scope X.env }) (RR acc cenv.locals) s₄) E s₃) E s:=by
 have TA:∀C,He (ax X scope C fp (ts++cap) s H) tg0 J fp it tn:=fun C=>⟨T.item (ax X scope C fp (ts++cap) s H) rfl rfl rfl hc,T.done (ax X scope C fp (ts++cap) s H) rfl rfl rfl hc⟩
 refine wpAny_newObj_type (wpAny_newFunctionEnv CS.Hu (by intro y hy;simp at hy) (fun h₁ hns₁ hsb₁=>?_) CS.kind);dsimp only at hns₁ hsb₁ ⊢;generalize hH2:s.heap.push {cls:=.type "list",dict:=none,data:=.seq ([]:List Value).toArray}=H2 at hns₁ hsb₁ ⊢;have hCs:H2.objs.size=s.heap.objs.size+1:=by rw[<- hH2,EA]
 have hDC:s.heap.objs.size≠H2.objs.size:=by rw[hCs];exact AZ (Cb _)
 have hCle:s.heap.objs.size<=H2.objs.size:=by rw[hCs];exact BO _
 have below:∀b,b<s.heap.objs.size->b≠H2.objs.size:=fun b hb=>by rw[hCs];exact AZ (BP hb)
 have old:∀b o,s.heap.get? b=some o->h₁.get? b=some o:=fun b o e=>hsb₁.extBut b o (below b (Eg e)) (Es _ (hH2▸Es _ e));have hacc:h₁.get? s.heap.objs.size=some (bL [] 0):=hsb₁.extBut _ _ hDC (Es _ (hH2▸Et _ rfl));have hfl:∀b∈fp,b<s.heap.objs.size:=fun b hb=>by obtain⟨o,e,_⟩:=T.obj _ _ st b hb;exact Eg e
 have st₁:tn 0 h₁:=T.keep _ _ _ st fun b _ o e=>old b o e;have hDstk:s.heap.objs.size∉frs X.stack:=fun z=>by
  obtain⟨_,o,ho,_⟩:=I.stack.mem z;exact absurd (Eg ho) (Bx _)
 have I0:Inv (ax X scope H2.objs.size fp (ts++cap) s H) [(s.heap.objs.size,bL [] 0)] (List.replicate ts.length none++bJ js σ) H {s with heap:=h₁,toks:=s.toks+([]:List (Str×Value)).length}:=
  jJ I CS hf hfl hCle old hns₁ rfl I.bare fun p hp=>by
   have e:p=(s.heap.objs.size,bL [] 0):=by simpa using hp
   subst e;exact⟨hacc,I.hok.fresh (AW _),hDC,hDstk,fun v z=>by cases z⟩
 have stat:∀{H':Hp}{ys:List Value}{n:Nat},(∀b∈fp,H' b=none)->∀b∈fp,EW (ax X scope H2.objs.size fp (ts++cap) s H) [(s.heap.objs.size,bL ys n)] H' b:=fun {H' ys n} hn b hb=>by
  obtain⟨f0,f1,f2,f3,f4,f5⟩:=hf b hb;refine⟨hn b hb,below b (hfl b hb),?_,.inl hb,fun x c e=>f4 x c (CS.look I.ok e),fun p hp=>?_⟩
  ·exact(eY I CS hf hfl hCle).HX b hb
  ·rcases Bb.mp hp with z|z
   ·exact f5 p (Bn _ z)
   ·have e:p=(s.heap.objs.size,bL ys n):=by simpa using z
    subst e;intro q;have q':s.heap.objs.size=b:=q;exact absurd (hfl b hb) (by rw[<- q'];exact Bx _)
 have loop:∀s₃:Shared,s₃={s with heap:=h₁,toks:=s.toks+([]:List (Str×Value)).length} ->
   codeAny (model X.prog X.w) X.A (.compLoop (cz elt tg0 iter0 tg1 iter1 ifs0 ifs1 scope pos) 0 (.ref it) (.ref s.heap.objs.size) (compEnvC scope (bU X.env.cells scope.names []) H2.objs.size X.env))
    (RR (.ref s.heap.objs.size) H2.objs.size) s₃:=by
  rintro s₃ rfl;refine pN (hs1 _) (fun k s'=>∃i H' ys its n,Inv (ax X scope H2.objs.size fp (ts++cap) s H) [(s.heap.objs.size,bL its n)] (List.replicate ts.length none++bJ js σ) H' s'/\Vals ys its/\tn i s'.heap/\(∀b∈fp,H' b=none)/\W i k ys H') ?_ m0
   ⟨0,H,[],[],0,I0,.nil,st₁,fun b hb=>(hf b hb).1,w0⟩
  rintro k s3 ⟨i,H3,ys,its,n,I3,v3,st3,fr3,w3⟩;rcases turn i k ys H3 w3 with ⟨stop,hz,fin⟩|⟨go,step⟩
  ·refine thn ((TA _).done i _ s3 _ H3 _ I3 (stat fr3) st3 stop) fun r s4 hq90=>?_;obtain⟨hr,I4⟩:=hq90;subst hr;obtain⟨m4,hn4,_⟩:=I4.loc;exact hRR _ _ s4 H3 ys m4 (dO I hf hCle (AW _) I4 v3 hz) hn4 hCle (AW _) (Er hDC) I4.free (I4.pin (s.heap.objs.size,bL its n) (AY _ Bj)).2.1 fin
  ·refine thn ((TA _).item i _ s3 _ H3 _ I3 (stat fr3) st3 go) fun r s4 hq91=>?_;obtain⟨u,hr,h4⟩:=hq91;subst hr;refine thn h4 fun _ s5 hq92=>?_;obtain⟨x,H5,I5,r5,y5,st5,fr5⟩:=hq92;have I5':=I5.pinned (stat fr5) (T.obj _ _ st5);refine thn (hg _ _ _ _ _ s5 _ H5 x u _ I5' r5 (step x H5 y5)) fun _ s6 hq93=>?_;obtain⟨σ6,H6,I6,q6⟩:=hq93;refine thn (ht _ _ _ _ _ s6 σ6 H6 _ I6 q6) fun ok s7 hq94=>?_;obtain⟨H7,I7,q7⟩:=hq94;have pinned:∀{σ':St}{H':Hp}{s':Shared},Inv (ax X scope H2.objs.size fp (ts++cap) s H) ([(s.heap.objs.size,bL its n)]++bO fp s5.heap) σ' H' s'->tn (i+1) s'.heap/\∀b∈fp,H' b=none:=fun {σ' H' s'} J=>by
    refine⟨T.keep _ _ _ st5 fun b hb o e=>(J.pin (b,o) (AY _ (AY _ (aS hb e)))).1,fun b hb=>?_⟩;obtain⟨o,e,d⟩:=T.obj _ _ st5 b hb;exact(J.pin (b,o) (AY _ (AY _ (aS hb e)))).2.1
   cases ok with
   |false=>
    rw[DY Bt] at q7 ⊢;obtain⟨m',hm,w7⟩:=q7;obtain⟨st7,fr7⟩:=pinned I7;exact⟨m',hm,i+1,H7,ys,its,n,bE I CS hf I7.ES,v3,st7,fr7,w7⟩
   |true=>
    rw[DZ rfl] at q7 ⊢;refine thn (hi1 _ _ _ _ _ s7 σ6 H7 _ I7 q7) fun xv s8 h8=>thn h8 fun itv s9 h9=>?_;obtain⟨it1,fp1,tn1,J1,H9,e9,I9,T1,st9,f9,cv⟩:=h9;subst e9;refine kR (D:=s.heap.objs.size) (its0:=its) (n0:=n) (P:=bO fp s5.heap) hc I9 v3 T1 st9 f9 (.inr (Heap.get?_none_of_le (AW _))) (fun x c e q=>?_) (fun p hp q=>?_) (hg1 _ _ _ _) (ht1 _ _ _ _) (he _ _ _ _) cv (fun σ' ys' its' n' H' s' I' v' q'=>⟨rfl,?_⟩)
    ·obtain⟨v,o,ho,_⟩:=I.cell x c (CS.look I.ok e);rw[q] at ho;exact absurd (Eg ho) (Bx _)
    ·rcases Bb.mp hp with z|z
     ·obtain⟨e,_⟩:=I.pin p (Bn _ z);rw[q] at e;exact absurd (Eg e) (Bx _)
     ·obtain⟨hb,_⟩:=gY z;exact absurd (hfl _ hb) (by rw[q];exact Bx _)
    ·obtain⟨m',hm,w8⟩:=q';have st8:tn (i+1) s'.heap:=T.keep _ _ _ st5 fun b hb o e=>(I'.pin (b,o) (AY _ (AY _ (aS hb e)))).1;have fr8:∀b∈fp,H' b=none:=fun b hb=>by
      obtain⟨o,e,d⟩:=T.obj _ _ st5 b hb;exact(I'.pin (b,o) (AY _ (AY _ (aS hb e)))).2.1
     exact⟨m',hm,i+1,H',ys',its',n',bE I CS hf I'.ES,v',st8,fr8,w8⟩
 exact codeAny_compStart_list (loop _ rfl) (T.self _ _ _ _ _ st₁ (loop _ rfl))
theorem oE{wi:TI}{g:TG}{tc:TT}{wi1:TI}{g1:TG}{tc1:TT}{te:TE}(hc:X.calm=true)(CS:aM X scope ts cap js)(hi:PI X tg0 iter0 wi)(hg:∀C fp s H,PG (ax X scope C fp (ts++cap) s H) tg0 g)
  (ht:∀C fp s H,PTs (ax X scope C fp (ts++cap) s H) ifs0 tc)(hi1:∀C fp s H,PI (ax X scope C fp (ts++cap) s H) tg1 iter1 wi1)
  (hg1:∀C fp s H,PG (ax X scope C fp (ts++cap) s H) tg1 g1)(ht1:∀C fp s H,PTs (ax X scope C fp (ts++cap) s H) ifs1 tc1)(he:∀C fp s H,PE (ax X scope C fp (ts++cap) s H) elt te)
  (hs1:∀C x,foldedSetIterable iter1 (compEnvC scope (bU X.env.cells scope.names []) C X.env) x=pure x:=by intro _ _;rfl)
  (hs:∀x,foldedSetIterable iter0 X.env x=pure x:=by intro _;rfl):PE X (.ListComp elt [⟨tg0,iter0,ifs0,0⟩,⟨tg1,iter1,ifs1,0⟩] scope pos) (qj wi ts.length js g tc wi1 g1 tc1 te):=by
 intro pins s σ H Q I h;rw[eval_ListComp];refine wpAny_comprehension_free (use:=none) rfl hs (bf (CS.cells I.ok)) CS.kind CS.names (thn (hi pins s σ H _ I h) fun v s1 h1=>thn h1 fun itv s2 h2=>?_);obtain⟨it,fp,tn,J,H2,e,I2,T,st2,f2,W,⟨m0,w0⟩,turn⟩:=h2;subst e;refine fg (RR:=fun acc C=>compPost (model X.prog X.w) X.A X.xe none (EP X pins σ Q) acc C) hc I2 T st2 f2 CS hg ht hi1 hg1 ht1 he hs1 w0 turn ?_;intro D C s' H' ys m I' hn hC hD hCD hHC hHD fin;have szL:=I2.lt;have low:∀b o,s2.heap.get? b=some o->b≠C:=fun b o e=>AZ (Bc (Eg e) hC);refine⟨m,hn,fun h' hs'=>⟨.ref D,_,bK (n0:=0) I' (Heap.get?_none_of_le (Bm I2.sz hC)) (AZ (Bc szL hC)) (fun x c e=>?_) (fun p hp=>?_) (by rw[ao hCD];exact hHC) hs',rfl,fin D hHD⟩⟩
 ·obtain⟨v,o,ho,_⟩:=I2.cell x c e;exact low c o ho
 ·exact low _ _ (I2.pin p hp).1
end
def NxV (n j:Nat)(P:Nat->St->List V->Hp->Prop)(σ:St)(ys:List V)(H:Hp):Prop:=∃m',m'<n-j/\(m'=n-(j+1)/\j+1<=n/\P (j+1) σ ys H)
theorem NxV.mk{n j:Nat}{P:Nat->St->List V->Hp->Prop}{σ:St}{ys:List V}{H:Hp}(hj:j<n)(h:P (j+1) σ ys H):NxV n j P σ ys H:=⟨n-(j+1),by lia,rfl,hj,h⟩
theorem kq{J:It}{n:Nat}{g:TG}{tc:TT}{te:TE}{σ0:St}{H0:Hp}{ys0:List V}{Q:List V->Hp->Prop}(P:Nat->St->List V->Hp->Prop)(h0:P 0 σ0 ys0 H0)(hz:∀j σ ys H,j<=n->P j σ ys H->ys.length<sizeLine)
  (hgo:∀j σ ys H,j<n->P j σ ys H->J.go j H)(hstop:∀σ ys H,P n σ ys H->J.stop n H)
  (hs:∀j σ ys H x H',j<n->P j σ ys H->J.yld j H x H'->g x σ H' fun σ2 H2=>tc σ2 H2 fun b H3=>if b=true then te σ2 H3 fun y H4=>NxV n j P σ2 (ys++[y]) H4 else NxV n j P σ2 ys H3)
  (hd:∀σ ys H,P n σ ys H->Q ys H):fX J g tc te σ0 H0 ys0 Q:=by
 refine⟨fun j m σ ys H=>m=n-j/\j<=n/\P j σ ys H,⟨n,by simp,Bo _,h0⟩,?_⟩;rintro j m σ ys H ⟨rfl,hj,p⟩;have hy:=hz j σ ys H hj p;by_cases hlt:j<n
 ·exact .inr ⟨hgo j σ ys H hlt p,hy,fun x H' y=>hs j σ ys H x H' hlt p y⟩
 ·have e:j=n:=by lia
  subst e;exact .inl ⟨hstop σ ys H p,BF hy,hd σ ys H p⟩
theorem jS{J:It}{n k:Nat}{js:List Nat}{g:TG}{tc:TT}{wi1:TI}{g1:TG}{tc1:TT}{te:TE}{σ:St}{H:Hp}{Q:VK}(P:Nat->List V->Hp->Prop)(h0:P 0 [] H)(hz:∀i ys H,i<=n->P i ys H->ys.length<=sizeLine)
  (hgo:∀i ys H,i<n->P i ys H->J.go i H)(hstop:∀ys H,P n ys H->J.stop n H)
  (hs:∀i ys H x H',i<n->P i ys H->J.yld i H x H'->g x (List.replicate k none++bJ js σ) H' fun σ2 H2=>tc σ2 H2 fun b H3=>if b=true then wi1 σ2 H3 fun J1 H4=>fX J1 g1 tc1 te σ2 H4 ys fun ys' H5=>Nx n i P ys' H5 else Nx n i P ys H3)
  (hd:∀ys H,P n ys H->∀p,H p=none->Q (.ref p) (upd H p (.lst ys))):jZ J k js g tc wi1 g1 tc1 te σ H Q:=by
 refine⟨fun i m ys H=>m=n-i/\i<=n/\P i ys H,⟨n,by simp,Bo _,h0⟩,?_⟩;rintro i m ys H ⟨rfl,hi,p⟩;have hy:=hz i ys H hi p;by_cases hlt:i<n
 ·exact .inr ⟨hgo i ys H hlt p,fun x H' y=>hs i ys H x H' hlt p y⟩
 ·have e:i=n:=by lia
  subst e;exact .inl ⟨hstop ys H p,hy,hd ys H p⟩
theorem uF{lo:Int}{n:Nat}{g:TG}{tc:TT}{te:TE}{σ0:St}{H0:Hp}{ys0:List V}{Q:List V->Hp->Prop}(P:Nat->St->List V->Hp->Prop)(h0:P 0 σ0 ys0 H0)(hz:∀j σ ys H,j<=n->P j σ ys H->ys.length<sizeLine)
  (hs:∀j σ ys H,j<n->P j σ ys H->g (.int (lo+j)) σ H fun σ2 H2=>tc σ2 H2 fun b H3=>if b=true then te σ2 H3 fun y H4=>NxV n j P σ2 (ys++[y]) H4 else NxV n j P σ2 ys H3)
  (hd:∀σ ys H,P n σ ys H->Q ys H):fX (Itr lo n) g tc te σ0 H0 ys0 Q:=
 kq P h0 hz (fun _ _ _ _ h _=>h) (fun _ _ _ _=>AW _) (fun j σ ys H x H' hj p y=>by obtain⟨e,y⟩:=y;subst e y;exact hs j σ ys _ hj p) hd
theorem tN{lo:Int}{n k:Nat}{js:List Nat}{g:TG}{tc:TT}{wi1:TI}{g1:TG}{tc1:TT}{te:TE}{σ:St}{H:Hp}{Q:VK}(P:Nat->List V->Hp->Prop)(h0:P 0 [] H)(hz:∀i ys H,i<=n->P i ys H->ys.length<=sizeLine)
  (hs:∀i ys H,i<n->P i ys H->g (.int (lo+i)) (List.replicate k none++bJ js σ) H fun σ2 H2=>tc σ2 H2 fun b H3=>if b=true then wi1 σ2 H3 fun J1 H4=>fX J1 g1 tc1 te σ2 H4 ys fun ys' H5=>Nx n i P ys' H5 else Nx n i P ys H3)
  (hd:∀ys H,P n ys H->∀p,H p=none->Q (.ref p) (upd H p (.lst ys))):jZ (Itr lo n) k js g tc wi1 g1 tc1 te σ H Q:=
 jS P h0 hz (fun _ _ _ h _=>h) (fun _ _ _=>AW _) (fun i ys H x H' hi p y=>by obtain⟨e,y⟩:=y;subst e y;exact hs i ys _ hi p) hd
def CdO (c:Addr)(q:Str):HO:=.ext fun h=>∃o vs t,h.get? c=some o/\o.data=.fields vs/\vs[1]?=some (.str q t)
def FnO (a:Addr)(fd:FuncData):HO:=.ext fun h=>∃o,h.get? a=some o/\o.data=.func fd
structure Fq(pos:Pos)(q:Str)(P:Addr)(H:Hp):Prop where
 ex:∃ps,H P=some (.tbl ps)/\TriplesOk ps.toList/\(codeAmong pos ps.toList=none\/∃c,codeAmong pos ps.toList=some (.ref c)/\H c=some (CdO c q))
structure KW(K:W.Frag)(mg:Str->Option Value)(c P:Addr):Prop where
 hd:∀h:Heap,K.In h->W.CodeHd h c P
 bt:∀h:Heap,K.In h->h.BuiltinsAt mg P
 ne:mainGlobals≠P
def SmB (P:Addr)(H H':Hp):Prop:=∀b o,b≠P->H b=some o->H' b=some o
theorem SmB.trans{P:Addr}{H H1 H2:Hp}(a:SmB P H H1)(b:SmB P H1 H2):SmB P H H2:=fun c o n e=>b c o n (a c o n e)
theorem SmB.of{P:Addr}{H H':Hp}(a:EJ H H'):SmB P H H':=fun c o _ e=>a c o e
theorem Fq.same{pos:Pos}{q:Str}{P:Addr}{H H':Hp}(h:Fq pos q P H)(S:EJ H H'):Fq pos q P H':=by
 obtain⟨ps,h1,h2,h3⟩:=h.ex;refine⟨ps,S _ _ h1,h2,?_⟩;rcases h3 with h3|⟨c,h3,h4⟩
 ·exact .inl h3
 ·exact .inr ⟨c,h3,S _ _ h4⟩
def tLam (pos:Pos)(q:Str)(P:Addr)(F:Value->Value->Value->FuncData):TE:=fun σ H Q=>Fq pos q P H/\∀a c pm ct H',H a=none->H' a=some (FnO a (F pm (.ref c) ct))->H' c=some (CdO c q)->Fq pos q P H'->SmB P H H'->Q (.ref a) H'
theorem tM{P:Program}{w:World}{H:Hp}{h:Heap}{a:Addr}{fd:FuncData}{o:Obj}(e:h.get? a=some o)(d:o.data=.func fd):EY P w H h a (FnO a fd):=
 ⟨⟨o,e,d⟩,⟨o,e⟩,fun h1 h2 ⟨o1,e1,d1⟩ k=>⟨o1,k _ e1,d1⟩⟩
theorem uW{P:Program}{w:World}{H:Hp}{h:Heap}{c:Addr}{q:Str}(e:h.CodeRec (.ref c) q):EY P w H h c (CdO c q):=by
 obtain⟨c',o,vs,t,e0,e1,e2,e3⟩:=e;cases e0;exact⟨⟨o,vs,t,e1,e2,e3⟩,⟨o,e1⟩,fun h1 h2 ⟨o1,vs1,t1,a1,a2,a3⟩ k=>⟨o1,vs1,t1,k _ a1,a2,a3⟩⟩
theorem tf{P:Program}{w:World}{H:Hp}{h:Heap}{c:Addr}{q:Str}(x:HOk P w H h)(e:H c=some (CdO c q)):h.CodeRec (.ref c) q:=by
 obtain⟨⟨o,vs,t,e1,e2,e3⟩,_⟩:=x c _ e;exact⟨c,o,vs,t,rfl,e1,e2,e3⟩
theorem su{P:Program}{w:World}{H:Hp}{h:Heap}{a:Addr}{fd:FuncData}(x:HOk P w H h)(e:H a=some (FnO a fd)):∃o,h.get? a=some o/\o.data=.func fd:=by
 obtain⟨z,_⟩:=x a _ e;exact z
theorem tR{X:Cx}{params:Arguments}{body:Expr}{scope:Scope}{pos:Pos}{c P:Addr}{q:Str}{ts cap:List Str}{js:List Nat}(LK:KW X.K X.mg c P)(hcode:X.env.code=.ref c)(hq:X.env.qual++"<lambda>"=q)(hd:defaultsOf params X.env=([],[]))(CS:aM X scope ts cap js) :
  PE X (.Lambda params body scope pos) (tLam pos q P fun pm cd ct=>W.kla_fn "<lambda>" q params body scope (bU X.env.cells scope.names []) pm cd ct):=by
 intro pins s σ H Q I h;obtain⟨⟨ps,hP,hT,hc⟩,h⟩:=h;refine W.kla_eval hd ?_;rw[hq];have hcl:=bf (CS.cells I.ok);have hns:s.heap.Ns mainGlobals X.mg:=by
  obtain⟨o,es,ep,e,r⟩:=I.ok.mod.glob;exact⟨o,es,ep,I.bk _ _ e,r⟩
 have gP:s.heap.get? P=some (W.tabObj ps):=I.hok P _ hP;rcases hc with hc|⟨c0,hc,hcc⟩
 ·refine W.kla_makeFunction hcl I.ok.glob hns hcode (LK.hd _ I.kIn) gP hT hc LK.ne (LK.bt _ I.kIn) fun c' ctv h' tk ext hsz hlt hrec htab=>?_;have tl:(ps++#[rawInt pos.line,rawInt pos.col,.ref c']).toList=ps.toList++[rawInt pos.line,rawInt pos.col,.ref c']:=by simp
  have nP:∀b u,H b=some u->(∀ps,u≠.tbl ps)->b≠P:=fun b u e n z=>by rw[z,hP] at e;exact n ps (Eh e).symm
  have lc:∀b u,H b=some u->b≠c':=fun b u e=>AZ (Bc (I.hok.lt e) hsz);have la:∀b u,H b=some u->b≠h'.objs.size:=fun b u e=>AZ (CT (Bc (I.hok.lt e) hsz) hlt);have ca:c'≠h'.objs.size:=AZ hlt;have cP:c'≠P:=Er (lc P _ hP);have Pa:P≠h'.objs.size:=la P _ hP;generalize hfd:W.kla_fn "<lambda>" q params body scope (bU X.env.cells scope.names []) ((X.mg "__name__").getD .none) (.ref c') ctv=fd;have hob:W.kla_obj "<lambda>" q params body scope (bU X.env.cells scope.names []) ((X.mg "__name__").getD .none) c' ctv={cls:=.type "function",data:=.func fd}:=by rw[<- hfd]
  rw[hob];obtain⟨H',eH⟩:∃H',H'=upd (upd (upd H P (.tbl (ps++#[rawInt pos.line,rawInt pos.col,.ref c']))) c' (CdO c' q)) h'.objs.size (FnO h'.objs.size fd):=⟨_,rfl⟩
  have eA:H' h'.objs.size=some (FnO h'.objs.size fd):=by rw[eH];exact ae
  have eC:H' c'=some (CdO c' q):=by rw[eH,ao ca];exact ae
  have eP:H' P=some (.tbl (ps++#[rawInt pos.line,rawInt pos.col,.ref c'])):=by rw[eH,ao Pa,ao (Er cP)];exact ae
  have eO:∀b,b≠P->b≠c'->b≠h'.objs.size->H' b=H b:=fun b n1 n2 n3=>by rw[eH,ao n3,ao n2,ao n1]
  have SB:SmB P H H':=fun b o n e=>by rw[eO b n (lc b o e) (la b o e)];exact e
  have kp:∀b u,b≠P->s.heap.get? b=some u->(h'.push {cls:=.type "function",data:=.func fd}).get? b=some u:=fun b u n e=>Es _ (ext b u n e);have gP':(h'.push {cls:=.type "function",data:=.func fd}).get? P=some (W.tabObj (ps++#[rawInt pos.line,rawInt pos.col,.ref c'])):=Es _ htab;have tu:∀b xs,H b=some (.tup xs)->H' b=some (.tup xs):=fun b xs e=>SB b _ (nP b _ e fun _ z=>by cases z) e;have ow:∀b x,H b=some (.own x)->H' b=some (.own x):=fun b x e=>SB b _ (nP b _ e fun _ z=>by cases z) e;have I2:Inv X pins σ H' {s with heap:=h'.push {cls:=.type "function",data:=.func fd},toks:=tk}:=by
   refine I.un (t':=tk) ⟨fun b o e n _ _=>kp b o (fun z=>by rw[z,hP] at n;cases n) e,fun b o e n _ _=>⟨o.slots,kp b o (fun z=>by rw[z,hP] at n;cases n) e⟩,fun b o e n _=>?_,fun b o e _=>?_,tu,fun b o u e=>SB b _ (nP b _ e fun _ z=>by cases z) e,fun b ps' e=>?_⟩ fun b u e=>?_
   ·have lb:=Eg e;rw[eO b (fun z=>by rw[z,hP] at n;cases n) (AZ (Bc lb hsz)) (AZ (CT (Bc lb hsz) hlt))];exact n
   ·by_cases hb:b=P
    ·rw[hb];exact⟨_,gP'⟩
    ·exact⟨o,kp b o hb e⟩
   ·by_cases hb:b=P
    ·subst hb;rw[hP] at e;cases e;exact⟨_,eP⟩
    ·exact⟨#[],by rw[SB b _ hb e];simp⟩
   ·by_cases b1:b=h'.objs.size
    ·subst b1;rw[eA] at e;cases e;exact tM (Et _ rfl) rfl
    ·by_cases b2:b=c'
     ·subst b2;rw[eC] at e;cases e;obtain⟨c2,o,vs,t,e0,e1,e2,e3⟩:=hrec;cases e0;exact uW ⟨_,o,vs,t,rfl,Es _ e1,e2,e3⟩
     ·by_cases b3:b=P
      ·subst b3;rw[eP] at e;cases e;exact gP'
      ·rw[eO b b3 b2 b1] at e;refine(I.hok b u e).Hr (fun x v hx g=>kp x v (fun z=>?_) g) (fun x z=>ow x _ z) tu;rcases hx with hx|hx
       ·exact b3 (hx.symm.trans z)
       ·rw[z,hP] at hx;cases hx
  refine⟨.ref h'.objs.size,H',I2,rfl,h _ c' ((X.mg "__name__").getD .none) ctv H' ?_ (eA.trans (by rw[<- hfd])) eC ⟨_,eP,by rw[tl];exact TriplesOk_snoc _ _ _ _ hT,.inr ⟨c',by rw[tl];exact codeAmong_snoc _ hT hc,eC⟩⟩ SB⟩;exact I.hok.fresh (BF (Cn hsz hlt))
 ·refine W.kla_makeFunctionHit hcl I.ok.glob hns hcode (LK.hd _ I.kIn) gP hT hc (LK.bt _ I.kIn) fun ctv h' tk ext hsz=>?_;have I2:=I.laid (a:=h'.objs.size) (o:=FnO h'.objs.size (W.kla_fn "<lambda>" q params body scope (bU X.env.cells scope.names []) ((X.mg "__name__").getD .none) (.ref c0) ctv)) (t':=tk) (h':=h'.push {cls:=.type "function",data:=.func (W.kla_fn "<lambda>" q params body scope (bU X.env.cells scope.names []) ((X.mg "__name__").getD .none) (.ref c0) ctv)}) (fun b u e=>Es _ (ext b u e)) hsz (tM (Et _ rfl) rfl);have hn:=I.hok.fresh (a:=h'.objs.size) hsz;have SS:=af hn (FnO h'.objs.size (W.kla_fn "<lambda>" q params body scope (bU X.env.cells scope.names []) ((X.mg "__name__").getD .none) (.ref c0) ctv));exact⟨.ref h'.objs.size,_,I2,rfl,h _ c0 _ ctv _ hn ae (SS _ _ hcc) (Fq.same ⟨ps,hP,hT,.inr ⟨c0,hc,hcc⟩⟩ SS) (SmB.of SS)⟩
def pD (X:Cx)(A:Around)(scope:Scope)(q:Str)(f:Addr)(cd:Value)(N:List Str)(s:Shared)(H:Hp):Cx where
 prog:=X.prog
 w:=X.w
 K:=X.K
 mg:=X.mg
 base:=X.base
 A:=A.deeper (W.envX q scope s.heap.objs.size f cd (bU X.env.cells scope.names []))
 N:=N
 s₀:=s
 H₀:=H
 env:=W.envX q scope s.heap.objs.size f cd (bU X.env.cells scope.names [])
 outer:=X.stack
 stack:=W.envX q scope s.heap.objs.size f cd (bU X.env.cells scope.names [])::X.stack
 ex:=[]
 fn:=fun _=>false
 calm:=A.handled.isNone
 pn:=[]
 xe:=fun _ _=>False
section
variable {X:Cx}{pins:List (Addr×Obj)}{σ:St}{H:Hp}{s:Shared}{scope:Scope}{cap:List Str}{js:List Nat}{A:Around}{q y:Str}{f:Addr}{cd:Value}
theorem uc(hA:A.frames=some X.stack)(I:Inv X pins σ H s)(CS:aM X scope [y] cap js):(pD X A scope q f cd ([y]++cap) s H).Ok where
 mod:=I.ok.mod
 kind:=CS.kind
 glob:=rfl
 blt:=rfl
 above:=AW _
 inj:=fun x z c h1 h2=>I.ok.inj x z c (CS.look I.ok h1) (CS.look I.ok h2)
 has:=fun x hx=>by
  have hx:scope.names.lookup x=some .cell\/scope.names.lookup x=some .free:=hx;rcases hx with hx|hx
  ·exact absurd rfl (CS.Hu _ (bx hx))
  ·exact CA.mp (eF (.inl (bx hx)))
 cab:=fun x c h _=>by cases (show false=true from h)
 hd:=fun h=>DR.mp h
 frames:=Around.frames_deeper hA
 stk:=.inr ⟨rfl,rfl⟩
 exf:=fun b hb=>absurd (show b∈([]:List Addr) from hb) (by simp)
 bs:=I.bs
 bsz:=Bm I.ok.bsz I.sz
 IQ:=fun b o e hb=>absurd (show b∈([]:List Addr) from hb) (by simp)
 HX:=fun b hb=>absurd (show b∈([]:List Addr) from hb) (by simp)
 GW:=I.stack
 frf:=I.Gs
theorem rh{s₄:Shared}{x:V}{u:Value}(hA:A.frames=some X.stack)(I:Inv X pins σ H s)(CS:aM X scope [y] cap js)(hy:scope.names.lookup y=some .local)(r:RelV x u)
  (old:∀b o,s.heap.get? b=some o->s₄.heap.get? b=some o)(hn:s₄.heap.Ns s.heap.objs.size fun z=>[(y,u)].reverse.lookup z)(hos:s₄.os=s.os)(hb:AllBare s₄.gens) :
  Inv (pD X A scope q f cd ([y]++cap) s H) [] ([some x]++bJ js σ) H s₄ where
 ok:=uc hA I CS
 os:=hos
 bare:=hb
 base:=Un.kept old
 loc:=⟨_,hn,fun i z v h1 h2 h3=>by
  cases i with
  |zero=>
   have e1:y=z:=Eh h1;have e2:x=v:=Eh (Eh h2);subst e1 e2;exact⟨u,r,.inl ⟨hy,by simp⟩⟩
  |succ i=>
   have h1':cap[i]?=some z:=h1;have h2':(bJ js σ)[i]?=some (some v):=h2;unfold bJ at h2';rw[Br] at h2';cases hj:js[i]? with
   |none=>rw[hj] at h2';cases h2'
   |some j=>
    rw[hj] at h2';have h2'':(σ[j]?).join=some v:=Eh h2';have hσ:σ[j]?=some (some v):=by
     cases e:σ[j]? with
     |none=>rw[e] at h2'';cases h2''
     |some o=>rw[e] at h2'';rw[show o=some v from h2'']
    have hN:X.N[j]?=some z:=by
     have:=congrArg (fun l=>l[i]?) CS.JE;simp only[Br,h1',hj] at this;exact(Eh this).symm
    have hfr:=CS.KY z (Bp h1');have hk:=CS.free _ (bx hfr) rfl;obtain⟨m0,hn0,hl⟩:=I.loc;obtain⟨u',r',l⟩:=hl j z v hN hσ (.inr hk);refine⟨u',r',?_⟩;rcases l with ⟨k,_⟩|⟨k,c,e,zz⟩
    ·rcases hk with q|q<;>(rw[q] at k;cases k)
    ·obtain⟨c',e'⟩:=CA.mp (eF (cells:=X.env.cells) (acc:=[]) (.inl (bx hfr)));have e2:=CS.look I.ok e';have e3:X.env.cells.lookup z=some c:=e;rw[e3] at e2;cases e2;obtain⟨o,ho,hd⟩:=zz
     exact .inr ⟨.inr hfr,c,e',⟨o,old _ _ ho,hd⟩⟩⟩
 cell:=fun x c e=>by
  obtain⟨v,o,ho,hd⟩:=I.cell x c (CS.look I.ok e);exact⟨v,o,old _ _ ho,hd⟩
 free:=I.hok.fresh (AW _)
 Fm:=fun x c e=>I.Fm x c (CS.look I.ok e)
 pin:=fun p hp=>absurd (show p∈([]:List (Addr×Obj)) from hp) (by simp)
 hok:=I.hok.kept old
 len:=by
  show([some x]++bJ js σ).length=([y]++cap).length;have:=congrArg List.length CS.JE;simp only[AX] at this;rw[Ba,Ba,bJ,AX,this];rfl
theorem pL{te:TE}{params:Arguments}{body:Expr}{pm ct:Value}{c:Addr}{x:V}{u:Value}{Q:VK}(hA:A.frames=some X.stack)(hdp:A.depth<recursionLimit)(I:Inv X pins σ H s)(CS:aM X scope [y] cap js)(hy:scope.names.lookup y=some .local)
  (hco:scope.isCoroutine=false)(hge:scope.isGenerator=false)(hf:H f=some (FnO f (W.kla_fn "<lambda>" q params body scope (bU X.env.cells scope.names []) pm (.ref c) ct)))(hcd:H c=some (CdO c q))
  (hbind:bindArgs (W.kla_fn "<lambda>" q params body scope (bU X.env.cells scope.names []) pm (.ref c) ct) ⟨[u],[]⟩=pure [(y,u)])
  (hb:PE (pD X A scope q f (.ref c) ([y]++cap) s H) body te)(r:RelV x u)(h:te ([some x]++bJ js σ) H Q) :
  wpAny (model X.prog X.w) A (call (.ref f) [u]) (EP X pins σ Q) (fun _ _=>False) s:=by
 obtain⟨o,ho,hd⟩:=su I.hok hf;refine wpAny_call (codeAny_mono (R:=CR CX0 X.stack X.prog X.w H s Q E0) (W.kla_callFunE hdp ho hd hco hge rfl (tf I.hok hcd) ?_) fun r s' hq=>?_)
 ·rw[hbind];refine DV (wpAny_newFunctionEnv CS.Hu (fun z hz=>by rw[Bg.mp hz];exact hy) (fun h₁ hns hsb=>⟨?_,W.kla_codeExpr ?_⟩) CS.kind)
  ·exact Heap.NoLimit.fresh I.nolimit _ hsb
  ·have old:∀b o,s.heap.get? b=some o->h₁.get? b=some o:=fun b o e=>hsb.extBut b o (AZ (Eg e)) (Es _ e);have J:=rh (A:=A) (q:=q) (f:=f) (cd:=.ref c) (s₄:={s with heap:=h₁,toks:=s.toks+[(y,u)].length}) hA I CS hy r old hns rfl I.bare;refine Ed (hb [] _ _ H Q J h) (fun v s' hs=>?_) fun _ _ hF=>(show False from hF).elim;obtain⟨v',H',J',rv,q'⟩:=hs;exact⟨v',H',J'.os,J'.bare,J'.base,J'.hok,rv,q'⟩
 ·cases r with
  |error e=>exact False.elim hq
  |ok fl=>
   cases fl with
   |ret u=>exact I.after hq
   |next=>exact False.elim hq
   |brk=>exact False.elim hq
   |cont=>exact False.elim hq
end
end L2
namespace L2
open PySem PySem.Spec PyProof.Rows SeqAt
def wk (X:Cx)(σ:St)(H:Hp)(q:Addr)(key:Str->Int)(ks:List Str):Prop:=
 ∀(pins:List (Addr×Obj))(s:Shared)(k:Str)(t:Tok),Inv X pins σ H s->k∈ks->wpAny (model X.prog X.w) X.A.in1 (call (.ref q) [.str k t]) (EP X pins σ fun v H'=>v=.int (key k)/\H'=H) (fun _ _=>False) s
section
variable {X:Cx}{pins:List (Addr×Obj)}{σ:St}{H:Hp}
theorem lP{k:Str}{v:Value}(h:GK (.inr k) v=true):∃t,v=.str k t:=by
 rcases ER h with ⟨i,t,e,_⟩|⟨x,t,e,rfl⟩
 ·cases e
 ·cases e;exact⟨t,rfl⟩
theorem Inv.thaw{σ':St}{s s':Shared}{a:Addr}{u:HO}{o:Obj}(I0:Inv X pins σ H s)(e:H a=some u)(nt:∀xs,u≠.tup xs)(nf:∀o' u',u≠.frz o' u')(nb:∀ps,u≠.tbl ps)(no:∀x,u≠.own x)(I:Inv X pins σ' (upd H a (.frz o u)) s'):Inv X pins σ' H s':=by
 have b1:=I.base;have fr:∀b,upd H a (.frz o u) b=none->H b=none:=fun b n=>by
  by_cases hb:b=a
  ·subst hb;rw[ae] at n;cases n
  ·rw[ao hb] at n;exact n
 have hat:upd H a (.frz o u) a=some (.frz o u):=ae;refine⟨I.ok,I.os,I.bare,⟨b1.keep,b1.slot,fun b o e n hx=>fr b (b1.free b o e n hx),b1.there,fun b xs q=>?_,fun b o' u' q=>?_,fun b ps q=>?_⟩,I.loc,I.cell,fr _ I.free,fun x c e=>fr _ (I.Fm x c e),fun p hp=>?_,fun b v q=>?_,I.len⟩
 ·have z:=b1.HS b xs q;by_cases hb:b=a
  ·subst hb;rw[ae] at z;cases z
  ·rw[ao hb] at z;exact z
 ·exact I0.base.HK b o' u' q
 ·obtain⟨more,z⟩:=b1.Hy b ps q;by_cases hb:b=a
  ·subst hb;rw[ae] at z;cases z
  ·rw[ao hb] at z;exact⟨more,z⟩
 ·obtain⟨h1,h2,h3⟩:=I.pin p hp;exact⟨h1,fr _ h2,h3⟩
 ·have tu:∀c xs,upd H a (.frz o u) c=some (.tup xs)->H c=some (.tup xs):=fun c xs z=>by
   by_cases hc:c=a
   ·subst hc;rw[ae] at z;cases z
   ·rw[ao hc] at z;exact z
  have ow:∀c x,upd H a (.frz o u) c=some (.own x)->H c=some (.own x):=fun c x z=>by
   by_cases hc:c=a
   ·subst hc;rw[ae] at z;cases z
   ·rw[ao hc] at z;exact z
  by_cases hb:b=a
  ·subst hb;rw[e] at q;cases q;exact(I.hok b _ hat).2.Hr (fun _ _ _ q=>q) (fun c q=>ow c _ q) tu
  ·exact(I.hok b v (by rw[ao hb];exact q)).Hr (fun _ _ _ q=>q) (fun c q=>ow c _ q) tu
theorem mT{q d IT S:Addr}{key:Str->Int}{ks:List Str}{ep:Nat}{o:Obj}{u:HO}{vs:List (Key×Value)}(hvs:vs.map (·.1)=ks.map Sum.inr)(hD:H d=some (.frz o u))(hat:∀h:Heap,h.get? d=some o->Heap.DictAt (aH X.prog X.w) h d vs ep)(hq:wk X σ H q key ks)(hc:X.calm=true)
  (hIS:IT≠S)(hdI:d≠IT){R:Result->Shared->Prop} :
  ∀(n j:Nat)(s:Shared)(rb:Str)(tb:Tok)(ti:Tok)(c:Nat),ks.length-j=n->j<=ks.length->Inv X pins σ H s ->
   EW X pins H IT->EW X pins H S->s.heap.IsKeyIter IT d j vs.length ep->s.heap.get? S=some (seqObj "list" #[.str rb tb,.int (key rb) ti] c)->rb∈ks->(∀k∈ks.take j,key rb<=key k) ->
   (∀(k:Str)(t:Tok)(s':Shared),k∈ks->(∀k'∈ks,key k<=key k')->Inv X pins σ H s'->R (.ok (.ret (.str k t))) s') ->
   codeAny (model X.prog X.w) X.A (.builtin "min.loop" ⟨[.ref IT,.ref q,.ref S],[]⟩) R s:=by
 have hname:(toString "min"++toString ".loop":String)="min.loop":=by decide
 have hlen:vs.length=ks.length:=by have:=congrArg List.length hvs;rw[AX,AX] at this;exact this
 intro n;induction n with
 |zero=>
  intro j s rb tb ti c hn hj I fI fS hit hS hrb hbest hR;obtain rfl:j=ks.length:=by lia
  have hdo:s.heap.get? d=some o:=(I.hok d _ hD).1;have W:=Walks.dictKeys (knd:=aH X.prog X.w) (prog:=X.prog) (w:=X.w) (A:=X.A.in1) (I.ok.hd hc) IT d hdI vs ep;refine codeAny_builtin PySem.F.entry_min_loop ?_;rw[Around.under_plainId PySem.F.plain_min_loop _];show wpAny _ X.A.in1 (seqItems? (.ref S) >>= _) _ _ _;refine DU (wpAny_seqItems hS rfl ?_);show wpAny _ X.A.in1 (tryCatch (pyNext (.ref IT)) _ >>= _) _ _ _;refine DU (wpAny_tryCatch (W.done _ _ _ ⟨by rw[hlen] at hit ⊢;exact hit,hat _ hdo⟩ fun h' tk' hk'=>?_));have I1:Inv X pins σ H {s with heap:=h',toks:=tk'}:=fI.turn I fun b o hb e=>hk' b o (by simpa using hb) e;have hS':=hk' S _ (by simpa using Er hIS) hS;have s1:=Heap.SameBut.update h' S (Obj.mapSeq fun _=>(#[]:Array Value));show wpAny _ X.A.in1 (updateSeq S (fun _=>#[]) >>= _) _ _ _;refine DU ?_;refine wpAny_updateSeq hS' rfl (DU (wpAny_letGo (DV ?_)));exact hR rb tb _ hrb (fun k hk=>hbest k (by rw[BX];exact hk)) (fS.turn I1 fun b o hb e=>by rw[s1.2 b hb];exact e)
 |succ n ih=>
  intro j s rb tb ti c hn hj I fI fS hit hS hrb hbest hR;have hlt:j<ks.length:=by lia
  have hdo:s.heap.get? d=some o:=(I.hok d _ hD).1;have W:=Walks.dictKeys (knd:=aH X.prog X.w) (prog:=X.prog) (w:=X.w) (A:=X.A.in1) (I.ok.hd hc) IT d hdI vs ep;refine codeAny_builtin PySem.F.entry_min_loop ?_;rw[Around.under_plainId PySem.F.plain_min_loop _];show wpAny _ X.A.in1 (seqItems? (.ref S) >>= _) _ _ _;refine DU (wpAny_seqItems hS rfl ?_);show wpAny _ X.A.in1 (tryCatch (pyNext (.ref IT)) _ >>= _) _ _ _;refine DU (wpAny_tryCatch (W.item j _ _ _ (by rw[hlen];exact hlt) ⟨hit,hat _ hdo⟩ fun v h' tk' hP hst' hk'=>?_));obtain⟨k0,x0,hk0,hkv⟩:=hP;have ek:k0=Sum.inr ks[j]:=by
   have:=congrArg (fun l=>l[j]?) hvs;simp only[Br,hk0,Bf hlt] at this;exact Eh this
  subst ek;obtain⟨tv,rfl⟩:=lP hkv;have hmem:ks[j]∈ks:=BE hlt;obtain⟨oI,hoI,hoc,hod⟩:=id hst'.1;have I1:Inv X pins σ H {s with heap:=h',toks:=tk'}:=fI.turn I fun b o hb e=>hk' b o (by simpa using hb) e;have hS':=hk' S _ (by simpa using Er hIS) hS
  have IP:=I1.pinned (fp:=[IT,S]) (fun b hb=>by
   rcases Bl.mp hb with rfl|hb
   ·exact fI
   ·rw[Bg.mp hb];exact fS) (fun b hb=>by
   rcases Bl.mp hb with rfl|hb
   ·exact⟨oI,hoI,fun v e=>by rw[hod] at e;cases e⟩
   ·rw[Bg.mp hb]; exact⟨_,hS',fun v e=>by cases e⟩)
  show wpAny _ X.A.in1 (tryCatch (holding [_] (call (.ref q) [_])) _ >>= _) _ _ _;refine DU (wpAny_tryCatch (Ee (Ed (hq _ _ _ tv IP hmem) (fun x s2 he=>?_) fun _ _ hF=>hF.elim)));obtain⟨_,_,I2,r2,rfl,rfl⟩:=he;obtain⟨tn,rfl⟩:=r2;have pin:∀b o,b∈[IT,S]->h'.get? b=some o->s2.heap.get? b=some o:=fun b o hb e=>by
   have m:(b,o)∈bO [IT,S] h':=Cz.mpr ⟨b,hb,by rw[e];rfl⟩;exact(I2.pin (b,o) (AY _ (AY _ m))).1
  have gI2:=pin IT oI (.head _) hoI;have gS2:=pin S _ (.tail _ (.head _)) hS';have I3:=I2.ES;show wpAny _ X.A.in1 (tryCatch (holding [_,.int (key ks[j]) tn] (richCompare .Lt (.int (key ks[j]) tn) (.int (key rb) ti) >>= _)) _ >>= _) _ _ _;refine DU (wpAny_tryCatch (Ee (DU (HT.Gz _ _ _ _ _ _ _ _ _ _ ?_))));refine DU (Ee (wpAny_truthy_bool ?_));refine DU (wpAny_letGo (DV ?_));have htake:ks.take (j+1)=ks.take j++[ks[j]]:=by rw[Bz,Bf hlt];rfl
  by_cases hb':key ks[j]<key rb
  ·have s1:=Heap.SameBut.update s2.heap S (Obj.mapSeq fun _=>#[.str ks[j] tv,.int (key ks[j]) tn]);obtain⟨c2,hc2⟩:∃c2,(s2.heap.update S (Obj.mapSeq fun _=>#[.str ks[j] tv,.int (key ks[j]) tn])).get? S=some (seqObj "list" #[.str ks[j] tv,.int (key ks[j]) tn] c2):=⟨_,get?_update_seq gS2 fun _=>#[.str ks[j] tv,.int (key ks[j]) tn]⟩
   simp only[Ea hb',if_true];refine DU ?_;refine wpAny_updateSeq gS2 rfl (DU (wpAny_letGo ?_));rw[hname];refine DV ⟨plainId_quiet PySem.F.plain_min_loop _,ih (j+1) _ _ tv tn c2 (by lia) hlt (fS.turn (t':=s2.toks) I3 fun b o hb e=>by rw[s1.2 b hb];exact e) fI fS ⟨oI,(s1.2 IT hIS).trans gI2,hoc,hod⟩ hc2 hmem (fun k h=>?_) hR⟩;rw[htake] at h;rcases Bb.mp h with h|h
   ·have:=hbest k h;lia
   ·rw[Bg.mp h];exact Dm _
  ·simp only[Eb hb',Cf,if_false];refine DU (wpAny_letGo ?_);rw[hname];refine DV ⟨plainId_quiet PySem.F.plain_min_loop _,ih (j+1) s2 rb tb ti c (by lia) hlt I3 fI fS ⟨oI,gI2,hoc,hod⟩ gS2 hrb (fun k h=>?_) hR⟩;rw[htake] at h;rcases Bb.mp h with h|h
   ·exact hbest k h
   ·rw[Bg.mp h];lia
end
def ud (X:Cx)(σ:St)(q:Addr):List V->List V->Hp->VK->Prop:=fun xs zs H Q=>∃(d:Addr)(kvs:List (Key×V))(ks:List Str)(key:Str->Int),xs=[.ref d]/\zs=[.ref q]/\H d=some (.dK kvs)/\kvs.map (·.1)=ks.map Sum.inr/\ks≠[] /\
 (∀o,wk X σ (upd H d (.frz o (.dK kvs))) q key ks)/\∀k,k∈ks->(∀k'∈ks,key k<=key k')->Q (.str k) H
theorem Ip:∀{kvs:List (Key×V)}{vs:List (Key×Value)},KV kvs vs->vs.map (·.1)=kvs.map (·.1)
 |_,_,.nil=>rfl
 |_,_,.cons r t=>by rw[Bv,Bv,Ip t,r.1]
theorem hG{P:Program}{w:World}:∀{es:List DictEntry}{vs:List (Key×Value)},Pairs (aH P w) es vs->es.length=vs.length
 |_,_,.nil=>rfl
 |_,_,.cons _ _ t=>by rw[BA,BA,hG t]
theorem lI{X:Cx}{q:Addr}{pins:List (Addr×Obj)}{s:Shared}{σ:St}{H:Hp}{xs zs:List V}{us ws:List Value}{Q:VK}(hc:X.calm=true)(I:Inv X pins σ H s)(r:Vals xs us)(rz:Vals zs ws)(h:ud X σ q xs zs H Q) :
  (wq X) (call (.builtin "min") us ((["key"]:List Str).zip ws)) (EP X pins σ Q) X.xe s:=by
 obtain⟨d,kvs,ks,key,rfl,rfl,hd,hks,hne,hK,h1⟩:=h;obtain⟨u,rfl,rx⟩:=dh r;cases rx;obtain⟨rfl⟩:ws=[.ref q]:=by
  cases rz with
  |cons a b=>cases b;cases a;rfl
 have hname:(toString "min"++toString ".loop":String)="min.loop":=by decide
 show (wq X) (call (.builtin "min") [.ref d] [("key",.ref q)]) _ _ s;obtain⟨hz,hm,vs,kv,o,es,ep,ho,hex,hdd,hko,hpr,hnd⟩:=I.hok d _ hd;have hvs:vs.map (·.1)=ks.map Sum.inr:=(Ip kv).trans hks;have hat:∀h:Heap,h.get? d=some o->Heap.DictAt (aH X.prog X.w) h d vs ep:=fun h e=>⟨o,es,e,hex,hdd,hko,hpr,hnd⟩
 have hesz:es.size=vs.length:=by rw[<- Bu];exact hG hpr
 have hlen:vs.length=ks.length:=by have:=congrArg List.length hvs;rw[AX,AX] at this;exact this
 have If:=I.freeze hd ho (fun _ z=>by cases z) (fun _ _ z=>by cases z) (fun _ z=>by cases z) (fun _ z=>by cases z);have hKo:=hK o;obtain⟨Hf,eHf⟩:∃Hf,Hf=upd H d (.frz o (.dK kvs)):=⟨_,rfl⟩
 rw[<- eHf] at If hKo;have hDf:Hf d=some (.frz o (.dK kvs)):=by rw[eHf];exact ae
 have back:∀(k:Str)(t:Tok)(s':Shared),k∈ks->(∀k'∈ks,key k<=key k')->Inv X pins σ Hf s'->EP X pins σ Q (.str k t) s':=fun k t s' hk hb I'=>by
  rw[eHf] at I';exact⟨.str k,H,Inv.thaw I hd (fun _ z=>by cases z) (fun _ _ z=>by cases z) (fun _ z=>by cases z) (fun _ z=>by cases z) I',⟨t,rfl⟩,h1 k hk hb⟩
 refine kmk_tree PySem.F.kind_min PySem.F.plain_min PySem.F.entry_min (kmk_min_key _ _) ?_;show wpAny _ X.A.in1 (Builtin.Builtins.bindParams "min" ["key","default"] 0 ⟨[],[("key",.ref q)]⟩ >>= _) _ _ s;refine DU (wpAny_of_eq (show Builtin.Builtins.bindParams "min" ["key","default"] 0 ⟨[],[("key",.ref q)]⟩=pure [some (.ref q),none] from rfl) ?_);refine DU (DV ?_);refine DU (ky hm ho hex hdd ?_);refine DU (wpAny_newList ?_ (Bo _));rw[hname];have hll:d<s.heap.objs.size:=Eg ho;obtain⟨oi,eoi⟩:∃oi:Obj,oi={cls:=.type "dict_keyiterator",data:=.fields #[.ref d,.int 0 0,.int es.size 0,.int ep 0]}:=⟨_,rfl⟩
 rw[<- eoi];have hS:(s.heap.push oi).objs.size=s.heap.objs.size+1:=size_push' ..;have hlI:d≠s.heap.objs.size:=AZ hll;have hIS:s.heap.objs.size≠(s.heap.push oi).objs.size:=by rw[hS];exact AZ (Cb _)
 refine DV ⟨plainId_quiet PySem.F.plain_min_loop _,?_⟩;have K0:∀b o,s.heap.get? b=some o->((s.heap.push oi).push (seqObj "list" #[] 0)).get? b=some o:=fun b x e=>Es _ (Es _ e);have gI:((s.heap.push oi).push (seqObj "list" #[] 0)).get? s.heap.objs.size=some oi:=Es _ (Et _ (by rw[eoi];rfl));have gS:((s.heap.push oi).push (seqObj "list" #[] 0)).get? (s.heap.push oi).objs.size=some (seqObj "list" #[] 0):=Et _ rfl;have fI:EW X pins Hf s.heap.objs.size:=If.GA _ (AW _);have fS:EW X pins Hf (s.heap.push oi).objs.size:=If.GA _ (by rw[hS];exact BO _);have I0:Inv X pins σ Hf {s with heap:=(s.heap.push oi).push (seqObj "list" #[] 0)}:=If.kept (t':=s.toks) K0;have hit0:((s.heap.push oi).push (seqObj "list" #[] 0)).IsKeyIter s.heap.objs.size d 0 vs.length ep:=⟨oi,gI,by rw[eoi],by rw[eoi,<- hesz];rfl⟩
 have hd0:=K0 _ _ ho;generalize (s.heap.push oi).objs.size=S at *;generalize (s.heap.push oi).push (seqObj "list" #[] 0)=hh at *;have W:=Walks.dictKeys (knd:=aH X.prog X.w) (prog:=X.prog) (w:=X.w) (A:=X.A.in1) (I.ok.hd hc) s.heap.objs.size d hlI vs ep;refine codeAny_builtin PySem.F.entry_min_loop ?_;rw[Around.under_plainId PySem.F.plain_min_loop _];show wpAny _ X.A.in1 (seqItems? (.ref _) >>= _) _ _ _;refine DU (wpAny_seqItems gS rfl ?_);show wpAny _ X.A.in1 (tryCatch (pyNext (.ref s.heap.objs.size)) _ >>= _) _ _ _;have hlt:0<ks.length:=List.length_pos_iff.mpr hne;refine DU (wpAny_tryCatch (W.item 0 _ _ _ (by rw[hlen];exact hlt) ⟨hit0,hat _ hd0⟩ fun v h' tk' hP hst' hk'=>?_));obtain⟨k0,x0,hk0,hkv⟩:=hP;have ek:k0=Sum.inr ks[0]:=by
  have:=congrArg (fun l=>l[0]?) hvs;simp only[Br,hk0,Bf hlt] at this;exact Eh this
 subst ek;obtain⟨tv,rfl⟩:=lP hkv;have hmem:ks[0]∈ks:=BE hlt;obtain⟨oI,hoI,hoc,hod⟩:=id hst'.1;have I1:Inv X pins σ Hf {s with heap:=h',toks:=tk'}:=fI.turn (s:={s with heap:=hh}) I0 fun b o hb e=>hk' b o (by simpa using hb) e;have hS':=hk' S _ (by simpa using Er hIS) gS
 have IP:=I1.pinned (fp:=[s.heap.objs.size,S]) (fun b hb=>by
  rcases Bl.mp hb with rfl|hb
  ·exact fI
  ·rw[Bg.mp hb];exact fS) (fun b hb=>by
  rcases Bl.mp hb with rfl|hb
  ·exact⟨oI,hoI,fun v e=>by rw[hod] at e;cases e⟩
  ·rw[Bg.mp hb]; exact⟨_,hS',fun v e=>by cases e⟩)
 show wpAny _ X.A.in1 (tryCatch (holding [_] (call (.ref q) [_])) _ >>= _) _ _ _;refine DU (wpAny_tryCatch (Ee (Ed (hKo _ _ _ tv IP hmem) (fun x s2 he=>?_) fun _ _ hF=>hF.elim)));obtain⟨_,_,I2,r2,rfl,rfl⟩:=he;obtain⟨tn,rfl⟩:=r2;have pin:∀b o,b∈[s.heap.objs.size,S]->h'.get? b=some o->s2.heap.get? b=some o:=fun b o hb e=>by
  have m:(b,o)∈bO [s.heap.objs.size,S] h':=Cz.mpr ⟨b,hb,by rw[e];rfl⟩;exact(I2.pin (b,o) (AY _ (AY _ m))).1
 have gI2:=pin _ oI (.head _) hoI;have gS2:=pin S _ (.tail _ (.head _)) hS';have I3:=I2.ES;have s1:=Heap.SameBut.update s2.heap S (Obj.mapSeq fun _=>#[.str ks[0] tv,.int (key ks[0]) tn]);obtain⟨c2,hc2⟩:∃c2,(s2.heap.update S (Obj.mapSeq fun _=>#[.str ks[0] tv,.int (key ks[0]) tn])).get? S=some (seqObj "list" #[.str ks[0] tv,.int (key ks[0]) tn] c2):=⟨_,get?_update_seq gS2 fun _=>#[.str ks[0] tv,.int (key ks[0]) tn]⟩
 show wpAny _ X.A.in1 (updateSeq S (fun _=>#[.str ks[0] tv,.int (key ks[0]) tn]) >>= _) _ _ _;refine DU ?_;refine wpAny_updateSeq gS2 rfl ?_;rw[hname]
 refine DV ⟨plainId_quiet PySem.F.plain_min_loop _,mT (pins:=pins) (σ:=σ) hvs hDf hat hKo hc hIS hlI _ 1 _ _ tv tn c2 rfl hlt (fS.turn (t':=s2.toks) I3 fun b o hb e=>by rw[s1.2 b hb]; exact e) fI fS ⟨oI,(s1.2 _ hIS).trans gI2,hoc,hod⟩ hc2 hmem (fun k h=>?_)
  fun k t s' a1 a2 a3=>back k t s' a1 a2 a3⟩
 have e:ks.take 1=[ks[0]]:=by rw[Bz,Bf hlt];rfl
 rw[e] at h;rw[Bg.mp h];exact Dm _
def sh (lpos:Pos)(q:Str)(P:Addr)(js:List Nat)(te:TE)(tl:TE):TE:=fun σ H Q=>tl σ H fun x H1=>Fq lpos q P H1/\∃(d:Addr)(kvs:List (Key×V))(ks:List Str)(key:Str->Int),x=.ref d/\H1 d=some (.dK kvs)/\kvs.map (·.1)=ks.map Sum.inr/\ks≠[] /\
 (∀H2 o k,SmB P H1 H2->k∈ks->te ([some (.str k)]++bJ js σ) (upd H2 d (.frz o (.dK kvs))) fun v H'=>v=.int (key k)/\H'=upd H2 d (.frz o (.dK kvs))) /\
 ∀k H2,k∈ks->(∀k'∈ks,key k<=key k')->SmB P H1 H2->Fq lpos q P H2->Q (.str k) H2
theorem nH{X:Cx}{l body:Expr}{tl te:TE}{params:Arguments}{scope:Scope}{lpos kpos p pos:Pos}{c P:Addr}{q y:Str}{cap:List Str}{js:List Nat}(LK:KW X.K X.mg c P)(hcode:X.env.code=.ref c)(hq:X.env.qual++"<lambda>"=q)(hd:defaultsOf params X.env=([],[]))(CS:aM X scope [y] cap js)
  (hy:scope.names.lookup y=some .local)(hco:scope.isCoroutine=false)(hge:scope.isGenerator=false)(hbind:∀cl pm cd ct u,bindArgs (W.kla_fn "<lambda>" q params body scope cl pm cd ct) ⟨[u],[]⟩=pure [(y,u)])
  (hc:X.calm=true)(hdp:X.A.depth<recursionLimit)(hb:∀f c s H,PE (pD X X.A.in1 scope q f (.ref c) ([y]++cap) s H) body te)(hg:Gl X "min")(hm:X.mg "min"=none)(hv:bootBuiltins "min"=some (.builtin "min"))(hl:PE X l tl)
  (hall:(backToKw pos (keywordEach [⟨some "key",.Lambda params body scope lpos,kpos⟩] X.env)).all (·.1.isSome)=true:=by rfl)(hks:(backToKw pos (keywordEach [⟨some "key",.Lambda params body scope lpos,kpos⟩] X.env)).filterMap (·.1)=(["key"]:List Str):=by rfl)
  (he:starEach [l] X.env=(false,eval l X.env)::starEach [] X.env:=by rfl)
  (hpl:((backTo pos (starEach [l] X.env)).any (·.1)||(backToKw pos (keywordEach [⟨some "key",.Lambda params body scope lpos,kpos⟩] X.env)).any (·.1.isNone))=false:=by rfl) :
  PE X (.Call (.Name "min" p) [l] [⟨some "key",.Lambda params body scope lpos,kpos⟩] pos) (sh lpos q P js te tl):=by
 intro pins s σ H Q I h;refine wpAny_Call_Name_kw (dG I hg hm hv ?_ (by decide) (by decide));refine bR hpl ?_
 have hA:=(EF hl Fe he:PA X [l] (fY tl ID)) pos pins s σ H (fun vs H1=>match vs with
  |[x]=>Fq lpos q P H1/\∃(d:Addr)(kvs:List (Key×V))(ks:List Str)(key:Str->Int),x=.ref d/\H1 d=some (.dK kvs)/\kvs.map (·.1)=ks.map Sum.inr/\ks≠[] /\
    (∀H2 o k,SmB P H1 H2->k∈ks->te ([some (.str k)]++bJ js σ) (upd H2 d (.frz o (.dK kvs))) fun v H'=>v=.int (key k)/\H'=upd H2 d (.frz o (.dK kvs))) /\
    ∀k H2,k∈ks->(∀k'∈ks,key k<=key k')->SmB P H1 H2->Fq lpos q P H2->Q (.str k) H2
  | _=>False) I h
 rw[he] at hA ⊢;refine evalArgs_kw hall (thn hA fun us s1 hq95=>?_);obtain⟨vs,H1,I1,r1,q1⟩:=hq95;obtain⟨x,rfl⟩:∃x,vs=[x]:=by
  match vs,q1 with
  |[x],_=>exact⟨x,rfl⟩
 obtain⟨hL,d,kvs,ks,key,rfl,hdk,hks',hne,hte,hfin⟩:=q1;have hdP:d≠P:=by
  obtain⟨ps,hP,_⟩:=hL.ex;exact bZ hdk hP (fun z=>by cases z)
 have hkw:=(jq (nm:=some "key") (kpos:=kpos) (tR (body:=body) (pos:=lpos) LK hcode hq hd CS) Jt) pos pins s1 σ H1 (fun zs H2=>∃a,zs=[.ref a]/\ud X σ a [.ref d] zs H2 Q) I1 (by
  refine⟨hL,fun a c' pm ct H' hn ha hcd hT hS=>⟨a,rfl,d,kvs,ks,key,rfl,rfl,hS d _ hdP hdk,hks',hne,fun o pins s k t I hk=>?_,fun k hk hmin=>hfin k H' hk hmin hS hT⟩⟩;have na:a≠d:=bZ ha (hS d _ hdP hdk) (fun z=>by cases z);have nc:c'≠d:=bZ hcd (hS d _ hdP hdk) (fun z=>by cases z)
  exact pL (A:=X.A.in1) (x:=.str k) I.ok.frames hdp I CS hy hco hge (by rw[ao na]; exact ha) (by rw[ao nc]; exact hcd) (hbind _ _ _ _ _) (hb _ _ _ _) ⟨t,rfl⟩ (hte H' o k hS hk))
 refine thn hkw fun ws s2 hq96=>?_;obtain⟨zs,H2,I2,rz,q2⟩:=hq96;obtain⟨a,_,q2⟩:=q2;rw[hks];exact lI hc I2 r1 rz q2
theorem Fun.okC{P:Program}{w:World}{K:W.Frag}{mg:Str->Option Value}{base:Heap}{x qual:Str}{st:Stmt}{f:Addr}{fd:FuncData}{N ps:List Str}{k:Nat}{sp:Sp}{c:Addr}(F:Fun K x qual st f fd)(hcode:fd.code=.ref c)(S:EG N ps (ak st))(len:∀vs H Q E,sp vs H Q E->vs.length=ps.length)
  (hbody:∀(A:Around) (outer:List Env) (s:Shared) (H:Hp) (vs:List V) (Q:VK) (E:XK),FC k (A.deeper (envOfC qual (ak st) s.heap.objs.size f (.ref c)))->sp vs H Q E ->
   ∃t,PSs (bB CX0 P w K mg base N qual (ak st) f (.ref c) A outer s H E).nox (bz st) t/\t { nx:=fun _ H'=>Q .non H',rt:=Q } (start N vs) H):EK P w K mg base CX0 (k+1) f fd ps sp:=by
 obtain⟨oc,od,kV,doc,pm,an,cdv,ct,osl,rfl,lk,hcd⟩:=F.ex;have e:cdv=.ref c:=hcode;subst e;refine se lk hcd S len fun A outer s H vs Q E hr hsp=>?_;obtain⟨t,h,q⟩:=hbody A outer s H vs Q E hr hsp;exact⟨t,h.nox,q⟩
end L2
namespace L2
open PySem PySem.Spec PyProof.Rows
def uw (T:Addr)(H:Hp):Prop:=∀b,b≠T->H b=none\/∃o xs,H b=some (.frz o (.lst xs))
theorem mm{P:Program}{T c0:Addr}{ps:Array Value}{w:World}{K:W.Frag}{mg mb:Str->Option Value}{CX:CXT}{k:Nat}{fa a:Addr}{fd:FuncData}{x:Str}{sp:Sp}{s₁:Shared}{vs:List Value}{ns:List Int}
  (gT:s₁.heap.get? T=some (W.tabObj ps))(kT:K.lookup T=none)(cT:W.CodeHd s₁.heap c0 T)
  (KX:K.In s₁.heap)(hns:s₁.heap.Ns mainGlobals mg)(hb:s₁.heap.Ns builtinsNs mb)(hbb:∀x:Str,x≠"__name__"->mb x=bootBuiltins x)(hlim:s₁.heap.NoLimit)(hg:s₁.gens=#[])
  (ha:s₁.heap.get? a=some {cls:=.type "list",data:=.seq vs.toArray})(hi:IntsAre vs ns)(hl:ns.length<=sizeLine)(hr:FC k callerA)
  (F:∀base:Heap,K.In base->base.Ns mainGlobals mg->EK P w K mg base CX k fa fd [x] sp)(hbind:∀(s:Shared)(u:Value),BindsTo s fd ⟨[u],[]⟩ [(x,u)])
  (hsp:∀H:Hp,H T=some (.tbl ps)->uw T H->SqL K H a (ns.map V.int)->sp [.ref a] H (fun v _=>v=.bl true) fun _ _ _=>False)
  (hCX:∀H e s',CX [] H s₁ (fun _ _ _=>False) e s'->False) :
  codeAny (model P w) callerA (.call (.ref fa) ⟨[.ref a],[]⟩) (fun r s'=>r=.ok (.ret (.bool true))/\OldK s₁.heap s'.heap/\s'.os=s₁.os/\AllBare s'.gens) s₁:=by
 have rv:=Ha hi;have lenV:=hi.length;have aT:a≠T:=fun z=>by rw[z,gT] at ha;cases ha
 have core:∀H:Hp,H T=some (.tbl ps)->uw T H->SqL K H a (ns.map V.int)->HOk P w H s₁.heap->(∀b,H b≠none->b=a\/b=T)->(H a≠none->K.lookup a=none) ->
   codeAny (model P w) callerA (.call (.ref fa) ⟨[.ref a],[]⟩) (fun r s'=>r=.ok (.ret (.bool true))/\OldK s₁.heap s'.heap/\s'.os=s₁.os/\AllBare s'.gens) s₁:=by
  intro H hT hO hS hok hA hK;have base_of:∀{b:Addr}{o:Obj},s₁.heap.get? b=some o->H b=none->(oJ s₁.heap H).get? b=some o:=fun e n=>nZ e n;have noA:∀{b:Addr}{o:Obj}{es:Array DictEntry}{ep:Nat},s₁.heap.get? b=some o->o.data=.dict es ep->H b=none:=fun {b o es ep} e d=>by
   cases q:H b with
   |none=>rfl
   |some u=>
    rcases hA b (by rw[q];simp) with e'|e'
    ·subst e';rw[ha] at e;cases e;have d':Data.seq vs.toArray _=Data.dict es ep:=d;cases d'
    ·subst e';rw[gT] at e;cases e;have d':Data.fields ps=Data.dict es ep:=d;cases d'
  have nsK:∀{b:Addr}{m:Str->Option Value},s₁.heap.Ns b m->(oJ s₁.heap H).Ns b m:=fun {b m} ⟨o,es,ep,e,d,r⟩=>⟨o,es,ep,base_of e (noA e d),d,r⟩
  have hKb:K.In (oJ s₁.heap H):=fun b o e=>base_of (KX b o e) (by
   cases q:H b with
   |none=>rfl
   |some u=>
    rcases hA b (by rw[q];simp) with e'|e'
    ·subst e';rw[hK (by rw[q];simp)] at e;cases e
    ·subst e'
     rw[kT] at e; cases e)
  have hM:Mod K mg (oJ s₁.heap H):=⟨hKb,nsK hns,⟨mb,nsK hb,hbb⟩,let ⟨mc,h1,h2⟩:=hlim;⟨mc,nsK h1,h2⟩⟩
  have e0:Jh P w K mg (oJ s₁.heap H) callerA [] s₁ H:=⟨rfl,hM,fun b o e=>qZ e,Nat.le_of_eq (lM _ _),trivial,fun b hb=>absurd (show b∈([]:List Addr) from hb) (by simp),hok,.of_eq hg⟩
  refine codeAny_mono ((F _ hKb (nsK hns)).run callerA [] s₁ H ⟨[.ref a],[]⟩ [.ref a] [.ref a] _ _ hr e0 (hbind s₁ (.ref a)) (.cons rfl .nil) (hsp H hT hO hS)) fun r s' h=>?_;cases r with
  |error e=>exact(hCX H e s' h).elim
  |ok fl=>
   cases fl with
   |next=>exact False.elim h
   |brk=>exact False.elim h
   |cont=>exact False.elim h
   |ret u=>
    obtain⟨v,H',os,bare,un,hok',r',q⟩:=h;have q':v=.bl true:=q;subst q';obtain rfl:u=Value.bool true:=r';have key:∀b o,s₁.heap.get? b=some o->b≠T->s'.heap.get? b=some o:=fun b o e nT=>by
     cases q:H b with
     |none=>exact un.keep b o e q (by intro z;exact absurd (show b∈([]:List Addr) from z) (by simp)) (by simp)
     |some u=>
      rcases hO b nT with z|⟨ob,xs,z⟩
      ·rw[q] at z;cases z
      ·have z2:=un.HK b ob _ z;obtain⟨e1,_⟩:=hok b _ z;obtain⟨e2,_⟩:=hok' b _ z2;rw[e] at e1;cases e1;exact e2
    obtain⟨more,zT⟩:=un.Hy T ps hT;have gT':s'.heap.get? T=some {cls:=.none,data:=.fields (ps++more)}:=hok' T _ zT;obtain⟨oc,vc,_,_,_,_,_,_,_,c1,c2,c3,c4,_⟩:=cT;refine⟨rfl,⟨fun b o e=>?_,fun b o e=>?_⟩,os,bare⟩
    ·by_cases nT:b=T
     ·subst nT;rw[gT] at e;cases e;exact .inr (.inl ⟨⟨c0,oc,vc,c1,c2,c3,c4⟩,rfl,ps,more,rfl,gT'⟩)
     ·exact .inl (key b o e nT)
    ·by_cases nT:b=T
     ·subst nT;exact⟨_,gT'⟩
     ·exact⟨o,key b o e nT⟩
 cases hk:K.lookup a with
 |some o=>
  have e:=KX a o hk;rw[ha] at e;cases e;refine core (fun b=>if b=T then some (.tbl ps) else none) (DZ rfl) (fun b nb=>.inl (DY nb)) (.inr ⟨_,vs.toArray,_,hk,rfl,rfl,rfl,by rw[Bi,lenV];exact hl,by simpa using rv⟩) (fun b u z=>?_) (fun b z=>?_) fun z=>absurd (DY aT) z
  ·by_cases hb:b=T
   ·have z':=(DZ hb).symm.trans z;cases z';subst hb;exact gT
   ·have z':=(DY hb).symm.trans z;cases z'
  ·by_cases hb:b=T
   ·exact .inr hb
   ·exact absurd (DY hb) z
 |none=>
  refine core (fun b=>if b=T then some (.tbl ps) else if b=a then some (.frz {cls:=.type "list",data:=.seq vs.toArray} (.lst (ns.map V.int))) else none) (DZ rfl) (fun b nb=>?_) (.inl (.inr ⟨{cls:=.type "list",data:=.seq vs.toArray},(DY aT).trans (DZ rfl)⟩)) (fun b u z=>?_) (fun b z=>?_) fun _=>hk
  ·by_cases hb:b=a
   ·exact .inr ⟨_,_,(DY nb).trans (DZ hb)⟩
   ·exact .inl ((DY nb).trans (DY hb))
  ·by_cases hT:b=T
   ·have z':=(DZ hT).symm.trans z;cases z';subst hT;exact gT
   ·by_cases hb:b=a
    ·have z':=((DY hT).trans (DZ hb)).symm.trans z;cases z';subst hb;exact⟨ha,by rw[AX];exact hl,vs,_,rv,ha⟩
    ·have z':=((DY hT).trans (DY hb)).symm.trans z;cases z'
  ·by_cases hT:b=T
   ·exact .inr hT
   ·by_cases hb:b=a
    ·exact .inl hb
    ·exact absurd ((DY hT).trans (DY hb)) z
theorem IS{l:W.OpenLaw}{n k:Nat}{q:Program}{loose:List Str}{XP:(Str->Option Value)->Heap->Prop}{YP:World->Heap->Prop}{d:DefRec}{K KF:Params->W.Frag}{CX:World->CXT}{sp:World->Sp}{x:Str}{T c0:Addr}{ps:Array Value}
  (hn:l.most=some n)(hn2:n<=sizeLine)(hdf:d.params.defaults=[])(hr:FC k callerA)
  (hY:∀(w:World)(h:Heap),YP w h->(KF w.params).In h)(hKF:∀(p:Params)(h:Heap),(KF p).In h->(K p).In h/\h.get? T=some (W.tabObj ps)/\W.CodeHd h c0 T)(kT:∀p:Params,(K p).lookup T=none)
  (F:∀(w:World) (mg:Str->Option Value) (fa:Addr) (h:Heap),(K w.params).In h->h.Ns mainGlobals mg->mg d.name=some (.ref fa) ->
   ∃fd:FuncData,(∀(s:Shared)(u:Value),BindsTo s fd ⟨[u],[]⟩ [(x,u)]) /\
    ∀base:Heap,(K w.params).In base->base.Ns mainGlobals mg->EK l.prog w (K w.params) mg base (CX w) k fa fd [x] (sp w))
  (hsp:∀(w:World)(H:Hp)(a:Addr)(ns:List Int),ns.length<=n->H T=some (.tbl ps)->SqL (K w.params) H a (ns.map V.int)->sp w [.ref a] H (fun v _=>v=.bl true) fun _ _ _=>False)
  (hCX:∀(w:World)(H:Hp)(s:Shared)(e:Value)(s':Shared),CX w [] H s (fun _ _ _=>False) e s'->False) :
  W.WalkO q loose XP YP l.row.toRowW d [] (fun f vs=>PySem.call f vs):=by
 refine Att.Ho hn hdf fun w s₀ s₁ mg mb fa o pm cd doc a vs ns G Y ho hd hcd hmg hobj hints hlen hg=>?_;obtain⟨KX,gT,cT⟩:=hKF _ _ (hY w _ Y);obtain⟨fd,hb,hF⟩:=F w mg fa _ KX G.T.g hmg;exact mm gT (kT _) cT KX G.T.g G.T.b G.T.builtins G.T.nolimit hg hobj hints (Bm hlen hn2) hr hF hb (fun H hT hO hS=>hsp w H a ns hlen hT hS) fun H e s'=>hCX w H s₁ e s'
section
variable {X:Cx}{scope:Scope}{ts cap:List Str}{js:List Nat}{tg0 tg1 elt iter0 iter1:Expr}{ifs0 ifs1:List Expr}{pos:Pos}
theorem pC{wi:TI}{g:TG}{tc:TT}{wi1:TI}{g1:TG}{tc1:TT}{te:TE}{i:Nat}{y:Str}{py spos:Pos}(hc:X.calm=true)(CS:aM X scope ts cap js)(hi:PI X tg0 iter0 wi)(hg:∀C fp s H,PG (ax X scope C fp (ts++cap) s H) tg0 g)
  (ht:∀C fp s H,PTs (ax X scope C fp (ts++cap) s H) ifs0 tc)(hi1:∀C fp s H,PI (ax X scope C fp (ts++cap) s H) tg1 iter1 wi1)
  (hg1:∀C fp s H,PG (ax X scope C fp (ts++cap) s H) tg1 g1)(ht1:∀C fp s H,PTs (ax X scope C fp (ts++cap) s H) ifs1 tc1)(he:∀C fp s H,PE (ax X scope C fp (ts++cap) s H) elt te)
  (hN:X.N.Nodup)(hy:X.N[i]?=some y)(hx:Loc X.env.scope y)(hsw:swapsWith (.ListComp elt [⟨tg0,iter0,ifs0,0⟩,⟨tg1,iter1,ifs1,0⟩] scope pos) (some (.Name y py)) spos.line X.env=pure true)
  (hs1:∀C x,foldedSetIterable iter1 (compEnvC scope (bU X.env.cells scope.names []) C X.env) x=pure x:=by intro _ _;rfl)
  (hs:∀x,foldedSetIterable iter0 X.env x=pure x:=by intro _;rfl)(hf:X.fn y=true\/X.env.scope.names.lookup y=some .local:=by first|exact .inl rfl|exact .inr rfl|assumption) :
  PS X (.Assign [.Name y py] (.ListComp elt [⟨tg0,iter0,ifs0,0⟩,⟨tg1,iter1,ifs1,0⟩] scope pos) spos) (uk (qj wi ts.length js g tc wi1 g1 tc1 te) i):=by
 intro pins s σ H D I h;rw[exec_Assign_Name_used _ _ _ _ hsw];refine DU (wpAny_standAt (DU ?_));show wpAny _ X.A (do let _ <- comprehension (.ListComp elt [⟨tg0,iter0,ifs0,0⟩,⟨tg1,iter1,ifs1,0⟩] scope pos) scope X.env _ (newList []) false (eval iter0 X.env) (some (assign (.Name y py) X.env))) _ _ s
 refine DU (Ed (wpAny_comprehension_free (use:=some (assign (.Name y py) X.env)) (Q:=fun _ s'=>SP X pins D .next s') rfl hs (bf (CS.cells I.ok)) CS.kind CS.names
  (thn (hi pins s σ H _ I h) fun v s1 h1=>thn h1 fun itv s2 h2=>?_)) (fun _ s' hq=>DV (DV hq)) fun _ _ e=>e)
 obtain⟨it,fp,tn,J,H2,e,I2,T,st2,f2,W,⟨m0,w0⟩,turn⟩:=h2;subst e;refine fg (RR:=fun acc C=>compPost (model X.prog X.w) X.A X.xe (some (assign (.Name y py) X.env)) (fun _ s'=>SP X pins D .next s') acc C) hc I2 T st2 f2 CS hg ht hi1 hg1 ht1 he hs1 w0 turn ?_;intro D' C s' H' ys m I' hn hC hD hCD hHC hHD fin;have szL:=I2.lt;have low:∀b o,s2.heap.get? b=some o->b≠C:=fun b o e=>AZ (Bc (Eg e) hC);have hCL:X.env.locals≠C:=AZ (Bc szL hC);have hcell:∀x c,X.env.cells.lookup x=some c->c≠C:=fun x c e=>by
  obtain⟨v,o,ho,_⟩:=I2.cell x c e;exact low c o ho
 show wpAny _ X.A (assign (.Name y py) X.env (.ref D')) _ _ _;refine wpAny_assign_Name (eZ (v:=.ref D') I' hN hy hx rfl (fun s'' I'' hch=>?_) hf);obtain⟨a,hsb,ha⟩:=hch;have hCa:C≠a:=by
  rcases ha with z|z
  ·rw[z];exact Er hCL
  ·exact Er (hcell _ _ z)
 refine⟨m,hn.sameBut hsb hCa,fun h' hs'=>⟨_,_,bK (n0:=0) I'' (Heap.get?_none_of_le (Bm I2.sz hC)) hCL hcell (fun p hp=>low _ _ (I2.pin p hp).1) (by rw[ao hCD];exact hHC) hs',fin D' hHD⟩⟩
end
def tMid (t:TS):TS:=fun D σ H=>∃M:St->Hp->Prop,t {D with nx:=M} σ H/\∀σ' H',M σ' H'->D.nx σ' H'
theorem jV{X:Cx}{st:Stmt}{t:TS}(h:PS X st t):PS X st (tMid t):=by
 intro pins s σ H D I hw;obtain⟨M,h1,h2⟩:=hw;refine Ed (h pins s σ H {D with nx:=M} I h1) (fun fl s' hs=>?_) fun _ _ e=>e;cases fl with
 |next=>
  obtain⟨σ',H',J,q⟩:=hs;exact⟨σ',H',J,h2 σ' H' q⟩
 |ret u=>exact hs
 |brk=>exact hs
 |cont=>exact hs
def uS (t:TE):TE:=fun σ H Q=>∃M:VK,t σ H M/\∀v H',M v H'->Q v H'
theorem qi{X:Cx}{e:Expr}{t:TE}(h:PE X e t):PE X e (uS t):=by
 intro pins s σ H Q I hw;obtain⟨M,h1,h2⟩:=hw;refine Ed (h pins s σ H M I h1) (fun v s' hq97=>?_) fun _ _ e=>e;obtain⟨x,H',J,r,q⟩:=hq97;exact⟨x,H',J,r,h2 x H' q⟩
section
variable {X:Cx}{scope:Scope}{ts cap:List Str}{js:List Nat}{tg elt iter:Expr}{ifs:List Expr}{pos:Pos}{wi:TI}{g:TG}{tc:TT}{te:TE}
abbrev KL:=St->Hp->(List Str->Hp->Prop)->Prop
end
end L2
namespace SG
open PySem PyProof.Rows
section
variable {prog:Program}{w:World}{A:Around}{E:Value->Shared->Prop}{s:Shared}
theorem kP{κ:KeyKind}{a₀:Array Keyed}{st:SortSt}(B:SB κ a₀ st)(h:Seg κ (arrOf st) 0 a₀.size):SortedToK κ (arrOf st) a₀.size:=fun i j hij hj=>by
 have z:=B.size;have e1:(arrOf st)[i]?=some ((arrOf st)[i]'(by lia)):=BL _;have e2:(arrOf st)[j]?=some ((arrOf st)[j]'(by lia)):=BL _;have:=h i j _ _ (Bo _) hij hj e1 e2;unfold KK;rw[e1,e2];exact this
theorem FF{κ:KeyKind}(hO:κ.OneLt){a:Addr}{vs:List Value}{n:Nat}{P:PySem.Fin->Shared->Prop}(ho:s.heap.get? a=some (seqObj "list" vs.toArray n))(h0:KeysOf κ (pairsOf vs))(hkk:∀v₁ v₂ rest,vs=v₁::v₂::rest->keyKind' (v₁::v₂::rest).toArray=pure oneType')(hz:vs.length<=sizeLine)
  (h:∀st':SortSt,(arrOf st').Perm (pairsOf vs)->SortedToK κ (arrOf st') (pairsOf vs).size->P (.done (.ret .none)) {s with heap:=sortedHeap s.heap a vs ((arrOf st').map (·.2))}):wpAny (model prog w) A (Builtin.«list.sort» ⟨[.ref a],[]⟩) P E s:=by
 rw[list_sort_plain];have ha:a<s.heap.objs.size:=Eg ho;refine DU (listItems_at ho rfl (DU (listUpdate_at ho rfl ?_)));obtain⟨e1,ho1⟩:∃e1,(s.heap.update a (Obj.mapSeq fun _=>#[])).get? a=some (seqObj "list" #[] e1):=⟨_,get?_update_seq ho (fun _=>#[])⟩
 refine DU (seqEpoch_at ho1 rfl (DU (wpAny_newTuple (DU (wpAny_newList (Ee ?_))) (by show vs.toArray.size<=sizeLine;rw[Bi];exact hz))));have ho6:(((s.heap.update a (Obj.mapSeq fun _=>#[])).push (seqObj "tuple" vs.toArray 0)).push (seqObj "list" #[] 0)).get? a=some (seqObj "list" #[] e1):=by rw[Heap.get?_push_ne _ _ _ (by rw[size_push',Heap.size_update];exact AZ (BP ha)),Heap.get?_push_ne _ _ _ (by rw[Heap.size_update];exact AZ ha)];exact ho1
 show wpAny (model prog w) A _ P E {s with heap:=((s.heap.update a (Obj.mapSeq fun _=>#[])).push (seqObj "tuple" vs.toArray 0)).push (seqObj "list" #[] 0)};dsimp only;have hsz:vs.toArray.size=vs.length:=by simp
 by_cases h2:vs.toArray.size<2
 ·rw[DZ h2,DZ h2];refine DU (DV ?_);rw[StateT.run_pure];refine DU (DV ?_);dsimp only;refine DU (seqEpoch_at ho6 rfl (DU (listUpdate_at ho6 rfl ?_ (hsz2:=by rw[Array.size_map];show(pairsOf vs).size<=_;rw[pairsOf_size];exact Co hz))));simp only[bne_self_eq_false,Cf,if_false];refine DV (h (SortSt.mk' general' (vs.toArray.zip vs.toArray) #[] 7 none) (Array.Perm.refl _) fun i j hij hj=>?_);have:i=j:=by rw[pairsOf_size] at hj;lia
  subst this;exact Em _
 ·rw[DY h2,DY h2];obtain⟨v₁,v₂,rest,rfl⟩:∃v₁ v₂ rest,vs=v₁::v₂::rest:=match vs,hsz,h2 with
   |[],_,h2=>absurd (show 0<2 by decide) h2
   |[_],_,h2=>absurd (show 1<2 by decide) h2
   |v₁::v₂::rest,_,_=>⟨v₁,v₂,rest,rfl⟩
  rw[hkk _ _ _ rfl];refine DU (DV ?_);refine DU (Ed (iR (κ:=κ) hO (a₀:=pairsOf (v₁::v₂::rest)) (st:=SortSt.mk' oneType' ((v₁::v₂::rest).toArray.zip (v₁::v₂::rest).toArray) #[] 7 none) (Q:=fun _ st'=>SB κ (pairsOf (v₁::v₂::rest)) st'/\Seg κ (arrOf st') 0 (pairsOf (v₁::v₂::rest)).size) h0 ⟨Array.Perm.refl _,rfl,rfl⟩ rfl fun st' a1 a2=>⟨a1,a2⟩) ?_ fun _ _ e=>e);rintro⟨⟨⟩,st'⟩ s' ⟨rfl,hp,hs⟩;dsimp only;refine DU (seqEpoch_at ho6 rfl (DU (listUpdate_at ho6 rfl ?_ (hsz2:=by refine Bm (Nat.le_of_eq ((Array.size_map ..).trans (hp.perm.size_eq.trans (pairsOf_size _)))) (Co hz)))));rw[hp.failed];simp only[bne_self_eq_false,Cf,if_false];exact DV (h st' hp.perm (kP hp hs))
theorem HU{l:Addr}{vs:List Value}{ss:List Str}{Q:Value->Shared->Prop}(hl:s.heap.IsList l vs.toArray)(hst:StrsAre vs ss)(hz:vs.length<=sizeLine)
  (h:∀out ss',StrsAre out.toList ss'->ss'.Perm ss->sortedS ss'=true->Q (.ref (s.heap.objs.size+1)) {s with heap:=sortedAll s.heap vs out}):wpAny (model prog w) A (call (.builtin "sorted") [.ref l]) Q E s:=by
 refine Calls.call_function_entry kind_sorted plain_sorted entry_sorted (args_sorted1 _) ?_;unfold Builtin.«sorted»;refine DU (m:=checkCount "sorted" 1 1 _) (DV (DU (collect_list hl (DU (wpAny_newList ?_ (by show vs.toArray.size<=sizeLine;rw[Bi];exact hz))) (by first|(show vs.toArray.size<=sizeLine;rw[Bi];exact hz)|skip))));have hsz:((s.heap.push (seqObj "list" #[] 0)).update s.heap.objs.size (Obj.mapSeq (·++vs.toArray))).objs.size=s.heap.objs.size+1:=by rw[Heap.size_update,size_push']
 have hoL:(((s.heap.push (seqObj "list" #[] 0)).update s.heap.objs.size (Obj.mapSeq (·++vs.toArray))).push (seqObj "list" vs.toArray 0)).get? (s.heap.objs.size+1)=some (seqObj "list" vs.toArray 0):=by rw[<- hsz];exact Et _ rfl
 show wpAny _ _ _ _ _ {s with heap:=((s.heap.push (seqObj "list" #[] 0)).update s.heap.objs.size (Obj.mapSeq (·++vs.toArray))).push (seqObj "list" vs.toArray 0)};rw[hsz];refine DU (Ee (Ez slot_list_sort ⟨_,hoL,rfl⟩ entry_list_sort (FF strKind_oneLt hoL hst.keysOf (fun v₁ v₂ rest e=>keyKind_strs (by rw[<- e];exact hst)) hz fun st' a1 a2=>⟨_,rfl,?_⟩) (args_list_sort _)));obtain⟨ss',b1,b2,b3⟩:=sorted_out_str hst a1 a2;exact DV ⟨_,rfl,h _ ss' b1 b2 b3⟩
end
end SG
namespace L2
open PySem PySem.Spec PyProof.Rows
theorem qt{prog:Program}{w:World}{z:Str}{v:Value}(h:(aH prog w).is (.inr z) v=true):∃t,v=.str z t:=by
 rw[kS] at h;rcases ER h with ⟨i,t,e,_⟩|⟨x,t,e,ev⟩
 ·cases e
 ·cases e;exact⟨t,ev⟩
section
variable {prog:Program}{w:World}{A:Around}{E:Value->Shared->Prop}{s:Shared}{o:Obj}{D:Addr}{ys:List Str}
theorem hU{d:Addr}{kvs:List (Key×Value)}{zs:List Str}{Q:Value->Shared->Prop}(hh:A.handled=none)(lo:(d==sysModules)=false)(hd:s.heap.DictOf (aH prog w) d kvs)(ek:kvs.map (·.1)=zs.map fun z=>(Sum.inr z:Key))(hz:kvs.length<=sizeLine)
  (hQ:∀(h1 h':Heap)(t:Nat)(l:Addr)(zs':List Str)(out:Array Value)(e:Nat),(∀b u,s.heap.get? b=some u->h1.get? b=some u)->(∀b u,h1.get? b=some u->h'.get? b=some u)->zs'.Perm zs->sortedS zs'=true->h1.objs.size<=l->h'.get? l=some (seqObj "list" out e)->StrsAre out.toList zs'->Q (.ref l) {s with heap:=h',toks:=t}) :
  wpAny (model prog w) A (call (.builtin "sorted") [.ref d]) Q E s:=by
 obtain⟨ep,hat⟩:=hd.dictAt;refine Calls.call_function_entry kind_sorted plain_sorted entry_sorted (args_sorted1 _) ?_;unfold Builtin.«sorted»;refine DU (m:=checkCount "sorted" 1 1 _) (DV (DU (W.kdu_collect (A:=A.in1) (W.kdl_dict (knd:=aH prog w) lo) hh hat hz fun h' tk acc hk hacc=>?_)));have hl:acc.toList.length=kvs.length:=by rw[Bu];exact hacc.1
 have lz:zs.length=kvs.length:=by have:=congrArg List.length ek;rw[AX,AX] at this;exact this.symm
 have hst:StrsAre acc.toList zs:=by
  have go:∀(us:List Value)(ts:List Str),us.length=ts.length->(∀i (h1:i<us.length) (h2:i<ts.length),∃t,us[i]=.str ts[i] t)->StrsAre us ts:=by
   intro us;induction us with
   |nil=>intro ts h _;cases ts with
    |nil=>exact .nil
    |cons a b=>cases h
   |cons u us ih=>
    intro ts h hu;cases ts with
    |nil=>cases h
    |cons a b=>
     obtain⟨t,e⟩:=hu 0 (Nat.succ_pos _) (Nat.succ_pos _);have e:u=.str a t:=e;rw[e];exact .cons a t (ih b (Nat.succ.inj h) fun i h1 h2=>hu (i+1) (Nat.succ_lt_succ h1) (Nat.succ_lt_succ h2))
  refine go _ _ (by lia) fun i h1 h2=>?_;have e0:acc[i]?=some acc.toList[i]:=by rw[<- Bw];exact Bf h1
  obtain⟨k,x,e1,e2⟩:=hacc.2 i _ e0;have e3:(kvs.map (·.1))[i]?=some k:=by rw[Br,e1];rfl
  rw[ek,Br,Bf h2] at e3;have e4:k=.inr zs[i]:=(Eh e3).symm;rw[e4] at e2;generalize acc.toList[i]=v at e2;obtain⟨t,ev⟩:∃t,v=.str zs[i] t:=qt e2;exact⟨t,ev⟩
 have hz':acc.toList.length<=sizeLine:=by lia
 have hoL:(h'.push (seqObj "list" acc.toList.toArray 0)).get? h'.objs.size=some (seqObj "list" acc.toList.toArray 0):=Et _ rfl;refine DU (wpAny_newList ?_ hz');refine DU (Ee (Ez slot_list_sort ⟨_,hoL,rfl⟩ entry_list_sort (SG.FF strKind_oneLt hoL hst.keysOf (fun v₁ v₂ rest e=>keyKind_strs (by rw[<- e];exact hst)) hz' fun st' a1 a2=>⟨_,rfl,?_⟩) (args_list_sort _)));obtain⟨ss',b1,b2,b3⟩:=sorted_out_str hst a1 a2;obtain⟨e,he⟩:=sortedHeap_at (out:=(arrOf st').map (·.2)) hoL;refine DV ⟨_,rfl,hQ h' _ _ _ ss' _ e hk (fun b u q1=>?_) b2 b3 (AW _) he b1⟩;have lt1:=Eg q1;exact(sortedHeap_old (AZ lt1) (by rw[EA];exact BP lt1)).trans (Es _ q1)
end
section
variable {X:Cx}{x:Str}{p pos:Pos}{e:Expr}{t:KL}
def tH (K:W.Frag):List V->Hp->VK->Prop:=fun xs H Q=>∃p zs,xs=[.ref p]/\(SqL K H p (zs.map V.str)\/∃kvs,H p=some (.dK kvs)/\kvs.map (·.1)=zs.map fun z=>(Sum.inr z:Key))/\∀l zs',zs'.Perm zs->sortedS zs'=true->H l=none->Q (.ref l) (upd H l (.lst (zs'.map V.str)))
theorem kz(hc:X.calm=true):cy X (.builtin "sorted") (tH X.K):=by
 intro pins s σ H xs us Q I r h;obtain⟨p,zs,rfl,hq,q⟩:=h;obtain⟨u,rfl,rx⟩:=dh r;cases rx;rcases hq with hq|⟨kvs,hd,ek⟩
 ·obtain⟨its,rv,pl,hz⟩:=I.list hq;have hl:=rv.length;rw[AX] at hl hz;refine SG.HU pl.isList (strsOf rv) (by lia) fun out ss' a1 a2 a3=>?_;obtain⟨e,he⟩:=sortedAll_at s.heap its out;refine⟨.ref (s.heap.objs.size+1),_,I.laid (t':=s.toks) (o:=.lst (ss'.map V.str)) (fun _ _=>sortedAll_old) (BO _) ?_,rfl,q _ ss' a2 a3 (I.hok.fresh (BO _))⟩;refine⟨?_,out.toList,e,HE a1,?_⟩
  ·rw[AX,a2.length_eq];lia
  ·rw[DM];exact he
 ·obtain⟨hz,lo,vs,rel,dd⟩:=nY I.hok hd;have hh:X.A.handled=none:=I.ok.hd hc;refine hU hh lo dd (by rw[<- rel.keys];exact ek) (by rw[<- rel.length];exact hz) fun h1 h' t l zs' out e k1 k2 a1 a2 a3 a4 a5=>?_;have I1:Inv X pins σ H {s with heap:=h1,toks:=s.toks}:=I.kept k1;have lz:zs.length=kvs.length:=by have:=congrArg List.length ek;rw[AX,AX] at this;exact this.symm
  exact⟨.ref l,_,I1.laid (t':=t) (o:=.lst (zs'.map V.str)) k2 a3 ⟨by rw[AX,a1.length_eq];lia,out.toList,e,HE a5,by rw[DM];exact a4⟩,rfl,q l zs' a1 a2 (I1.hok.fresh a3)⟩
end
theorem jm{prog:Program}{w:World}{A:Around}{R:Result->Shared->Prop}{s:Shared}{kx vx target iter:Expr}{ifs:List Expr}{scope:Scope}{pos:Pos}{it:Value}{D:Addr}{env:Env}(I:Nat->Shared->Prop)
  (turn:∀n s,I n s->wpAny (model prog w) A (pyNext it) (fun r s₁=>match r with
   |none=>R (.ok .next) s₁
   | some v=>wpAny (model prog w) A (letOwnedTupleGo target it v) (fun _ s₁'=>wpAny (model prog w) A (assign target env v) (fun _ s₂ =>
     wpAny (model prog w) A (forIn ifs true fun c r=>if r=true then do let ok <- isTrue c env (eval c env); pure (ForInStep.yield ok) else pure (ForInStep.yield r)) (fun ok s₃ =>
      if ok=true then wpAny (model prog w) A (eval kx env) (fun kv s₄=>wpAny (model prog w) A (eval vx env) (fun vv s₅ =>
       wpAny (model prog w) A (dictSet D kv vv) (fun _ s₆=>∃m,m < n/\I m s₆) (fun _ _=>False) s₅) (fun _ _=>False) s₄) (fun _ _=>False) s₃
      else ∃m,m < n/\I m s₃) (fun _ _=>False) s₂) (fun _ _=>False) s₁') (fun _ _=>False) s₁) (fun _ _=>False) s)
  (n:Nat) (h:I n s):codeAny (model prog w) A (.compLoop (.DictComp kx vx [⟨target,iter,ifs,0⟩] scope pos) 0 it (.ref D) env) R s:=by
 refine codeAny_loop rfl I (fun n s hI=>?_) n h;show wpAny _ A ((compTurn (.DictComp kx vx [⟨target,iter,ifs,0⟩] scope pos) 0 it (.ref D) env).onRaise (fun x=>do noteFrame x env;theTreesLotGoes x)) _ _ s;refine wpAny_noted ?_;rw[PySem.compTurn_dict];refine DU (wpAny_standAt (DU (Ed (turn n s hI) (fun r s₁ h₁=>?_) fun _ _ h'=>h'.elim)));cases r with
 |none=>exact DV h₁
 |some v=>
  refine DU (Ed h₁ (fun _ s₁' h₁'=>?_) fun _ _ h'=>h'.elim);refine DU (Ed h₁' (fun _ s₂ h₂=>DU (Ed h₂ (fun ok s₃ h₃=>?_) fun _ _ h'=>h'.elim)) fun _ _ h'=>h'.elim);cases ok with
  |false=>exact DV ⟨rfl,h₃⟩
  |true=>
   exact DU (DU (Ed h₃ (fun kv s₄ h₄=>DU (Ee (Ed h₄ (fun vv s₅ h₅=>DU (wpAny_standAt (Ee (Ed h₅ (fun _ s₆ h₆=>DV ⟨rfl,h₆⟩) fun _ _ h'=>h'.elim)))) fun _ _ h'=>h'.elim))) fun _ _ h'=>h'.elim))
def Gf(P:Program)(w:World)(o:Obj)(kvs:List (Key×V)):Prop:=∃vs,KV kvs vs/\o.IsDictOf (aH P w) vs
theorem Gf.fresh(P:Program)(w:World):Gf P w {cls:=.type "dict",data:=.dict #[]} []:=by
 obtain⟨o,ho,r⟩:=Heap.dictOf_iff.mp (Heap.DictOf.new (knd:=aH P w) (h:={objs:=#[]}));rw[Et _ rfl] at ho;cases ho;exact⟨[],.nil,r⟩
section
variable {prog:Program}{w:World}{A:Around}{E:Value->Shared->Prop}{s:Shared}{a:Addr}{o:Obj}{kvs:List (Key×V)}{k:Key}{v:V}{u r:Value}
theorem Gf.nc(h:Gf prog w o kvs):∀v,o.data≠.cell v:=fun v q=>by
 obtain⟨vs,_,es,ep,h1,h2,_⟩:=h;rw[h2] at q;cases q
theorem putL{Q:Unit->Shared->Prop}(ho:s.heap.get? a=some o)(h:Gf prog w o kvs)(rk:RelV (kV k) u)(rv:RelV v r)(hz:kvs.length<=sizeLine)
  (hQ:∀h' o',Heap.SameBut a s.heap h'->h'.get? a=some o'->Gf prog w o' (eD kvs k v)->Q () {s with heap:=h',toks:=s.toks+1}) :
  wpAny (model prog w) A (dictSet a u r) Q E s:=by
 obtain⟨vs,rel,d⟩:=h;refine wpAny_dictSet_pairs (hsz:=by rw[<- rel.length];exact hz) (il rk) (Heap.dictOf_iff.mpr ⟨o,ho,d⟩) fun h' dd hs=>?_;obtain⟨o',ho',d'⟩:=Heap.dictOf_iff.mp dd;exact hQ h' o' hs ho' ⟨_,rel.put k rv,d'⟩
theorem pH{Q:Value->Shared->Prop}(h:Q (.ref s.heap.objs.size) {s with heap:=s.heap.push {cls:=.type "dict",data:=.dict #[]}}):wpAny (model prog w) A newDict Q E s:=by
 unfold newDict;simp only[newObj]
 (first|exact DU (wpAny_alloc (DV h))|exact wpAny_alloc h)
end
section
variable {X:Cx}{pins:List (Addr×Obj)}{σ:St}{H:Hp}{s:Shared}{scope:Scope}{t:Option Str}{ts cap:List Str}{js:List Nat}{fp:List Addr}{C D:Addr}
theorem kU{s':Shared}{σ':St}{H':Hp}{ys:List (Key×V)}{o:Obj}(I:Inv X pins σ H s)(hf:∀b∈fp,EW X pins H b)
  (hC:s.heap.objs.size<=C)(hD:s.heap.objs.size<=D)(I':Inv (aJ X scope t C fp (ts++cap) s H) [(D,o)] σ' H' s')(hv:Gf X.prog X.w o ys)(hz:ys.length<=sizeLine):Inv X pins σ (upd H' D (.dK ys)) s':=by
 obtain⟨hDg,hDn,hDC,hDs,hDd⟩:=I'.pin (D,o) (AY _ Bj);have nD:∀b o,s.heap.get? b=some o->b≠D:=fun b o e=>AZ (Bc (Eg e) hD);have nDt:∀b o,H b=some o->b≠D:=fun b o e=>AZ (Bc (I.hok.lt e) hD);have u:=I'.base;refine I.JG (ch:=fp) I'.os ⟨fun b o e n hb hx=>u.keep b o e n hb hx,fun b o e n hb hx=>u.slot b o e n hb hx,fun b o e n hx=>?_,fun b o e hx=>u.there b o e hx,fun b xs e=>?_,fun b o xs e=>?_,fun b ps e=>?_⟩ ?_ I'.bare fun b hb=>?_
 ·rw[ao (nD b o e)];exact u.free b o e n hx
 ·rw[ao (nDt b _ e)];exact u.HS b xs e
 ·rw[ao (nDt b _ e)];exact u.HK b o xs e
 ·rw[ao (nDt b _ e)];exact u.Hy b ps e
 ·intro b o e;by_cases hb:b=D
  ·subst hb;rw[ae] at e;cases e;obtain⟨vs,rel,dd⟩:=hv;exact⟨hz,beq_eq_false_iff_ne.mpr (Er (AZ (Bc I.big hD))),vs,rel,Heap.dictOf_iff.mpr ⟨_,hDg,dd⟩⟩
  ·rw[ao hb] at e;refine(I'.hok b o e).Hr (fun _ _ _ q=>q) (fun c q=>?_) fun c xs q=>?_
   ·by_cases hc:c=D
    ·subst hc;rw[hDn] at q;cases q
    ·rw[ao hc];exact q
   ·by_cases hc:c=D
    ·subst hc;rw[hDn] at q;cases q
    ·rw[ao hc];exact q
 ·obtain⟨f0,f1,f2,f3,f4,f5⟩:=hf b hb;exact⟨f3,f1,f4,f5⟩
theorem jj{tg kx vx iter:Expr}{ifs:List Expr}{pos:Pos}{g:TG}{tc:TT}{tk tv:TE}{J:It}{it:Addr}{tn:Nat->Heap->Prop}{W:Nat->Nat->List (Key×V)->Hp->Prop}{m0:Nat}{E:Value->Shared->Prop}
  {RR:Value->Addr->Result->Shared->Prop}{Fin:List (Key×V)->Hp->Prop}
  (I:Inv X pins σ H s)(T:TurnOk X.prog X.w fp it tn)(TA:∀C,He (aJ X scope t C fp (ts++cap) s H) tg J fp it tn)(st:tn 0 s.heap)(hf:∀b∈fp,EW X pins H b)(CS:EN X scope t ts cap js)
  (hg:∀C fp s H,PG (aJ X scope t C fp (ts++cap) s H) tg g)(ht:∀C fp s H,PTs (aJ X scope t C fp (ts++cap) s H) ifs tc)(hk:∀C fp s H,PE (aJ X scope t C fp (ts++cap) s H) kx tk)(he:∀C fp s H,PE (aJ X scope t C fp (ts++cap) s H) vx tv)
  (w0:W 0 m0 [] H)
  (turn:∀i m ys H,W i m ys H->(J.stop i H/\ys.length<=4000000/\Fin ys H)\/(J.go i H/\ys.length < 4000000/\∀x H',J.yld i H x H'->g x (List.replicate ts.length none++bJ js σ) H' fun σ2 H2=>tc σ2 H2 fun b H3 =>
   if b=true then tk σ2 H3 fun y H4=>∃z,y=kV z/\tv σ2 H4 fun v H5=>∃m',m' < m/\W (i+1) m' (eD ys z v) H5 else ∃m',m' < m/\W (i+1) m' ys H3))
  (hRR:∀D C s' H' ys m,Inv X pins σ (upd H' D (.dK ys)) s'->s'.heap.Ns C m->s.heap.objs.size<=C->s.heap.objs.size<=D->C≠D->H' C=none->H' D=none->Fin ys H'->RR (.ref D) C (.ok .next) s') :
  (wq X) (newDict) (fun acc s₃=>(wq X) (newFunctionEnv scope X.env.globals (bU X.env.cells scope.names []) [] X.env.qual none .none (some X.env)) (fun cenv s₄ =>
   codeAny (model X.prog X.w) X.A (.compStart (.DictComp kx vx [⟨tg,iter,ifs,0⟩] scope pos) 0 (.ref it) acc { cenv with scope:=relabel scope X.env }) (RR acc cenv.locals) s₄) E s₃) E s:=by
 refine pH ?_;refine(lH CS.one CS.kind (fun h₁ hns₁ hcl₁ hold₁=>?_));dsimp only at hns₁ hcl₁ hold₁ ⊢;generalize hH2:s.heap.push {cls:=.type "dict",data:=.dict #[]}=H2 at hns₁ hcl₁ hold₁ ⊢;generalize ho0:({cls:=.type "dict",data:=.dict #[]}:Obj)=o0 at hH2;have hs0:Gf X.prog X.w o0 []:=by rw[<- ho0];exact Gf.fresh _ _
 have hnc:∀v,o0.data≠.cell v:=by rw[<- ho0];intro v z;cases z
 have hfz:o0.isFreed=false:=by rw[<- ho0];rfl
 clear ho0;have hCs:H2.objs.size=s.heap.objs.size+1:=by rw[<- hH2,EA]
 have hDC:s.heap.objs.size≠H2.objs.size:=by rw[hCs];exact AZ (Cb _)
 have hCle:s.heap.objs.size<=H2.objs.size:=by rw[hCs];exact BO _
 have below:∀b,b<s.heap.objs.size->b≠H2.objs.size:=fun b hb=>by rw[hCs];exact AZ (BP hb)
 have old:∀b o,s.heap.get? b=some o->h₁.get? b=some o:=fun b o e=>hold₁ b o (hH2▸Es _ e);have hacc:h₁.get? s.heap.objs.size=some (o0):=hold₁ _ _ (hH2▸Et _ hfz);have hfl:∀b∈fp,b<s.heap.objs.size:=fun b hb=>by obtain⟨o,e,_⟩:=T.obj _ _ st b hb;exact Eg e
 have st₁:tn 0 h₁:=T.keep _ _ _ st fun b _ o e=>old b o e;have hDstk:s.heap.objs.size∉frs X.stack:=fun z=>by
  obtain⟨_,o,ho,_⟩:=I.stack.mem z;exact absurd (Eg ho) (Bx _)
 have I0:Inv (aJ X scope t H2.objs.size fp (ts++cap) s H) [(s.heap.objs.size,o0)] (List.replicate ts.length none++bJ js σ) H {s with heap:=h₁,toks:=s.toks}:=
  eT I CS hf hfl hCle old hns₁ hcl₁ rfl I.bare fun p hp=>by
   have e:p=(s.heap.objs.size,o0):=by simpa using hp
   subst e;exact⟨hacc,I.hok.fresh (AW _),hDC,hDstk,hnc⟩
 have stat:∀{H':Hp}{o:Obj},(∀b∈fp,H' b=none)->∀b∈fp,EW (aJ X scope t H2.objs.size fp (ts++cap) s H) [(s.heap.objs.size,o)] H' b:=fun {H' o} hn b hb=>by
  obtain⟨f0,f1,f2,f3,f4,f5⟩:=hf b hb;refine⟨hn b hb,below b (hfl b hb),?_,.inl hb,fun x c e=>?_,fun p hp=>?_⟩
  ·exact(eY I CS hf hfl hCle).HX b hb
  ·rcases CS.Gh I.ok e with ⟨_,q⟩|q
   ·rw[q];exact Er (AZ (Bc (hfl b hb) (Co hCle)))
   ·exact f4 x c q
  ·rcases Bb.mp hp with z|z
   ·exact f5 p (Bn _ z)
   ·have e:p=(s.heap.objs.size,o):=by simpa using z
    subst e;intro q;have q':s.heap.objs.size=b:=q;exact absurd (hfl b hb) (by rw[<- q'];exact Bx _)
 have loop:∀s₃:Shared,s₃={s with heap:=h₁,toks:=s.toks} ->
   codeAny (model X.prog X.w) X.A (.compLoop (.DictComp kx vx [⟨tg,iter,ifs,0⟩] scope pos) 0 (.ref it) (.ref s.heap.objs.size) (compEnvC scope (sk t H2.objs.size (bU X.env.cells scope.names [])) H2.objs.size X.env))
    (RR (.ref s.heap.objs.size) H2.objs.size) s₃:=by
  rintro s₃ rfl;refine jm (fun k s'=>∃i H' ys o,Inv (aJ X scope t H2.objs.size fp (ts++cap) s H) [(s.heap.objs.size,o)] (List.replicate ts.length none++bJ js σ) H' s'/\Gf X.prog X.w o ys/\tn i s'.heap/\(∀b∈fp,H' b=none)/\W i k ys H') ?_ m0
   ⟨0,H,[],o0,I0,hs0,st₁,fun b hb=>(hf b hb).1,w0⟩
  rintro k s3 ⟨i,H3,ys,o,I3,v3,st3,fr3,w3⟩;rcases turn i k ys H3 w3 with ⟨stop,hz,fin⟩|⟨go,hz,step⟩
  ·refine thn ((TA _).done i _ s3 _ H3 _ I3 (stat fr3) st3 stop) fun r s4 hq98=>?_;obtain⟨hr,I4⟩:=hq98;subst hr;obtain⟨m4,hn4,_⟩:=I4.loc;exact hRR _ _ s4 H3 ys m4 (kU I hf hCle (AW _) I4 v3 (Bm hz (by have:=sizeLine_eq;lia))) hn4 hCle (AW _) (Er hDC) I4.free (I4.pin (s.heap.objs.size,o) (AY _ Bj)).2.1 fin
  ·refine thn ((TA _).item i _ s3 _ H3 _ I3 (stat fr3) st3 go) fun r s4 hq99=>?_;obtain⟨u,hr,h4⟩:=hq99;subst hr;refine thn h4 fun _ s5 hq100=>?_;obtain⟨x,H5,I5,r5,y5,st5,fr5⟩:=hq100;have I5':=I5.pinned (stat fr5) (T.obj _ _ st5);refine thn (hg _ _ _ _ _ s5 _ H5 x u _ I5' r5 (step x H5 y5)) fun _ s6 hq101=>?_;obtain⟨σ6,H6,I6,q6⟩:=hq101;refine thn (ht _ _ _ _ _ s6 σ6 H6 _ I6 q6) fun ok s7 hq102=>?_;obtain⟨H7,I7,q7⟩:=hq102;have pinned:∀{σ':St}{H':Hp}{s':Shared},Inv (aJ X scope t H2.objs.size fp (ts++cap) s H) ([(s.heap.objs.size,o)]++bO fp s5.heap) σ' H' s'->tn (i+1) s'.heap/\∀b∈fp,H' b=none:=fun {σ' H' s'} J=>by
    refine⟨T.keep _ _ _ st5 fun b hb o e=>(J.pin (b,o) (AY _ (AY _ (aS hb e)))).1,fun b hb=>?_⟩;obtain⟨o,e,d⟩:=T.obj _ _ st5 b hb;exact(J.pin (b,o) (AY _ (AY _ (aS hb e)))).2.1
   cases ok with
   |false=>
    rw[DY Bt] at q7 ⊢;obtain⟨m',hm,w7⟩:=q7;obtain⟨st7,fr7⟩:=pinned I7;exact⟨m',hm,i+1,H7,ys,o,bE I CS hf I7.ES,v3,st7,fr7,w7⟩
   |true=>
    rw[DZ rfl] at q7 ⊢;refine thn (hk _ _ _ _ _ s7 σ6 H7 _ I7 q7) fun kv s7' hq103=>?_;obtain⟨y,H7',I7',r7,z,ez,q7'⟩:=hq103;subst ez;refine thn (he _ _ _ _ _ s7' σ6 H7' _ I7' q7') fun yv s8 hq104=>?_;obtain⟨v,H8,I8,r8,m',hm,w8⟩:=hq104;obtain⟨st8,fr8⟩:=pinned I8;have I8':=bE I CS hf I8.ES;obtain⟨hDg,hDn,hDC',hDs,hDd⟩:=I8'.pin (s.heap.objs.size,o) (AY _ Bj);refine putL hDg v3 r7 r8 (Bm (BF hz) (by have:=sizeLine_eq;lia)) fun h9 o9 hs9 hD9 v9=>?_;have nc9:=v9.nc;have tracked:∀b o,b≠s.heap.objs.size->s8.heap.get? b=some o->h9.get? b=some o:=fun b o hb e=>hs9.extBut b o hb e;have I9:Inv (aJ X scope t H2.objs.size fp (ts++cap) s H) [(s.heap.objs.size,o9)] (List.replicate ts.length none++bJ js σ) H8 {s8 with heap:=h9,toks:=s8.toks+1}:=by
     have J0:Inv (aJ X scope t H2.objs.size fp (ts++cap) s H) [] (List.replicate ts.length none++bJ js σ) H8 s8:=I8'.Fo (fun p hp=>absurd hp (by simp))
     have J:Inv (aJ X scope t H2.objs.size fp (ts++cap) s H) [] (List.replicate ts.length none++bJ js σ) H8 { s8 with heap:=h9,toks:=s8.toks+1 }:=J0.turned (it:=s.heap.objs.size) tracked hDn hDC' (.inr (Heap.get?_none_of_le (AW _))) (fun x c e q=>by
      rcases CS.Gh I.ok e with ⟨_,z⟩|z
      ·rw[z,hCs] at q;exact absurd q (Er (AZ (BP (Cb _))))
      ·obtain⟨v,o,ho,_⟩:=I.cell x c z;rw[q] at ho;exact absurd (Eg ho) (Bx _)) (fun p hp q=>by
       rw[BD] at hp;obtain⟨e,_⟩:=I.pin p (Bn _ hp);rw[q] at e
       exact absurd (Eg e) (Bx _))
     refine J.Fo fun p hp=>?_;have e:p=(s.heap.objs.size,o9):=by simpa using hp
     subst e;exact⟨hD9,hDn,hDC',hDs,nc9⟩
    have st9:tn (i+1) h9:=T.keep _ _ _ st8 fun b hb o e=>tracked b o (AZ (hfl b hb)) e;exact⟨m',hm,i+1,H8,eD ys z v,o9,I9,v9,st9,fr8,w8⟩
 exact codeAny_compStart_dict (loop _ rfl) (T.self _ _ _ _ _ st₁ (loop _ rfl))
end
section
variable {X:Cx}{scope:Scope}{ts cap:List Str}{js:List Nat}{tg kx vx iter:Expr}{ifs:List Expr}{pos:Pos}{wi:TI}{g:TG}{tc:TT}{tk tv:TE}
def qv (J:It)(k:Nat)(js:List Nat)(g:TG)(tc:TT)(tk tv:TE)(σ:St)(H1:Hp)(Q:List (Key×V)->Hp->Prop):Prop:=
 ∃W:Nat->Nat->List (Key×V)->Hp->Prop,(∃m,W 0 m [] H1)/\∀i m ys H,W i m ys H ->
  (J.stop i H/\ys.length<=4000000/\Q ys H) \/
  (J.go i H/\ys.length<4000000/\∀x H',J.yld i H x H'->g x (List.replicate k none++bJ js σ) H' fun σ2 H2=>tc σ2 H2 fun b H3=>if b=true then tk σ2 H3 fun y H4=>∃z,y=kV z/\tv σ2 H4 fun v H5=>∃m',m'<m/\W (i+1) m' (eD ys z v) H5 else ∃m',m'<m/\W (i+1) m' ys H3)
def sL (wi:TI)(k:Nat)(js:List Nat)(g:TG)(tc:TT)(tk tv:TE):TE:=fun σ H Q=>wi σ H fun J H1=>qv J k js g tc tk tv σ H1 fun ys H2=>∀l,H2 l=none->Q (.ref l) (upd H2 l (.dK ys))
theorem qa(hc:X.calm=true)(CS:aM X scope ts cap js)(hi:PI X tg iter wi)(hg:∀C fp s H,PG (ax X scope C fp (ts++cap) s H) tg g)
  (ht:∀C fp s H,PTs (ax X scope C fp (ts++cap) s H) ifs tc)(hk:∀C fp s H,PE (ax X scope C fp (ts++cap) s H) kx tk)(he:∀C fp s H,PE (ax X scope C fp (ts++cap) s H) vx tv)
  (hs:∀x,foldedSetIterable iter X.env x=pure x:=by intro _;rfl):PE X (.DictComp kx vx [⟨tg,iter,ifs,0⟩] scope pos) (sL wi ts.length js g tc tk tv):=by
 intro pins s σ H Q I h;refine wpAny_comprehension_free (e:=.DictComp kx vx [⟨tg,iter,ifs,0⟩] scope pos) (use:=none) rfl hs (bf (CS.cells I.ok)) CS.kind CS.names (thn (hi pins s σ H _ I h) fun v s1 h1=>thn h1 fun itv s2 h2=>?_);obtain⟨it,fp,tn,J,H2,e,I2,T,st2,f2,W,⟨m0,w0⟩,turn⟩:=h2;subst e;refine jj (Fin:=fun ys H2=>∀l,H2 l=none->Q (.ref l) (upd H2 l (.dK ys))) (RR:=fun acc C=>compPost (model X.prog X.w) X.A X.xe none (EP X pins σ Q) acc C) I2 ⟨T.obj,T.keep,T.self⟩ (fun C=>⟨T.item (ax X scope C fp (ts++cap) s2 H2) rfl rfl rfl hc,T.done (ax X scope C fp (ts++cap) s2 H2) rfl rfl rfl hc⟩) st2 f2 CS hg ht hk he w0 turn ?_;intro D C s' H' ys m I' hn hC hD hCD hHC hHD fin;have szL:=I2.lt;have low:∀b o,s2.heap.get? b=some o->b≠C:=fun b o e=>AZ (Bc (Eg e) hC);refine⟨m,hn,fun h' hs'=>⟨.ref D,_,bK (n0:=0) I' (Heap.get?_none_of_le (Bm I2.sz hC)) (AZ (Bc szL hC)) (fun x c e=>?_) (fun p hp=>?_) (by rw[ao hCD];exact hHC) hs',rfl,fin D hHD⟩⟩
 ·obtain⟨v,o,ho,_⟩:=I2.cell x c e;exact low c o ho
 ·exact low _ _ (I2.pin p hp).1
end
theorem kI{P:Program}{w:World}{es:List DictEntry}{vs:List (Key×Value)}(h:Pairs (aH P w) es vs):es.length=vs.length:=by
 induction h with
 |nil=>rfl
 |cons _ _ _ ih=>exact congrArg (·+1) ih
theorem oX{P:Program}{w:World}{es:List DictEntry}{vs:List (Key×Value)}(h:Pairs (aH P w) es vs):∀{i:Nat}{e:DictEntry}{q:Key×Value},es[i]?=some e->vs[i]?=some q->(aH P w).is q.1 e.key=true:=by
 induction h with
 |nil=>intro i e q h1;simp at h1
 |cons a _ _ ih=>
  intro i e q h1 h2;cases i with
  |zero=>simp at h1 h2;subst h1 h2;exact a
  |succ i=>exact ih (by simpa using h1) (by simpa using h2)
theorem KV.at:∀{kvs:List (Key×V)}{xs:List (Key×Value)}{i:Nat}{p:Key×V},KV kvs xs->kvs[i]?=some p->∃q,xs[i]?=some q/\p.1=q.1/\RelV p.2 q.2
 |_,_,_,_,.nil,h=>by simp at h
 |_,_,0,_,.cons r _,h=>by simp at h;subst h;exact⟨_,rfl,r⟩
 |_,_,i+1,p,.cons _ t,h=>by
  obtain⟨q,e,r⟩:=KV.at (i:=i) (p:=p) t (by simpa using h);exact⟨q,by simpa using e,r⟩
def ItK (a:Addr)(o:Obj)(kvs:List (Key×V)):It:=
 ⟨fun i H=>H a=some (.frz o (.dK kvs))/\(∀p∈kvs,∃z,p.1=Sum.inr z)/\i<kvs.length,fun i H x H'=>H'=H/\∃p z,kvs[i]?=some p/\p.1=Sum.inr z/\x=.str z,fun i H=>H a=some (.frz o (.dK kvs))/\(∀p∈kvs,∃z,p.1=Sum.inr z)/\kvs.length<=i⟩
theorem kH{P:Program}{w:World}{K:W.Frag}{tg:Expr}(a it:Addr)(o:Obj)(kvs:List (Key×V)):Turn P w K tg (ItK a o kvs) [it] it (fun i h=>∃es ep,o.data=.dict es ep/\es.size=kvs.length/\h.IsKeyIter it a i es.size ep) where
 mem:=by simp
 obj:=fun i h st b hb=>by
  have e:b=it:=by simpa using hb
  subst e;obtain⟨es,ep,_,_,o',e,c,d⟩:=st;exact⟨o',e,fun v z=>by rw[d] at z;cases z⟩
 keep:=fun i h h' st k=>by
  obtain⟨es,ep,e1,e2,st⟩:=st;exact⟨es,ep,e1,e2,st.at fun o e=>k it (by simp) o e⟩
 item:=by
  intro X hP hw hK hc i pins s σ H E I hf st hg;subst hP hw hK;obtain⟨es,ep,hd,hn,st⟩:=st;obtain⟨ha,hs,hi⟩:=hg;obtain⟨hoa,hz,hm,xs,kt,o',es',ep',ho',hc',hd',hks,he',_⟩:=I.hok a _ ha;rw[hoa] at ho';cases ho';rw[hd] at hd';cases hd';have hi':i<es.size:=by lia
  obtain⟨f0,f1,f2,f3,f4,f5⟩:=hf it (by simp);refine pd st hoa hd hi' fun h' st' sb=>?_;have I1:Inv X pins σ H {s with heap:=h'}:=I.turned (t':=s.toks) (fun b o hb e=>(sb.2 b hb).trans e) f0 f1 f3 f4 f5;obtain⟨q,eq,e1,e2⟩:=KV.at kt (Bf hi);obtain⟨z,ez⟩:=hs kvs[i] (BE hi);have e4:(aH X.prog X.w).is q.1 es[i].key=true:=oX he' (by simp[hi']) eq;rw[<- e1,ez] at e4;obtain⟨tz,ev⟩:=qt e4;obtain⟨oi,e,c,d⟩:=id st';rw[ev];exact⟨_,rfl,lg (s:={s with heap:=h'}) e c d (by decide) ⟨.str z,H,I1,⟨tz,rfl⟩,⟨rfl,kvs[i],z,Bf hi,ez,rfl⟩,⟨es,ep,hd,hn,st'⟩,fun b hb=>(hf b hb).1⟩⟩
 done:=by
  intro X hP hw hK hc i pins s σ H E I hf st hg;subst hP hw hK;obtain⟨es,ep,hd,hn,st⟩:=st;obtain⟨ha,hs,hi⟩:=hg;obtain⟨hoa,_⟩:=I.hok a _ ha;obtain⟨f0,f1,f2,f3,f4,f5⟩:=hf it (by simp);exact rE (I.ok.hd hc) st hoa hd (by lia) fun h' eb=>⟨rfl,I.turned (t':=s.toks) (fun b o hb e=>eb b o hb e) f0 f1 f3 f4 f5⟩
 self:=fun _ _ _ _ _ st h=>by
  obtain⟨es,ep,_,_,st⟩:=st;exact wpAny_pyIter_keyiter st h
section
variable {X:Cx}{tg:Expr}
def sF (tl:TE):TI:=fun σ H R=>tl σ H fun x H1=>∃a kvs,x=.ref a/\H1 a=some (.dK kvs)/\∀o,R (ItK a o kvs) (upd H1 a (.frz o (.dK kvs)))
theorem oa{l:Expr}{tl:TE}(hl:PE X l tl):PI X tg l (sF tl):=by
 intro pins s σ H R I h;refine thn (hl pins s σ H _ I h) fun v s1 hq105=>?_;obtain⟨x,H1,I1,r1,q1⟩:=hq105;obtain⟨a,kvs,e,hd,q⟩:=q1;subst e;cases r1;obtain⟨hz,hm,xs,kt,o,es,ep,ho,hc,hdd,hks,he,_⟩:=I1.hok a _ hd;refine ky hm ho hc hdd ?_;have I2:=I1.freeze hd ho (fun _ z=>by cases z) (fun _ _ z=>by cases z) (fun _ z=>by cases z) (fun _ z=>by cases z);have hn:es.size=kvs.length:=by
  have h1:es.toList.length=xs.length:=kI he;rw[Bu] at h1;rw[h1];exact kt.length.symm
 refine⟨s1.heap.objs.size,[s1.heap.objs.size],_,_,upd H1 a (.frz o (.dK kvs)),rfl,I2.kept (t':=s1.toks) fun b o e=>Es _ e,kH a _ o kvs,⟨es,ep,hdd,hn,_,Et _ rfl,rfl,rfl⟩,fun b hb=>?_,q o⟩;have e:b=s1.heap.objs.size:=by simpa using hb
 subst e;exact I2.IJ (AW _) (I2.hok.fresh (AW _))
end
abbrev NxD(n i:Nat)(P:Nat->List (Key×V)->Hp->Prop)(ys:List (Key×V))(H:Hp):Prop:=∃m',m'<n-i/\(m'=n-(i+1)/\i+1<=n/\P (i+1) ys H)
theorem NxD.mk{n i:Nat}{P:Nat->List (Key×V)->Hp->Prop}{ys:List (Key×V)}{H:Hp}(hi:i<n)(h:P (i+1) ys H):NxD n i P ys H:=⟨n-(i+1),by lia,rfl,hi,h⟩
theorem sZ{K:W.Frag}{a:Addr}{xs:List V}{k:Nat}{js:List Nat}{g:TG}{tc:TT}{tk tv:TE}{σ:St}{H:Hp}{Q:List (Key×V)->Hp->Prop}(P:Nat->List (Key×V)->Hp->Prop)(h0:P 0 [] H)(hz:∀i ys H,i<=xs.length->P i ys H->ys.length<=i)(hn:xs.length<=4000000)
  (hl:∀i ys H,i<=xs.length->P i ys H->SqL K H a xs)
  (hs:∀i x ys H,xs[i]?=some x->P i ys H->g x (List.replicate k none++bJ js σ) H fun σ2 H2=>tc σ2 H2 fun b H3=>if b=true then tk σ2 H3 fun y H4=>∃z,y=kV z/\tv σ2 H4 fun v H5=>NxD xs.length i P (eD ys z v) H5 else NxD xs.length i P ys H3)
  (hd:∀ys H,P xs.length ys H->Q ys H):qv (Itl K a) k js g tc tk tv σ H Q:=by
 refine⟨fun i m ys H=>m=xs.length-i/\i<=xs.length/\P i ys H,⟨_,rfl,Bo _,h0⟩,?_⟩;rintro i m ys H ⟨rfl,hi,p⟩;have q:=hl i ys H hi p;have ly:=hz i ys H hi p;by_cases hlt:i<xs.length
 ·refine .inr ⟨⟨xs,xs[i],q,by simp[hlt]⟩,by lia,fun x H' y=>?_⟩;obtain⟨e,y⟩:=y;subst e;exact hs i x ys _ (y xs q) p
 ·have e:i=xs.length:=by lia
  subst e;exact .inl ⟨⟨xs,q,AW _⟩,by lia,hd ys H p⟩
theorem tU{a:Addr}{o:Obj}{kvs:List (Key×V)}{k:Nat}{js:List Nat}{g:TG}{tc:TT}{wi1:TI}{g1:TG}{tc1:TT}{te:TE}{σ:St}{H:Hp}{Q:VK}(hk:∀p∈kvs,∃z,p.1=Sum.inr z)(P:Nat->List V->Hp->Prop)(h0:P 0 [] H)(hz:∀i ys H,i<=kvs.length->P i ys H->ys.length<=sizeLine)
  (hl:∀i ys H,i<=kvs.length->P i ys H->H a=some (.frz o (.dK kvs)))
  (hs:∀i z v ys H,kvs[i]?=some (Sum.inr z,v)->P i ys H->g (.str z) (List.replicate k none++bJ js σ) H fun σ2 H2=>tc σ2 H2 fun b H3=>if b=true then wi1 σ2 H3 fun J1 H4=>fX J1 g1 tc1 te σ2 H4 ys fun ys' H5=>Nx kvs.length i P ys' H5 else Nx kvs.length i P ys H3)
  (hd:∀ys H,P kvs.length ys H->∀p,H p=none->Q (.ref p) (upd H p (.lst ys))):jZ (ItK a o kvs) k js g tc wi1 g1 tc1 te σ H Q:=
 jS P h0 hz (fun i ys H h p=>⟨hl i ys H (BF h) p,hk,h⟩) (fun ys H p=>⟨hl _ ys H (AW _) p,hk,AW _⟩) (fun i ys H x H' hi p y=>by
  obtain⟨e,q,z,h1,h2,h3⟩:=y;subst e h3;refine hs i z q.2 ys _ ?_ p
  rw[h1,<- h2]) hd
theorem uy{K:W.Frag}{a:Addr}{xs:List V}{g:TG}{tc:TT}{te:TE}{σ0:St}{H0:Hp}{ys0:List V}{Q:List V->Hp->Prop}(P:Nat->St->List V->Hp->Prop)(h0:P 0 σ0 ys0 H0)(hz:∀j σ ys H,j<=xs.length->P j σ ys H->ys.length<sizeLine)
  (hl:∀j σ ys H,j<=xs.length->P j σ ys H->SqL K H a xs)
  (hs:∀j σ ys H x,xs[j]?=some x->P j σ ys H->g x σ H fun σ2 H2=>tc σ2 H2 fun b H3=>if b=true then te σ2 H3 fun y H4=>NxV xs.length j P σ2 (ys++[y]) H4 else NxV xs.length j P σ2 ys H3)
  (hd:∀σ ys H,P xs.length σ ys H->Q ys H):fX (Itl K a) g tc te σ0 H0 ys0 Q:=
 kq P h0 hz (fun j σ ys H h p=>⟨xs,xs[j],hl j σ ys H (BF h) p,by simp [h]⟩) (fun σ ys H p=>⟨xs,hl _ σ ys H (AW _) p,AW _⟩) (fun j σ ys H x H' hj p y=>by
  obtain⟨e,y⟩:=y;subst e
  exact hs j σ ys _ x (y xs (hl j σ ys _ (BF hj) p)) p) hd
section
variable {M:Model}{A:Around}{E:Value->Shared->Prop}{s:Shared}{F:Addr->Prop}{base:Heap}{env:Env}{outer:List Env}{L x:Addr}{cls:Value}
theorem fN{e1 e2:Env}{x:Value}(h:e1.frame=e2.frame):noteFrame x e1=noteFrame x e2:=by
 unfold noteFrame PySem.frameOf;rw[h]
theorem rQ{fl:Value}{fr:Option Addr}{Q:Unit->Shared->Prop}(t:Flt F s.heap x cls fl){fs:List Addr}(h:∀h' fl',Kp F fs s.heap h'->Flt F h' x cls fl'->Q () {s with heap:=h'}):wpAny M A (setFlight (.ref x) fr) Q E s:=by
 obtain⟨vs,T,oT,ts,⟨⟨oe,he,hc,hdd,hd⟩,h2⟩,h1,hTx,hT,hdT,h3,fx,fT⟩:=t;have z3:3<ts.size:=(Cr.mp h3).1;unfold setFlight;refine DU (wpAny_field he hd h1 ?_);rw[DZ (show(Value.ref T != Value.none)=true from by simp)];generalize (fr.elim Value.none fun f=>rawInt (f:Int))=fl';have oth:∀b,b≠T->(s.heap.update T (Obj.mapFields (·.setIfInBounds 3 fl'))).get? b=s.heap.get? b:=fun b hb=>Heap.get?_update_other _ _ (Er hb);have slf:=Heap.get?_update_self (Obj.mapFields (·.setIfInBounds 3 fl')) hT (Obj.isFreed_of_fields (Obj.data_mapFields hdT _));refine wpAny_setField hT hdT z3 (h _ fl' ⟨fun b o e n _=>?_,fun b o e n=>⟨o.slots,?_⟩,fun b o e=>?_⟩ ?_)
 ·exact(oth b fun z=>n (z▸fT)).trans e
 ·exact(oth b fun z=>n (z▸fT)).trans e
 ·by_cases z:b=T
  ·subst z;exact⟨_,slf⟩
  ·exact⟨o,(oth b z).trans e⟩
 ·exact⟨vs,T,_,_,⟨⟨oe,(oth x (Er hTx)).trans he,hc,hdd,hd⟩,h2⟩,h1,hTx,slf,Obj.data_mapFields hdT _,by simp[z3],fx,fT⟩
theorem si{α:Type}{what:String}{cenv:Env}{fl:Value}{Q:α->Shared->Prop}(t:Flt F s.heap x cls fl){fs:List Addr}(h:∀h' fl',Kp F fs s.heap h'->Flt F h' x cls fl'->E (.ref x) {s with heap:=h'}):wpAny M A (PySem.passOn what (.ref x) cenv:Sem α) Q E s:=by
 obtain⟨vs,T,oT,ts,⟨⟨oe,he,hc,hdd,hd⟩,h2⟩,h1,hTx,hT,hdT,h3,fx,fT⟩:=id t;unfold PySem.passOn;refine DU (wpAny_field he hd h1 ?_);rw[DY (show ¬((Value.ref T==Value.none)=true) from by simp)];exact DU (rQ t fun h' fl' k t'=>wpAny_throw (h h' fl' k t'))
theorem pR{fl:Value}{Q:Unit->Shared->Prop}(hfr:A.frames=some (env::outer))(hl:s.heap.FunFrames base (env::outer))(hf:env.frame=some L)(t:Flt F s.heap x cls fl)(hF:∀b,s.heap.objs.size<=b->F b)
  (h:∀h',Kp F (frs (env::outer)) s.heap h'->Flt F h' x cls (rawInt L)->Q () {s with heap:=h'}):wpAny M A (noteFrame (.ref x) env) Q E s:=by
 obtain⟨vs,T,oT,ts,⟨⟨oe,he,hc,hdd,hd⟩,h2⟩,h1,hTx,hT,hdT,h3,fx,fT⟩:=t;have z3:3<ts.size:=(Cr.mp h3).1;unfold noteFrame;simp only[hf];refine DU (wpAny_field he hd h1 ?_);rw[DZ (show(Value.ref T != Value.none)=true from by simp)];refine DU (wpAny_field hT hdT h3 ?_);cases hb:(fl==rawInt (L:Int)) with
 |true=>
  rw[DZ rfl];have e:fl=rawInt (L:Int):=eq_of_beq hb;subst e;exact DV (h s.heap (Kp.refl _) ⟨vs,T,oT,ts,⟨⟨oe,he,hc,hdd,hd⟩,h2⟩,h1,hTx,hT,hdT,h3,fx,fT⟩)
 |false=>
  rw[DY (by decide)];have oth:∀b,b≠T->(s.heap.update T (Obj.mapFields (·.setIfInBounds 3 Value.none))).get? b=s.heap.get? b:=fun b hb=>Heap.get?_update_other _ _ (Er hb);have slf:=Heap.get?_update_self (Obj.mapFields (·.setIfInBounds 3 Value.none)) hT (Obj.isFreed_of_fields (Obj.data_mapFields hdT _));have nrec:∀b o,s.heap.get? b=some o->(∀vs,o.data≠.fields vs)->b≠T:=fun b o e nf z=>by
   rw[z,hT] at e;cases e;exact nf ts hdT
  have k1:Kp F (frs (env::outer)) s.heap (s.heap.update T (Obj.mapFields (·.setIfInBounds 3 Value.none))):=⟨fun b o e n _=>(oth b fun z=>n (z ▸ fT)).trans e,fun b o e n=>⟨o.slots,(oth b fun z=>n (z ▸ fT)).trans e⟩,fun b o e=>by
   by_cases z:b=T
   ·subst z;exact⟨_,slf⟩
   ·exact⟨o,(oth b z).trans e⟩⟩
  refine DU (wpAny_setField hT hdT z3 ?_);refine dW (s:={s with heap:=s.heap.update T (Obj.mapFields (·.setIfInBounds 3 Value.none))}) hfr (hl.of_keeps fun b o e nf=>⟨o,(oth b (nrec b o e nf)).trans e,rfl⟩) hf (vs:=vs) ⟨⟨oe,(oth x (Er hTx)).trans he,hc,hdd,hd⟩,h2⟩ (Cr.mp h1).1 fx (fun b hb=>hF b (by rwa [Heap.size_update] at hb)) ?_;intro h' k2 t2;exact h h' (k1.trans k2) t2
end
def OutF (X:Cx)(pins:List (Addr×Obj))(x:Addr)(cls:Value)(σ:St)(H:Hp)(s:Shared):Prop:=Inv X pins σ H s/\∃fl,Flt (EW X pins H) s.heap x cls fl
def vS (X:Cx)(EX:XS):Prop:=∀(pins:List (Addr×Obj))(σ:St)(H:Hp)(s:Shared)(x:Addr)(cls:Value),OutF X pins x cls σ H s->EX cls σ H->X.xe (.ref x) s
theorem pY{P:Program}{w:World}{K:W.Frag}{mg:Str->Option Value}{base:Heap}{N:List Str}{qual:Str}{scope:Scope}{f:Addr}{cd:Value}{A:Around}{outer:List Env}{s0:Shared}{H0:Hp}{E:XK} :
  vS (bB (CXe P w) P w K mg base N qual scope f cd A outer s0 H0 E) (fun cls _ H=>E cls none H):=by
 intro pins σ H s x cls ⟨I,fl,t⟩ q;show wpAny (model P w) (A.deeper (envOfC qual scope s0.heap.objs.size f cd)) (leaving (envOfC qual scope s0.heap.objs.size f cd) (.ref x)) _ _ s;unfold leaving;refine DU ?_;refine pR (base:=base) (env:=envOfC qual scope s0.heap.objs.size f cd) (outer:=outer) (L:=s0.heap.objs.size) (by exact I.ok.frames) I.stack rfl t I.GA fun h1 k1 t1=>?_;refine kh (s:={s with heap:=h1}) (fs:=frs (envOfC qual scope s0.heap.objs.size f cd::outer)) t1 fun h2 k2 t2=>?_;have I2:=I.FY (t':=s.toks) (k1.trans k2);refine⟨x,cls,H,rfl,I2.os,I2.bare,I2.base,I2.hok,t2.imp fun b fb=>⟨?_,fb.1⟩,q⟩;rcases fb.2.2.2.1 with z|z
 ·exact absurd (show b∈([]:List Addr) from z) (by simp)
 ·exact z
theorem iT{prog:Program}{w:World}{A:Around}{R:Result->Shared->Prop}{s:Shared}{elt target iter:Expr}{ifs:List Expr}{scope:Scope}{pos:Pos}{it acc:Value}{env:Env}(I:Nat->Shared->Prop)
  (turn:∀n s,I n s->wpAny (model prog w) A (pyNext it) (fun r s₁=>match r with
   |none=>R (.ok .next) s₁
   | some v=>wpAny (model prog w) A (letOwnedTupleGo target it v) (fun _ s₁'=>wpAny (model prog w) A (assign target env v) (fun _ s₂ =>
     wpAny (model prog w) A (forIn ifs true fun c r=>if r=true then do let ok <- isTrue c env (eval c env); pure (ForInStep.yield ok) else pure (ForInStep.yield r)) (fun ok s₃ =>
      if ok=true then wpAny (model prog w) A (eval elt env) (fun x s₄ =>
       wpAny (model prog w) A (call (.builtin "list.append") [acc,x]) (fun _ s₅=>∃m,m < n/\I m s₅) (fun _ _=>False) s₄) (notedBy (model prog w) A env fun x s'=>R (.error x) s') s₃
      else ∃m,m < n/\I m s₃) (fun _ _=>False) s₂) (fun _ _=>False) s₁') (fun _ _=>False) s₁) (fun _ _=>False) s)
  (n:Nat) (h:I n s):codeAny (model prog w) A (.compLoop (.ListComp elt [⟨target,iter,ifs,0⟩] scope pos) 0 it acc env) R s:=by
 refine codeAny_loop rfl I (fun n s hI=>?_) n h;show wpAny _ A ((compTurn (.ListComp elt [⟨target,iter,ifs,0⟩] scope pos) 0 it acc env).onRaise (fun x=>do noteFrame x env;theTreesLotGoes x)) _ _ s;refine wpAny_noted ?_;rw[compTurn_list];refine DU (wpAny_standAt (DU (Ed (turn n s hI) (fun r s₁ h₁=>?_) fun _ _ h'=>h'.elim)));cases r with
 |none=>exact DV h₁
 |some v=>
  refine DU (Ed h₁ (fun _ s₁' h₁'=>?_) fun _ _ h'=>h'.elim);refine DU (Ed h₁' (fun _ s₂ h₂=>DU (Ed h₂ (fun ok s₃ h₃=>?_) fun _ _ h'=>h'.elim)) fun _ _ h'=>h'.elim);cases ok with
  |false=>exact DV ⟨rfl,h₃⟩
  |true=>
   exact DU (DU (Ed h₃ (fun x s₄ h₄=>DU (Ed h₄ (fun _ s₅ h₅=>DV (DV ⟨rfl,h₅⟩)) fun _ _ h'=>h'.elim)) fun _ _ h'=>h'))
section
variable {X:Cx}{pins:List (Addr×Obj)}{σ:St}{H:Hp}{s:Shared}{scope:Scope}{ts cap:List Str}{js:List Nat}{fp:List Addr}{C D:Addr}
theorem iX{tg elt iter:Expr}{ifs:List Expr}{pos:Pos}{g:TG}{tc:TT}{te:TE}{J:It}{it:Addr}{tn:Nat->Heap->Prop}{W:Nat->Nat->List V->Hp->Prop}{m0:Nat}{E:Value->Shared->Prop}
  {RR:Value->Addr->Result->Shared->Prop}{Fin:List V->Hp->Prop}{EX:XS}(hst:X.stack=X.env::X.outer)(hfrm:X.env.frame=some X.env.locals)
  (I:Inv X pins σ H s)(T:TurnOk X.prog X.w fp it tn)(TA:∀C,He (ax X scope C fp (ts++cap) s H) tg J fp it tn)(st:tn 0 s.heap)(hf:∀b∈fp,EW X pins H b)(CS:aM X scope ts cap js)
  (hg:∀C fp s H,PG (ax X scope C fp (ts++cap) s H) tg g)(ht:∀C fp s H,PTs (ax X scope C fp (ts++cap) s H) ifs tc)(he:∀C fp s H pn,PE (iW (ax X scope C fp (ts++cap) s H) pn EX) elt te)
  (w0:W 0 m0 [] H)
  (turn:∀i m ys H,W i m ys H->(J.stop i H/\ys.length<=sizeLine/\Fin ys H)\/(J.go i H/\ys.length < sizeLine/\∀x H',J.yld i H x H'->g x (List.replicate ts.length none++bJ js σ) H' fun σ2 H2=>tc σ2 H2 fun b H3 =>
   if b=true then te σ2 H3 fun y H4=>∃m',m' < m/\W (i+1) m' (ys++[y]) H4 else ∃m',m' < m/\W (i+1) m' ys H3))
  (hRR:∀D C s' H' ys m,Inv X pins σ (upd H' D (.lst ys)) s'->s'.heap.Ns C m->s.heap.objs.size<=C->s.heap.objs.size<=D->C≠D->H' C=none->H' D=none->Fin ys H'->RR (.ref D) C (.ok .next) s')
  (hRE:∀D C s' H' ys m x cls σ' fl,Inv X pins σ (upd H' D (.lst ys)) s'->s'.heap.Ns C m->s.heap.objs.size<=C->s.heap.objs.size<=D->C≠D->H' C=none->H' D=none->Flt (fun b=>EW X pins (upd H' D (.lst ys)) b/\b≠C) s'.heap x cls fl->EX cls σ' H'->RR (.ref D) C (.error (.ref x)) s') :
  (wq X) (newList []) (fun acc s₃=>(wq X) (newFunctionEnv scope X.env.globals (bU X.env.cells scope.names []) [] X.env.qual none .none (some X.env)) (fun cenv s₄ =>
   codeAny (model X.prog X.w) X.A (.compStart (.ListComp elt [⟨tg,iter,ifs,0⟩] scope pos) 0 (.ref it) acc { cenv with scope:=relabel scope X.env }) (RR acc cenv.locals) s₄) E s₃) E s:=by
 refine wpAny_newObj_type (wpAny_newFunctionEnv CS.Hu (by intro y hy;simp at hy) (fun h₁ hns₁ hsb₁=>?_) CS.kind);dsimp only at hns₁ hsb₁ ⊢;generalize hH2:s.heap.push {cls:=.type "list",dict:=none,data:=.seq ([]:List Value).toArray}=H2 at hns₁ hsb₁ ⊢;have hCs:H2.objs.size=s.heap.objs.size+1:=by rw[<- hH2,EA]
 have hDC:s.heap.objs.size≠H2.objs.size:=by rw[hCs];exact AZ (Cb _)
 have hCle:s.heap.objs.size<=H2.objs.size:=by rw[hCs];exact BO _
 have below:∀b,b<s.heap.objs.size->b≠H2.objs.size:=fun b hb=>by rw[hCs];exact AZ (BP hb)
 have old:∀b o,s.heap.get? b=some o->h₁.get? b=some o:=fun b o e=>hsb₁.extBut b o (below b (Eg e)) (Es _ (hH2▸Es _ e));have hacc:h₁.get? s.heap.objs.size=some (bL [] 0):=hsb₁.extBut _ _ hDC (Es _ (hH2▸Et _ rfl));have hfl:∀b∈fp,b<s.heap.objs.size:=fun b hb=>by obtain⟨o,e,_⟩:=T.obj _ _ st b hb;exact Eg e
 have st₁:tn 0 h₁:=T.keep _ _ _ st fun b _ o e=>old b o e;have hDstk:s.heap.objs.size∉frs X.stack:=fun z=>by
  obtain⟨_,o,ho,_⟩:=I.stack.mem z;exact absurd (Eg ho) (Bx _)
 have I0:Inv (ax X scope H2.objs.size fp (ts++cap) s H) [(s.heap.objs.size,bL [] 0)] (List.replicate ts.length none++bJ js σ) H {s with heap:=h₁,toks:=s.toks+([]:List (Str×Value)).length}:=
  jJ I CS hf hfl hCle old hns₁ rfl I.bare fun p hp=>by
   have e:p=(s.heap.objs.size,bL [] 0):=by simpa using hp
   subst e;exact⟨hacc,I.hok.fresh (AW _),hDC,hDstk,fun v z=>by cases z⟩
 have stat:∀{H':Hp}{ys:List Value}{n:Nat},(∀b∈fp,H' b=none)->∀b∈fp,EW (ax X scope H2.objs.size fp (ts++cap) s H) [(s.heap.objs.size,bL ys n)] H' b:=fun {H' ys n} hn b hb=>by
  obtain⟨f0,f1,f2,f3,f4,f5⟩:=hf b hb;refine⟨hn b hb,below b (hfl b hb),?_,.inl hb,fun x c e=>f4 x c (CS.look I.ok e),fun p hp=>?_⟩
  ·exact(eY I CS hf hfl hCle).HX b hb
  ·rcases Bb.mp hp with z|z
   ·exact f5 p (Bn _ z)
   ·have e:p=(s.heap.objs.size,bL ys n):=by simpa using z
    subst e;intro q;have q':s.heap.objs.size=b:=q;exact absurd (hfl b hb) (by rw[<- q'];exact Bx _)
 have loop:∀s₃:Shared,s₃={s with heap:=h₁,toks:=s.toks+([]:List (Str×Value)).length} ->
   codeAny (model X.prog X.w) X.A (.compLoop (.ListComp elt [⟨tg,iter,ifs,0⟩] scope pos) 0 (.ref it) (.ref s.heap.objs.size) (compEnvC scope (bU X.env.cells scope.names []) H2.objs.size X.env))
    (RR (.ref s.heap.objs.size) H2.objs.size) s₃:=by
  rintro s₃ rfl;refine iT (fun k s'=>∃i H' ys its n,Inv (ax X scope H2.objs.size fp (ts++cap) s H) [(s.heap.objs.size,bL its n)] (List.replicate ts.length none++bJ js σ) H' s'/\Vals ys its/\tn i s'.heap/\(∀b∈fp,H' b=none)/\W i k ys H') ?_ m0
   ⟨0,H,[],[],0,I0,.nil,st₁,fun b hb=>(hf b hb).1,w0⟩
  rintro k s3 ⟨i,H3,ys,its,n,I3,v3,st3,fr3,w3⟩;rcases turn i k ys H3 w3 with ⟨stop,hz,fin⟩|⟨go,hz,step⟩
  ·refine thn ((TA _).done i _ s3 _ H3 _ I3 (stat fr3) st3 stop) fun r s4 hq106=>?_;obtain⟨hr,I4⟩:=hq106;subst hr;obtain⟨m4,hn4,_⟩:=I4.loc;exact hRR _ _ s4 H3 ys m4 (dO I hf hCle (AW _) I4 v3 hz) hn4 hCle (AW _) (Er hDC) I4.free (I4.pin (s.heap.objs.size,bL its n) (AY _ Bj)).2.1 fin
  ·refine thn ((TA _).item i _ s3 _ H3 _ I3 (stat fr3) st3 go) fun r s4 hq107=>?_;obtain⟨u,hr,h4⟩:=hq107;subst hr;refine thn h4 fun _ s5 hq108=>?_;obtain⟨x,H5,I5,r5,y5,st5,fr5⟩:=hq108;have I5':=I5.pinned (stat fr5) (T.obj _ _ st5);refine thn (hg _ _ _ _ _ s5 _ H5 x u _ I5' r5 (step x H5 y5)) fun _ s6 hq109=>?_;obtain⟨σ6,H6,I6,q6⟩:=hq109;refine thn (ht _ _ _ _ _ s6 σ6 H6 _ I6 q6) fun ok s7 hq110=>?_;obtain⟨H7,I7,q7⟩:=hq110;have pinned:∀{σ':St}{H':Hp}{s':Shared},Inv (ax X scope H2.objs.size fp (ts++cap) s H) ([(s.heap.objs.size,bL its n)]++bO fp s5.heap) σ' H' s'->tn (i+1) s'.heap/\∀b∈fp,H' b=none:=fun {σ' H' s'} J=>by
    refine⟨T.keep _ _ _ st5 fun b hb o e=>(J.pin (b,o) (AY _ (AY _ (aS hb e)))).1,fun b hb=>?_⟩;obtain⟨o,e,d⟩:=T.obj _ _ st5 b hb;exact(J.pin (b,o) (AY _ (AY _ (aS hb e)))).2.1
   cases ok with
   |false=>
    rw[DY Bt] at q7 ⊢;obtain⟨m',hm,w7⟩:=q7;obtain⟨st7,fr7⟩:=pinned I7;exact⟨m',hm,i+1,H7,ys,its,n,bE I CS hf I7.ES,v3,st7,fr7,w7⟩
   |true=>
    rw[DZ rfl] at q7 ⊢;refine Ed (he _ _ _ _ _ [] s7 σ6 H7 _ I7.hold q7) (fun yv s8 ⟨y,H8,I8h,r8,m',hm,w8⟩=>?_) (fun e8 s8 ⟨x8,cls8,σ8,H8,he8,o8,q8⟩=>?_)
    ·have I8:=I8h.Fu;obtain⟨st8,fr8⟩:=pinned I8;have I8':=bE I CS hf I8.ES;obtain⟨hDg,hDn,hDC',hDs,hDd⟩:=I8'.pin (s.heap.objs.size,bL its n) (AY _ Bj);have hl:=v3.length;refine append_at (hsz:=by rw[Bi];lia) hDg fun h9 hs9 hD9=>?_;have tracked:∀b o,b≠s.heap.objs.size->s8.heap.get? b=some o->h9.get? b=some o:=fun b o hb e=>hs9.extBut b o hb e;have I9:Inv (ax X scope H2.objs.size fp (ts++cap) s H) [(s.heap.objs.size,bL (its++[yv]) (n+1))] (List.replicate ts.length none++bJ js σ) H8 {s8 with heap:=h9}:=by
      have J0:Inv (ax X scope H2.objs.size fp (ts++cap) s H) [] (List.replicate ts.length none++bJ js σ) H8 s8:=I8'.Fo (fun p hp=>absurd hp (by simp))
      have J:Inv (ax X scope H2.objs.size fp (ts++cap) s H) [] (List.replicate ts.length none++bJ js σ) H8 { s8 with heap:=h9,toks:=s8.toks }:=J0.turned (it:=s.heap.objs.size) tracked hDn hDC' (.inr (Heap.get?_none_of_le (AW _))) (fun x c e q=>by
       obtain⟨v,o,ho,_⟩:=I.cell x c (CS.look I.ok e);rw[q] at ho;exact absurd (Eg ho) (Bx _)) (fun p hp q=>by
        rw[BD] at hp;obtain⟨e,_⟩:=I.pin p (Bn _ hp);rw[q] at e
        exact absurd (Eg e) (Bx _))
      refine J.Fo fun p hp=>?_;have e:p=(s.heap.objs.size,bL (its++[yv]) (n+1)):=by simpa using hp
      subst e;refine⟨?_,hDn,hDC',hDs,fun v z=>by cases z⟩;show h9.get? s.heap.objs.size=_;rw[hD9];simp[bL,Dz]
     have st9:tn (i+1) h9:=T.keep _ _ _ st8 fun b hb o e=>tracked b o (AZ (hfl b hb)) e;exact⟨m',hm,i+1,H8,ys++[y],its++[yv],n+1,I9,v3.append (.cons r8 .nil),st9,fr8,w8⟩
    ·subst he8;obtain⟨I8,t8⟩:=o8.Fu;have IB:=dO I hf hCle (AW _) I8.ES v3 (BF hz);obtain⟨m8,hn8,_⟩:=I8.loc;have hHD:=(I8.pin (s.heap.objs.size,bL its n) (AY _ (Bn _ Bj))).2.1;have conv:∀b,EW (ax X scope H2.objs.size fp (ts++cap) s H) ([(s.heap.objs.size,bL its n)]++bO fp s5.heap) H8 b->EW X pins (upd H8 s.heap.objs.size (.lst ys)) b/\b≠H2.objs.size:=fun b hq111=>by
      obtain⟨g0,g1,g2,g3,g4,g5⟩:=hq111;have nb:b≠s.heap.objs.size:=Er (g5 (s.heap.objs.size,bL its n) (AY _ (Bn _ Bj)));have hn:upd H8 s.heap.objs.size (.lst ys) b=none:=by rw[ao nb];exact g0
      refine⟨?_,g1⟩;rcases g3 with z|z
      ·obtain⟨f0,f1,f2,f3,f4,f5⟩:=hf b z;exact⟨hn,f1,f2,f3,f4,f5⟩
      ·exact I.Iy z hn
     have hCfr:H2.objs.size∉frs (X.env::X.outer):=fun z=>by
      have l:=I.stack;rw[hst] at l;obtain⟨_,o,ho,_⟩:=l.mem z;exact absurd (Bc (Eg ho) hCle) (Bx _)
     have hfr:X.A.frames=some (X.env::X.outer):=by rw[I.ok.frames,hst]
     have hl8:s8.heap.FunFrames X.base (X.env::X.outer):=by rw[<- hst];exact IB.stack
     have hF:∀b,s8.heap.objs.size<=b->EW X pins (upd H8 s.heap.objs.size (.lst ys)) b/\b≠H2.objs.size:=fun b hb=>⟨IB.GA b hb,fun z=>by
      obtain⟨o,_,_,ho,_⟩:=id hn8;have:=Eg ho;rw[z] at hb
      exact absurd (Bc this hb) (Bx _)⟩
     have fin:∀h9,Kp (fun b=>EW X pins (upd H8 s.heap.objs.size (.lst ys)) b/\b≠H2.objs.size) (frs (X.env::X.outer)) s8.heap h9->Flt (fun b=>EW X pins (upd H8 s.heap.objs.size (.lst ys)) b/\b≠H2.objs.size) h9 x8 cls8 (rawInt (X.env.locals:Int))->RR (.ref s.heap.objs.size) H2.objs.size (.error (.ref x8)) {s8 with heap:=h9}:=fun h9 k9 t9=>by
      have IF:Inv X pins σ (upd H8 s.heap.objs.size (.lst ys)) {s8 with heap:=h9,toks:=s8.toks}:=IB.FY (by rw[hst];exact k9.imp fun b z=>z.1);refine hRE _ _ _ H8 ys m8 x8 cls8 σ8 _ IF ?_ hCle (AW _) (Er hDC) I8.free hHD t9 q8;obtain⟨o,es,ep,ho,r⟩:=hn8;exact⟨o,es,ep,k9.1 _ o ho (fun z=>z.2 rfl) hCfr,r⟩
     show wpAny _ X.A (noteFrame (.ref x8) (compEnvC scope (bU X.env.cells scope.names []) H2.objs.size X.env)) _ _ s8;rw[fN (e1:=compEnvC scope (bU X.env.cells scope.names []) H2.objs.size X.env) (e2:=X.env) rfl];rcases t8 with t8|t8
     ·obtain⟨vs8,a8,b8,c8⟩:=t8;exact jU hfr hl8 hfrm ⟨vs8,a8,b8,conv _ c8⟩ hF fin
     ·exact hZ hfr hl8 hfrm (t8.imp conv) hF fin
 exact codeAny_compStart_list (loop _ rfl) (T.self _ _ _ _ _ st₁ (loop _ rfl))
def sG (EX:XS)(wi:TI)(k:Nat)(js:List Nat)(g:TG)(tc:TT)(te:XS->TE):TE:=fun σ H Q=>pM wi k js g tc (te fun cls _ H'=>∀D ys,H' D=none->EX cls σ (upd H' D (.lst ys))) σ H Q
theorem ou{tg elt iter:Expr}{ifs:List Expr}{pos:Pos}{wi:TI}{g:TG}{tc:TT}{te:XS->TE}{EX:XS}(hst:X.stack=X.env::X.outer)(hfrm:X.env.frame=some X.env.locals)(hx:vS X EX)(hc:X.calm=true)(CS:aM X scope ts cap js)(hi:PI X tg iter wi)(hg:∀C fp s H,PG (ax X scope C fp (ts++cap) s H) tg g)
  (ht:∀C fp s H,PTs (ax X scope C fp (ts++cap) s H) ifs tc)(he:∀C fp s H pn EX',PE (iW (ax X scope C fp (ts++cap) s H) pn EX') elt (te EX'))
  (hs:∀x,foldedSetIterable iter X.env x=pure x:=by intro _;rfl):PE X (.ListComp elt [⟨tg,iter,ifs,0⟩] scope pos) (sG EX wi ts.length js g tc te):=by
 intro pins s σ H Q I h;rw[eval_ListComp];refine wpAny_comprehension_free (use:=none) rfl hs (bf (CS.cells I.ok)) CS.kind CS.names (thn (hi pins s σ H _ I h) fun v s1 h1=>thn h1 fun itv s2 h2=>?_);obtain⟨it,fp,tn,J,H2,e,I2,T,st2,f2,W,⟨m0,w0⟩,turn⟩:=h2;subst e;refine iX (RR:=fun acc C=>compPost (model X.prog X.w) X.A X.xe none (EP X pins σ Q) acc C) hst hfrm I2 ⟨T.obj,T.keep,T.self⟩ (fun C=>⟨T.item (ax X scope C fp (ts++cap) s2 H2) rfl rfl rfl hc,T.done (ax X scope C fp (ts++cap) s2 H2) rfl rfl rfl hc⟩) st2 f2 CS hg ht (fun C fp s H pn=>he C fp s H pn _) w0 turn ?_ ?_
 ·intro D C s' H' ys m I' hn hC hD hCD hHC hHD fin;have szL:=I2.lt;have low:∀b o,s2.heap.get? b=some o->b≠C:=fun b o e=>AZ (Bc (Eg e) hC);refine⟨m,hn,fun h' hs'=>⟨.ref D,_,bK (n0:=0) I' (Heap.get?_none_of_le (Bm I2.sz hC)) (AZ (Bc szL hC)) (fun x c e=>?_) (fun p hp=>?_) (by rw[ao hCD];exact hHC) hs',rfl,fin D hHD⟩⟩
  ·obtain⟨v,o,ho,_⟩:=I2.cell x c e;exact low c o ho
  ·exact low _ _ (I2.pin p hp).1
 ·intro D C s' H' ys m x cls σ' fl I' hn hC hD hCD hHC hHD t q;have szL:=I2.lt;have low:∀b o,s2.heap.get? b=some o->b≠C:=fun b o e=>AZ (Bc (Eg e) hC);refine⟨m,hn,fun h' hs' cenv _=>?_⟩
  have I'':Inv X pins σ (upd H' D (.lst ys)) { s' with heap:=h' }:=bK (n0:=0) I' (Heap.get?_none_of_le (Bm I2.sz hC)) (AZ (Bc szL hC)) (fun x c e=>by
   obtain⟨v,o,ho,_⟩:=I2.cell x c e
   exact low c o ho) (fun p hp=>low _ _ (I2.pin p hp).1) (by rw[ao hCD]; exact hHC) hs'
  obtain⟨vs,T',oT,tt,⟨⟨oe,a1,a2,a3,a4⟩,b1⟩,b2,b3,b4,b5,b6,⟨fx,nx⟩,fT,nT⟩:=t;have t':Flt (EW X pins (upd H' D (.lst ys))) ({s' with heap:=h'}:Shared).heap x cls fl:=⟨vs,T',oT,tt,⟨⟨oe,hs'.extBut _ _ nx a1,a2,a3,a4⟩,b1⟩,b2,b3,hs'.extBut _ _ nT b4,b5,b6,fx,fT⟩
  refine si (fs:=frs X.stack) t' fun h2 fl' k2 t2=>?_;have I3:=I''.FY (t':=s'.toks) k2;exact hx pins σ _ _ x cls ⟨I3,fl',t2⟩ (q D ys hHD)
end
end L2
namespace KM
def tup (k:Nat):Nat->List (List Nat)
 |0=>[[]]
 |n+1=>(List.range k).flatMap fun i=>(tup k n).map (i::·)
def gQ (ws:List (List Nat))(t:List Nat):List Nat:=(t.map fun i=>ws.getD i []).flatten
theorem hV(ws:List (List Nat))(i:Nat)(t:List Nat):gQ ws (i::t)=ws.getD i []++gQ ws t:=rfl
def S (L:Nat)(ws:List (List Nat)):Nat:=((List.range ws.length).map fun i=>2^(L-(ws.getD i []).length)).sum
abbrev Fd:=Nat×List Nat×List Nat
structure Trk(ws:List (List Nat))(x:List Nat)(f:Fd):Prop where
 a:∀i∈f.2.1,i<ws.length
 b:∀i∈f.2.2,i<ws.length
 ne:∃i j s t,f.2.1=i::s/\f.2.2=j::t/\i≠j
 eq:gQ ws f.2.1=gQ ws f.2.2++x
 len:f.1=(gQ ws f.2.1).length
def Sfx (ws:List (List Nat))(x:List Nat):Prop:=∃w∈ws,∃z,w=z++x
abbrev Ent:=List (List Nat×Fd)
def gU (E:Ent)(x:List Nat):Option Fd:=(E.find? fun e=>decide (e.1=x)).map (·.2)
def ki (E:Ent)(x:List Nat)(f:Fd):Ent:=if (E.any fun e=>decide (e.1=x))=true then E.map (fun e=>if e.1=x then (e.1,f) else e) else E++[(x,f)]
def dY (E:Ent)(x:List Nat):Ent:=E.filter fun e=>decide (e.1≠x)
def bG (dn:List (List Nat))(E:Ent)(s:List Nat×Fd):Ent:=if s.1∈dn then E else match gU E s.1 with
 |none=>ki E s.1 s.2
 |some f=>if s.2.1<f.1 then ki E s.1 s.2 else E
theorem kc{E:Ent}{x:List Nat}{f:Fd}(h:gU E x=some f):(x,f)∈E:=by
 unfold gU at h;obtain⟨e,h1,h2⟩:=Ce.mp h;have h3:=List.find?_some h1;have h4:e.1=x:=Ef h3;have h5:=List.mem_of_find?_eq_some h1;have:e=(x,f):=Prod.ext h4 h2;rw[<- this];exact h5
theorem ie{E:Ent}{x:List Nat}(h:gU E x=none):∀e∈E,e.1≠x:=by
 unfold gU at h;have h1:=Option.map_eq_none_iff.mp h;intro e he z;have:=List.find?_eq_none.mp h1 e he;exact this (Ea z)
theorem gg{E:Ent}(nd:(E.map (·.1)).Nodup){x:List Nat}{f:Fd}(h:(x,f)∈E):gU E x=some f:=by
 cases e:gU E x with
 |none=>exact absurd rfl (ie e _ h)
 |some g=>
  have h2:=kc e
  congr 1
  induction E with
  |nil=>cases h
  |cons p r ih=>
   rw[Bv,CP] at nd;rcases Bl.mp h with h|h<;>rcases Bl.mp h2 with h3|h3
   ·rw[<- h] at h3;exact(Prod.mk.inj h3).2
   ·exact absurd (Bh.mpr ⟨_,h3,by rw[<- h]⟩) nd.1
   ·exact absurd (Bh.mpr ⟨_,h,by rw[<- h3]⟩) nd.1
   ·refine ih nd.2 h ?_ h3;unfold gU at e ⊢;rw[Cc] at e;split at e
    ·rename_i c;have c':p.1=x:=Ef c;exact absurd (Bh.mpr ⟨_,h,by rw[c']⟩) nd.1
    ·exact e
theorem eG{E:Ent}{x:List Nat}{f:Fd}{e:List Nat×Fd}(h:e∈ki E x f):e=(x,f)\/(e∈E/\e.1≠x):=by
 unfold ki at h;split at h
 ·obtain⟨d,hd,rfl⟩:=Bh.mp h;by_cases c:d.1=x
  ·rw[DZ c,c];exact .inl rfl
  ·rw[DY c];exact .inr ⟨hd,c⟩
 ·rename_i c;rcases Bb.mp h with h|h
  ·refine .inr ⟨h,fun z=>c ?_⟩;rw[CM];exact⟨e,h,Ea z⟩
  ·exact .inl (Bg.mp h)
theorem jH{E:Ent}{x:List Nat}{f:Fd}:(x,f)∈ki E x f:=by
 unfold ki;split
 ·rename_i c;obtain⟨e,he,hx⟩:=CM.mp c;have hx':e.1=x:=Ef hx;exact Bh.mpr ⟨e,he,by rw[DZ hx',hx']⟩
 ·exact AY _ (Bg.mpr rfl)
theorem pj{E:Ent}{x:List Nat}{f:Fd}{e:List Nat×Fd}(h:e∈E)(n:e.1≠x):e∈ki E x f:=by
 unfold ki;split
 ·exact Bh.mpr ⟨e,h,by rw[DY n]⟩
 ·exact Bn _ h
theorem rW{E:Ent}{x:List Nat}{f:Fd}(nd:(E.map (·.1)).Nodup):((ki E x f).map (·.1)).Nodup:=by
 unfold ki;split
 ·have:(E.map fun e=>if e.1=x then (e.1,f) else e).map (·.1)=E.map (·.1):=by
   rw[Ct];refine Dk fun e _=>?_;show(if e.1=x then (e.1,f) else e).1=e.1;split<;>rfl
  rw[this];exact nd
 ·rename_i c;rw[Bk,Dp];refine⟨nd,by simp,fun a ha b hb z=>?_⟩;obtain⟨e,he,rfl⟩:=Bh.mp ha;have hb':b=x:=by simpa using hb
  exact c (CM.mpr ⟨e,he,Ea (z.trans hb')⟩)
theorem Fv{E:Ent}{x:List Nat}{e:List Nat×Fd}:e∈dY E x↔e∈E/\e.1≠x:=by
 unfold dY;rw[BY];refine⟨fun hq112=>?_,fun⟨a,b⟩=>⟨a,Ea b⟩⟩;obtain⟨a,b⟩:=hq112;exact⟨a,Ef b⟩
theorem oG{E:Ent}{x:List Nat}(nd:(E.map (·.1)).Nodup):((dY E x).map (·.1)).Nodup:=nd.sublist (List.filter_sublist.map _)
def Has (dn:List (List Nat×Nat))(E:Ent)(y:List Nat)(m:Nat):Prop:=(∃p∈dn,p.1=y/\p.2<=m)\/∃e∈E,e.1=y/\e.2.1<=m
structure Wt(ws:List (List Nat))(dn:List (List Nat×Nat))(E:Ent):Prop where
 trk:∀e∈E,Trk ws e.1 e.2/\Sfx ws e.1
 ndE:(E.map (·.1)).Nodup
 dis:∀e∈E,∀p∈dn,e.1≠p.1
 low:∀p∈dn,∀e∈E,p.2<=e.2.1
theorem bP(dn:List (List Nat))(E:Ent)(s:List Nat×Fd):(s.1∈dn/\bG dn E s=E)\/(s.1∉dn/\(∃f,gU E s.1=some f/\f.1<=s.2.1)/\bG dn E s=E)\/(s.1∉dn/\(∀f,gU E s.1=some f->s.2.1<f.1)/\bG dn E s=ki E s.1 s.2):=by
 unfold bG;by_cases h:s.1∈dn
 ·rw[DZ h];exact .inl ⟨h,rfl⟩
 ·rw[DY h];cases e:gU E s.1 with
  |none=>exact .inr (.inr ⟨h,(fun f z=>(by cases z)),rfl⟩)
  |some f=>
   by_cases c:s.2.1<f.1
   ·simp only[DZ c];exact .inr (.inr ⟨h,(fun g z=>(by cases z;exact c)),trivial⟩)
   ·simp only[DY c];exact .inr (.inl ⟨h,⟨f,rfl,by lia⟩,trivial⟩)
theorem Wt.keep{ws:List (List Nat)}{dn:List (List Nat×Nat)}{E:Ent}{s:List Nat×Fd}(h:Wt ws dn E)(ht:Trk ws s.1 s.2)(hs:Sfx ws s.1)(hl:∀p∈dn,p.2<=s.2.1):Wt ws dn (bG (dn.map (·.1)) E s):=by
 rcases bP (dn.map (·.1)) E s with ⟨_,e⟩|⟨_,_,e⟩|⟨n,_,e⟩
 ·rw[e];exact h
 ·rw[e];exact h
 ·rw[e];refine⟨fun e he=>?_,rW h.ndE,fun e he p hp=>?_,fun p hp e he=>?_⟩
  ·rcases eG he with rfl|⟨he,_⟩
   ·exact⟨ht,hs⟩
   ·exact h.trk e he
  ·rcases eG he with rfl|⟨he,_⟩
   ·exact fun z=>n (Bh.mpr ⟨p,hp,z.symm⟩)
   ·exact h.dis e he p hp
  ·rcases eG he with rfl|⟨he,_⟩
   ·exact hl p hp
   ·exact h.low p hp e he
theorem nK{dn:List (List Nat×Nat)}{E:Ent}{s:List Nat×Fd}{y:List Nat}{m:Nat}(nd:(E.map (·.1)).Nodup)(h:Has dn E y m):Has dn (bG (dn.map (·.1)) E s) y m:=by
 rcases bP (dn.map (·.1)) E s with ⟨_,e⟩|⟨_,_,e⟩|⟨n,lt,e⟩
 ·rw[e];exact h
 ·rw[e];exact h
 ·rw[e];rcases h with h|⟨d,hd,rfl,hm⟩
  ·exact .inl h
  ·by_cases c:d.1=s.1
   ·refine .inr ⟨(s.1,s.2),jH,c.symm,?_⟩;have:=lt d.2 (gg nd (by rw[<- c];exact hd));show s.2.1<=m;lia
   ·exact .inr ⟨d,pj hd c,rfl,hm⟩
theorem lq{dn:List (List Nat×Nat)}{E:Ent}{s:List Nat×Fd}(hl:∀p∈dn,p.2<=s.2.1):Has dn (bG (dn.map (·.1)) E s) s.1 s.2.1:=by
 rcases bP (dn.map (·.1)) E s with ⟨h,e⟩|⟨_,⟨f,hf,le⟩,e⟩|⟨n,lt,e⟩
 ·rw[e];obtain⟨p,hp,z⟩:=Bh.mp h;exact .inl ⟨p,hp,z,hl p hp⟩
 ·rw[e];exact .inr ⟨_,kc hf,rfl,le⟩
 ·rw[e];exact .inr ⟨_,jH,rfl,AW _⟩
theorem jh{ws:List (List Nat)}{dn:List (List Nat×Nat)}:∀(ss:List (List Nat×Fd)){E:Ent},Wt ws dn E->(∀s∈ss,Trk ws s.1 s.2/\Sfx ws s.1/\∀p∈dn,p.2<=s.2.1) ->
  Wt ws dn (ss.foldl (bG (dn.map (·.1))) E)/\(∀y m,Has dn E y m->Has dn (ss.foldl (bG (dn.map (·.1))) E) y m)/\∀s∈ss,Has dn (ss.foldl (bG (dn.map (·.1))) E) s.1 s.2.1
 |[],E,h,_=>⟨h,fun _ _ z=>z,fun s hs=>absurd hs (by simp)⟩
 |s::r,E,h,hs=>by
  obtain⟨h1,h2,h3⟩:=hs s Bj;obtain⟨g1,g2,g3⟩:=jh r (h.keep h1 h2 h3) fun t ht=>hs t (By _ ht);rw[CD];refine⟨g1,fun y m z=>g2 y m (nK h.ndE z),fun t ht=>?_⟩;rcases Bl.mp ht with rfl|ht
  ·exact g2 _ _ (lq h3)
  ·exact g3 t ht
structure Dij(ws:List (List Nat))(dn:List (List Nat×Nat))(E:Ent):Prop where
 wt:Wt ws dn E
 ndD:(dn.map (·.1)).Nodup
 nil:∀p∈dn,p.1≠[]/\Sfx ws p.1
 first:∀i j x,i<ws.length->j<ws.length->i≠j->ws.getD i []=ws.getD j []++x->Has dn E x (ws.getD i []).length
 within:∀p∈dn,∀k y,k<ws.length->p.1=ws.getD k []++y->Has dn E y p.2
 beyond:∀p∈dn,∀k y,k<ws.length->ws.getD k []=p.1++y->Has dn E y (p.2+y.length)
theorem Dij.start{ws:List (List Nat)}{ss:List (List Nat×Fd)}(h1:∀s∈ss,Trk ws s.1 s.2/\Sfx ws s.1)
  (h2:∀i j x,i<ws.length->j<ws.length->i≠j->ws.getD i []=ws.getD j []++x->∃s∈ss,s.1=x/\s.2.1=(ws.getD i []).length):Dij ws [] (ss.foldl (bG []) []):=by
 obtain⟨g1,g2,g3⟩:=jh (ws:=ws) (dn:=[]) ss (E:=[]) ⟨fun e h=>absurd h (by simp),by simp,fun e h=>absurd h (by simp),fun p h=>absurd h (by simp)⟩ fun s hs=>⟨(h1 s hs).1,(h1 s hs).2,fun p h=>absurd h (by simp)⟩
 refine⟨g1,by simp,fun p h=>absurd h (by simp),fun i j x hi hj n e=>?_,fun p h=>absurd h (by simp),fun p h=>absurd h (by simp)⟩;obtain⟨s,hs,rfl,e2⟩:=h2 i j x hi hj n e;rw[<- e2];exact g3 s hs
theorem Dij.step{ws:List (List Nat)}{dn:List (List Nat×Nat)}{E:Ent}{x:List Nat}{f:Fd}{ss:List (List Nat×Fd)}(h:Dij ws dn E)(hx:(x,f)∈E)(hmin:∀e∈E,f.1<=e.2.1)(hne:x≠[])
  (h1:∀s∈ss,Trk ws s.1 s.2/\Sfx ws s.1/\f.1<=s.2.1)(h2:∀k y,k<ws.length->x=ws.getD k []++y->∃s∈ss,s.1=y/\s.2.1=f.1)(h3:∀k y,k<ws.length->ws.getD k []=x++y->∃s∈ss,s.1=y/\s.2.1=f.1+y.length) :
  Dij ws (dn++[(x,f.1)]) (ss.foldl (bG ((dn.map (·.1))++[x])) (dY E x)):=by
 have em:(dn++[(x,f.1)]).map (·.1)=dn.map (·.1)++[x]:=by rw[Bk];rfl
 have lo:∀p∈dn++[(x,f.1)],p.2<=f.1:=fun p hp=>by
  rcases Bb.mp hp with hp|hp
  ·exact h.wt.low p hp _ hx
  ·rw[Bg.mp hp];exact AW _
 have w0:Wt ws (dn++[(x,f.1)]) (dY E x):=by
  refine⟨fun e he=>h.wt.trk e (Fv.mp he).1,oG h.wt.ndE,fun e he p hp=>?_,fun p hp e he=>?_⟩
  ·obtain⟨he,hn⟩:=Fv.mp he;rcases Bb.mp hp with hp|hp
   ·exact h.wt.dis e he p hp
   ·rw[Bg.mp hp];exact hn
  ·exact Bm (lo p hp) (hmin e (Fv.mp he).1)
 obtain⟨g1,g2,g3⟩:=jh ss w0 fun s hs=>⟨(h1 s hs).1,(h1 s hs).2.1,fun p hp=>Bm (lo p hp) (h1 s hs).2.2⟩
 rw[em] at g1 g2 g3;have up:∀y m,Has dn E y m->Has (dn++[(x,f.1)]) (ss.foldl (bG ((dn.map (·.1))++[x])) (dY E x)) y m:=fun y m z=>by
  refine g2 y m ?_;rcases z with ⟨p,hp,z⟩|⟨e,he,rfl,hm⟩
  ·exact .inl ⟨p,Bn _ hp,z⟩
  ·by_cases c:e.1=x
   ·refine .inl ⟨(x,f.1),AY _ (Bg.mpr rfl),c.symm,?_⟩;have:=hmin e he;show f.1<=m;lia
   ·exact .inr ⟨e,Fv.mpr ⟨he,c⟩,rfl,hm⟩
 refine⟨g1,?_,fun p hp=>?_,fun i j y hi hj n e=>up _ _ (h.first i j y hi hj n e),fun p hp k y hk e=>?_,fun p hp k y hk e=>?_⟩
 ·rw[em,Dp];refine⟨h.ndD,by simp,fun a ha b hb z=>?_⟩;obtain⟨p,hp,rfl⟩:=Bh.mp ha;have hb':b=x:=by simpa using hb
  exact h.wt.dis _ hx p hp (z.trans hb').symm
 ·rcases Bb.mp hp with hp|hp
  ·exact h.nil p hp
  ·rw[Bg.mp hp];exact⟨hne,(h.wt.trk _ hx).2⟩
 ·rcases Bb.mp hp with hp|hp
  ·exact up _ _ (h.within p hp k y hk e)
  ·rw[Bg.mp hp] at e ⊢;obtain⟨s,hs,rfl,e2⟩:=h2 k y hk e;have:=g3 s hs;rw[e2] at this;exact this
 ·rcases Bb.mp hp with hp|hp
  ·exact up _ _ (h.beyond p hp k y hk e)
  ·rw[Bg.mp hp] at e ⊢;obtain⟨s,hs,rfl,e2⟩:=h3 k y hk e;have:=g3 s hs;rw[e2] at this;exact this
theorem lJ{α:Type} [DecidableEq α]:∀(U:List α){l:List α},l.Nodup->(∀x∈l,x∈U)->l.length<=U.length
 |[],l,_,h=>by
  cases l with
  |nil=>exact AW _
  |cons a r=>exact absurd (h a Bj) (by simp)
 |u::U,l,nd,h=>by
  have h1:=lJ U (l:=l.erase u) (nd.erase u) fun x hx=>by
   have hm:=List.mem_of_mem_erase hx;rcases Bl.mp (h x hm) with e|e
   ·exact absurd (by rw[e] at hx;exact hx) (List.Nodup.not_mem_erase nd)
   ·exact e
  have h2:l.length<=(l.erase u).length+1:=by
   rw[List.length_erase];split<;>lia
  rw[BA];lia
def ends:List Nat->List (List Nat)
 |[]=>[[]]
 |c::r=>(c::r)::ends r
theorem eN:∀w,(ends w).length=w.length+1
 |[]=>rfl
 |c::r=>by rw[ends,BA,eN r,BA]
theorem HD:∀(z:List Nat){w x:List Nat},w=z++x->x∈ends w
 |[],w,x,e=>by
  rw[e];show x∈ends x;cases x<;>simp[ends]
 |c::z,w,x,e=>by
  subst e;exact By _ (HD z rfl)
theorem FE:∀{ws:List (List Nat)}{k:Nat},(∀w∈ws,w.length<=k)->(ws.flatMap ends).length<=ws.length*(k+1)
 |[],_,_=>Bo _
 |w::r,k,h=>by
  have h1:=FE (ws:=r) (k:=k) fun v hv=>h v (By _ hv);have h2:=h w Bj;rw[List.flatMap_cons,Ba,eN,BA,Nat.add_mul];lia
theorem jr{ws l:List (List Nat)}(h8:ws.length<=8)(h40:∀w∈ws,w.length<=40)(nd:l.Nodup)(h:∀x∈l,Sfx ws x):l.length<=328:=by
 have h1:=lJ (ws.flatMap ends) nd fun x hx=>by
  obtain⟨w,hw,z,e⟩:=h x hx;exact List.mem_flatMap.mpr ⟨w,hw,HD z e⟩
 have h2:=FE h40;have:ws.length*41<=8*41:=Nat.mul_le_mul_right _ h8;lia
def Fst (ws:List (List Nat))(z:List Nat):Prop:=∃i j,i<ws.length/\j<ws.length/\i≠j/\ws.getD i []=ws.getD j []++z
def Nxt (ws:List (List Nat))(x z:List Nat):Prop:=∃i,i<ws.length/\(x=ws.getD i []++z\/ws.getD i []=x++z)
inductive Lo(ws:List (List Nat)):List Nat->Prop
 |first {z:List Nat}:Fst ws z->Lo ws z
 |next {x z:List Nat}:Lo ws x->x≠[]->Nxt ws x z->Lo ws z
theorem vU{ws:List (List Nat)}{i:Nat}(h:i<ws.length):ws.getD i []∈ws:=by
 rw[BG,Bf h];exact BE h
theorem Lo.sfx{ws:List (List Nat)}{z:List Nat}(h:Lo ws z):Sfx ws z:=by
 induction h with
 |first h=>
  obtain⟨i,j,hi,hj,_,e⟩:=h;exact⟨_,vU hi,_,e⟩
 |next _ _ h ih=>
  obtain⟨w,hw,y,e⟩:=ih;obtain⟨i,hi,h|h⟩:=h
  ·exact⟨w,hw,y++ws.getD i [],by rw[e,h,BC]⟩
  ·exact⟨_,vU hi,_,h⟩
structure Way(ws:List (List Nat))(found wait:List (List Nat)):Prop where
 nd:found.Nodup
 lo:∀z∈found,Lo ws z
 low:∀z∈wait,Lo ws z
 fst:∀z,Fst ws z->z∈found\/z∈wait
 nxt:∀x∈found,x≠[]->∀z,Nxt ws x z->z∈found\/z∈wait
theorem Way.start{ws zs:List (List Nat)}(h:∀z,z∈zs↔Fst ws z):Way ws [] zs:=⟨.nil,fun z h=>absurd h (by simp),fun z hz=>.first ((h z).mp hz),fun z hz=>.inr ((h z).mpr hz),fun x h=>absurd h (by simp)⟩
theorem Way.skip{ws found wait:List (List Nat)}{x:List Nat}(h:Way ws found (wait++[x]))(hx:x∈found):Way ws found wait:=by
 have f:∀z,z∈found\/z∈wait++[x]->z∈found\/z∈wait:=fun z hz=>by
  rcases hz with hz|hz
  ·exact .inl hz
  ·rcases Bb.mp hz with hz|hz
   ·exact .inr hz
   ·rw[Bg.mp hz];exact .inl hx
 exact⟨h.nd,h.lo,fun z hz=>h.low z (Bn _ hz),fun z hz=>f z (h.fst z hz),fun y hy ne z hz=>f z (h.nxt y hy ne z hz)⟩
theorem Way.take{ws found wait zs:List (List Nat)}{x:List Nat}(h:Way ws found (wait++[x]))(hx:x∉found)(hz:∀z,z∈zs↔x≠[]/\Nxt ws x z):Way ws (found++[x]) (wait++zs):=by
 have f:∀z,z∈found\/z∈wait++[x]->z∈found++[x]\/z∈wait++zs:=fun z hz=>by
  rcases hz with hz|hz
  ·exact .inl (Bn _ hz)
  ·rcases Bb.mp hz with hz|hz
   ·exact .inr (Bn _ hz)
   ·exact .inl (AY _ hz)
 have lx:=h.low x (AY _ (Bg.mpr rfl));refine⟨?_,fun z hz'=>?_,fun z hz'=>?_,fun z hz'=>f z (h.fst z hz'),fun y hy ne z hz'=>?_⟩
 ·rw[Dp];refine⟨h.nd,by simp,fun a ha b hb=>?_⟩;rw[Bg.mp hb];intro e;exact hx (e▸ha)
 ·rcases Bb.mp hz' with hz'|hz'
  ·exact h.lo z hz'
  ·rw[Bg.mp hz'];exact lx
 ·rcases Bb.mp hz' with hz'|hz'
  ·exact h.low z (Bn _ hz')
  ·obtain⟨ne,n⟩:=(hz z).mp hz';exact .next lx ne n
 ·rcases Bb.mp hy with hy|hy
  ·exact f z (h.nxt y hy ne z hz')
  ·rw[Bg.mp hy] at ne hz';exact .inr (AY _ ((hz z).mpr ⟨ne,hz'⟩))
theorem Way.few{ws found wait:List (List Nat)}(h:Way ws found wait)(h8:ws.length<=8)(h40:∀w∈ws,w.length<=40):found.length<=328:=jr h8 h40 h.nd fun x hx=>(h.lo x hx).sfx
end KM
namespace L2
open PySem PySem.Spec PyProof.Rows
theorem Ia:bootBuiltins "int"=some (.type "int"):=by decide +kernel
theorem JF:bootBuiltins "bool"=some (.type "bool"):=by decide +kernel
theorem HP:bootBuiltins "tuple"=some (.type "tuple"):=by decide +kernel
theorem Hn:bootBuiltins "list"=some (.type "list"):=by decide +kernel
theorem KC:bootBuiltins "str"=some (.type "str"):=by decide +kernel
theorem Jp:bootBuiltins "len"=some (.builtin "len"):=by decide +kernel
theorem EH:bootBuiltins "isinstance"=some (.builtin "isinstance"):=by decide +kernel
theorem GU:bootBuiltins "all"=some (.builtin "all"):=by decide +kernel
theorem Kq:bootBuiltins "max"=some (.builtin "max"):=by decide +kernel
theorem Hz:bootBuiltins "min"=some (.builtin "min"):=by decide +kernel
theorem Gx:bootBuiltins "ValueError"=some (.type "ValueError"):=by decide +kernel
theorem aq{X:Cx}{scope:Scope}{ts cap:List Str}{js:List Nat}(h1:scope.kind=.function)(h2:(scope.names.all fun y=>y.2 != .cell)=true)(h3:(scope.names.all fun y=>y.2 != .local||scope.names.lookup y.1==some .local)=true)
  (h4:(scope.names.all fun y=>y.2 != .free||X.env.kindOf y.1==some .cell||X.env.kindOf y.1==some .free)=true)(h5:cap.map some=js.map fun j=>X.N[j]?)(h6:(cap.all fun y=>scope.names.lookup y==some .free)=true)(h7:(ts++cap).Nodup):aM X scope ts cap js where
 kind:=h1
 one:=fun y hy e=>by have:=BR.mp h2 y hy;rw[e] at this;cases this
 names:=fun y hy e=>by
  have:=BR.mp h3 y hy;rw[e] at this;simpa using this
 free:=fun y hy e=>by
  have:=BR.mp h4 y hy;rw[e] at this;simpa using this
 JE:=h5
 Lq:=fun _ _ z=>by cases z
 KY:=fun y hy=>by
  have:=BR.mp h6 y hy;simpa using this
 nd:=h7
theorem aL{env:Env}{c j pos}{es:List Expr}:starEach (.Constant c j pos::es) env=(false,eval (.Constant c j pos) env)::starEach es env:=rfl
theorem ay{env:Env}{x pos}{es:List Expr}:starEach (.Name x pos::es) env=(false,eval (.Name x pos) env)::starEach es env:=rfl
theorem cQ{env:Env}{a b c pos}{es:List Expr}:starEach (.Call a b c pos::es) env=(false,eval (.Call a b c pos) env)::starEach es env:=rfl
def strOf:Expr->Option Str
 |.Constant (.str x) _ _=>some x
 |_=>none
theorem my{X:Cx}:∀{es:List Expr}{xs:List Str},es.map strOf=xs.map some->PA X es (fun _ H Q=>Q (xs.map V.str) H)
 |[],[],_=>Fe
 |[],_::_,h=>by cases h
 |_::_,[],h=>by cases h
 |e::es,x::xs,h=>by
  rw[Bv,Bv] at h;injection h with h1 h2;have ih:=my (X:=X) (es:=es) (xs:=xs) h2;unfold strOf at h1;split at h1
  ·cases h1;exact EF aQ ih aL
  ·cases h1
structure DD where
 f:Addr
 fd:FuncData
structure Def(K:W.Frag)(mg:Str->Option Value)(x:Str)(st:Stmt)(ps:List Str)(d:DD):Prop where
 fn:Fun K x x st d.f d.fd
 m:mg x=some (.ref d.f)
 b:Binds K d.fd ps []
def hid (p:Addr)(H:Hp):Hp:=fun b=>if b=p then none else H b
theorem cD{p b:Addr}{H:Hp}(h:b≠p):hid p H b=H b:=DY h
theorem aR(p:Addr)(H:Hp):EJ (hid p H) H:=fun b o e=>by
 unfold hid at e;split at e
 ·cases e
 ·exact e
theorem EJ.hid{p:Addr}{H H':Hp}(e:EJ H H'):EJ (hid p H) (L2.hid p H'):=fun b o q=>by
 unfold L2.hid at q ⊢;split at q
 ·cases q
 ·rename_i h;rw[DY h];exact e b o q
def DOk (a b c:Int):Prop:=1<=b/\b<=2147483648/\1000000000<=c/\c<=2147483647
def Ds (H:Hp)(p:Addr):Prop:=∃a b c,H p=some (.lst [.int a,.int b,.int c])/\DOk a b c
structure Dr(p:Addr)(H H':Hp):Prop where
 same:EJ (hid p H) (hid p H')
 ds:Ds H' p
theorem Dr.trans{p:Addr}{H H1 H2:Hp}(a:Dr p H H1)(b:Dr p H1 H2):Dr p H H2:=⟨a.same.trans b.same,b.ds⟩
theorem Ds.same{p:Addr}{H H':Hp}(h:Ds H p)(e:EJ H H'):Ds H' p:=by
 obtain⟨a,b,c,q,r⟩:=h;exact⟨a,b,c,e _ _ q,r⟩
theorem Dr.of_same{p:Addr}{H H':Hp}(h:Ds H p)(e:EJ H H'):Dr p H H':=⟨e.hid,h.same e⟩
theorem Dr.Jr{p:Addr}{H:Hp}{a b c:Int}(h:DOk a b c):Dr p H (upd H p (.lst [.int a,.int b,.int c])):=
 ⟨fun q o e=>by
  unfold hid at e ⊢;split at e
  ·cases e
  ·rename_i n;rw[DY n,ao n];exact e,a,b,c,ae,h⟩
theorem Ds.ne{p q:Addr}{H:Hp}(h:Ds H p)(n:H q=none):p≠q:=by
 obtain⟨a,b,c,e,_⟩:=h;exact az e n
theorem Dr.new{p q:Addr}{H:Hp}(h:Ds H p)(n:H q=none)(o:HO):Dr p H (upd H q o):=Dr.of_same h (af n o)
theorem bH{p q:Addr}{H:Hp}(h:Ds H p)(n:H q=none)(o:HO):hid p (upd H q o) q=some o:=by
 rw[cD (Er (h.ne n)),ae]
structure Tb where
 a:Int
 b:Int
 c:Int
 d:Int
def Tb.vs(t:Tb):List V:=[.int t.a,.int t.b,.int t.c,.int t.d]
def Tb.mul(s t:Tb):Tb:=⟨s.a*t.a+s.b*t.c,s.a*t.b+s.b*t.d,s.c*t.a+s.d*t.c,s.c*t.b+s.d*t.d⟩
def Tb.one:Tb:=⟨1,0,0,1⟩
def Tb.worth(t:Tb):Int:=t.a*t.d-t.b*t.c
def Tb.dat(t:Tb):PyData:=.tuple [.int t.a,.int t.b,.int t.c,.int t.d]
def T4 (K:W.Frag)(H:Hp)(v:V)(t:Tb):Prop:=∃a,v=.ref a/\SqT K H a t.vs
def T4o (H:Hp)(v:V)(t:Tb):Prop:=∃a,v=.ref a/\H a=some (.tup t.vs)
theorem T4o.t4{K:W.Frag}{H:Hp}{v:V}{t:Tb}(h:T4o H v t):T4 K H v t:=by
 obtain⟨a,rfl,e⟩:=h;exact⟨a,rfl,SqT.of e⟩
theorem T4o.mono{H H':Hp}{v:V}{t:Tb}(h:T4o H v t)(e:EJ H H'):T4o H' v t:=by
 obtain⟨a,rfl,q⟩:=h;exact⟨a,rfl,e _ _ q⟩
theorem T4.mono{K:W.Frag}{H H':Hp}{v:V}{t:Tb}(h:T4 K H v t)(e:EJ H H'):T4 K H' v t:=by
 obtain⟨a,rfl,q⟩:=h;exact⟨a,rfl,e.Lf q⟩
theorem T4.dat{K:W.Frag}{H:Hp}{v:V}{t:Tb}(h:T4 K H v t):FH K H v t.dat:=by
 obtain⟨a,rfl,q⟩:=h;exact .tup q (.cons (.int _) (.cons (.int _) (.cons (.int _) (.cons (.int _) .nil))))
theorem Tb.lay(t:Tb):t.dat.canLay0=true:=rfl
theorem Tb.depth(t:Tb):t.dat.depth<=60:=by show 1<=60;decide
theorem Tb.eqv(t:Tb):PyData.eqv t.dat t.dat=true:=SeqAt.eqv_refl _ t.lay
def Lt2 (n:Nat)(x:Int):Prop:=x.natAbs<2^n
structure Bd(n:Nat)(t:Tb):Prop where
 a:Lt2 n t.a
 b:Lt2 n t.b
 c:Lt2 n t.c
 d:Lt2 n t.d
theorem Lt2.mono{n m:Nat}{x:Int}(h:Lt2 n x)(l:n<=m):Lt2 m x:=Bc h (Nat.pow_le_pow_right (by decide) l)
theorem Bd.mono{n m:Nat}{t:Tb}(h:Bd n t)(l:n<=m):Bd m t:=⟨h.a.mono l,h.b.mono l,h.c.mono l,h.d.mono l⟩
theorem Lt2.dot{n m:Nat}{a e b g:Int}(ha:Lt2 n a)(he:Lt2 m e)(hb:Lt2 n b)(hg:Lt2 m g):Lt2 (n+m+1) (a*e+b*g):=by
 unfold Lt2 at *;have h1:(a*e+b*g).natAbs<=(a*e).natAbs+(b*g).natAbs:=Int.natAbs_add_le _ _;rw[Int.natAbs_mul,Int.natAbs_mul] at h1;have h2:a.natAbs*e.natAbs<2^n*2^m:=Nat.mul_lt_mul'' ha he;have h3:b.natAbs*g.natAbs<2^n*2^m:=Nat.mul_lt_mul'' hb hg;rw[Nat.pow_succ,Nat.pow_add];lia
theorem Bd.mul{n m:Nat}{s t:Tb}(hs:Bd n s)(ht:Bd m t):Bd (n+m+1) (s.mul t):=
 ⟨hs.a.dot ht.a hs.b ht.c,hs.a.dot ht.b hs.b ht.d,hs.c.dot ht.a hs.d ht.c,hs.c.dot ht.b hs.d ht.d⟩
theorem Lt2.bits{n:Nat}{x:Int}(h:Lt2 n x):Builtin.Int.intBits x<=n:=by
 unfold Builtin.Int.intBits;unfold Lt2 at h;split
 ·exact Bo _
 ·rename_i z;have nz:x.natAbs≠0:=fun q=>z (by rw[Int.natAbs_eq_zero.mp q];rfl);exact(Nat.log2_lt nz).mpr h
theorem Lt2.big{n m:Nat}{x y:Int}(hx:Lt2 n x)(hy:Lt2 m y)(hn:n<=1048576)(hm:m<=1048576):uI x y:=⟨Bm hx.bits hn,Bm hy.bits hm⟩
def Gu:V->Bool
 |.int _=>true
 |_=>false
inductive Kn(H:Hp):V->Prop where
 |non:Kn H .non
 |bl (b:Bool):Kn H (.bl b)
 |int (i:Int):Kn H (.int i)
 |str (x:Str):Kn H (.str x)
 |lst {a:Addr}{xs:List V} (e:H a=some (.lst xs)):Kn H (.ref a)
 |tup {a:Addr}{xs:List V} (e:H a=some (.tup xs)):Kn H (.ref a)
inductive Th(H:Hp):V->Bool->Prop where
 |non:Th H .non false
 |bl (b:Bool):Th H (.bl b) false
 |int (i:Int):Th H (.int i) false
 |str (x:Str):Th H (.str x) false
 |lst {a:Addr}{xs:List V} (e:H a=some (.lst xs)):Th H (.ref a) false
 |tup {a:Addr}{xs:List V} (e:H a=some (.tup xs)) (k:∀x∈xs,Kn H x):Th H (.ref a) (xs.length==4&&xs.all Gu)
section
variable {K:PySem.W.Frag}{H:Hp}{v:V}
def Lr:V->Bool
 |.int _=>true
 |.bl _=>true
 |_=>false
def isB:V->Bool
 |.bl _=>true
 |_=>false
theorem Kn.as_int(h:Kn H v):∃t,Hg K H v t/\W.kitOne K t (.type "int")=some (Lr v):=by
 cases h with
 |non=>exact⟨_,.non,rfl⟩
 |bl b=>exact⟨_,.bl b,rfl⟩
 |int i=>exact⟨_,.int i,rfl⟩
 |str x=>exact⟨_,.str x,rfl⟩
 |lst e=>exact⟨_,.lst e,rfl⟩
 |tup e=>exact⟨_,.tup e,rfl⟩
theorem Kn.as_bool(h:Kn H v):∃t,Hg K H v t/\W.kitOne K t (.type "bool")=some (isB v):=by
 cases h with
 |non=>exact⟨_,.non,rfl⟩
 |bl b=>exact⟨_,.bl b,rfl⟩
 |int i=>exact⟨_,.int i,rfl⟩
 |str x=>exact⟨_,.str x,rfl⟩
 |lst e=>exact⟨_,.lst e,rfl⟩
 |tup e=>exact⟨_,.tup e,rfl⟩
end
def IA:Sp:=fun vs H Q _=>∃v,vs=[v]/\Kn H v/\Q (.bl (Gu v)) H
def GR:Sp:=fun vs H Q _=>∃v b,vs=[v]/\Th H v b/\∀H',EJ H H'->Q (.bl b) H'
structure Hs(H:Hp)(L:List (Addr×HO))(H':Hp):Prop where
 all:EJ H H'
 at':∀a o,(a,o)∈L->H' a=some o
 nd:(L.map (·.1)).Nodup
 fr:∀a o,(a,o)∈L->H a=none
theorem Hs.start(H:Hp):Hs H [] H:=⟨EJ.refl H,fun _ _ h=>absurd h (by simp),by simp,fun _ _ h=>absurd h (by simp)⟩
theorem Hs.new{H H':Hp}{L:List (Addr×HO)}{a:Addr}(h:Hs H L H')(n:H' a=none)(o:HO):Hs H (L++[(a,o)]) (upd H' a o) where
 all:=h.all.trans (af n o)
 at':=fun b u hm=>by
  rcases Bb.mp hm with z|z
  ·exact af n o _ _ (h.at' b u z)
  ·have e:(b,u)=(a,o):=by simpa using z
   cases e;exact ae
 nd:=by
  rw[Bk,Dp];refine⟨h.nd,by simp,fun x hx y hy=>?_⟩;have ey:y=a:=by simpa using hy
  subst ey;obtain⟨⟨b,u⟩,hb,e⟩:=Bh.mp hx;cases e;exact az (h.at' b u hb) n
 fr:=fun b u hm=>by
  rcases Bb.mp hm with z|z
  ·exact h.fr b u z
  ·have e:(b,u)=(a,o):=by simpa using z
   cases e;exact h.all.free n
theorem Hs.get{H H':Hp}{L:List (Addr×HO)}{a:Addr}{o:HO}(h:Hs H L H')(i:Nat)(e:L[i]?=some (a,o):=by rfl):H' a=some o:=h.at' a o (Bp e)
theorem Hs.ne{H H':Hp}{L:List (Addr×HO)}{a b:Addr}{o u:HO}(h:Hs H L H')(i j:Nat)(ij:i≠j)(e:L[i]?=some (a,o):=by rfl)(f:L[j]?=some (b,u):=by rfl):a≠b:=fun z=>by
 have e1:(L.map (·.1))[i]?=some a:=by rw[Br,e];rfl
 have f1:(L.map (·.1))[j]?=some b:=by rw[Br,f];rfl
 rw[z] at e1;obtain⟨hi,e2⟩:=Be.mp e1;obtain⟨hj,f2⟩:=Be.mp f1;exact ij ((List.getElem_inj h.nd).mp (e2.trans f2.symm))
theorem Hs.put{H H':Hp}{L:List (Addr×HO)}{a:Addr}{o:HO}(h:Hs H L H')(i:Nat)(o':HO)(e:L[i]?=some (a,o):=by rfl):Hs H (L.set i (a,o')) (upd H' a o') where
 all:=fun b u q=>by
  have ha:=h.fr a o (Bp e);rw[ao (az q ha)];exact h.all b u q
 at':=fun b u hm=>by
  obtain⟨j,ej⟩:=List.getElem?_of_mem hm;by_cases hj:i=j
  ·subst hj;have hi:=(Be.mp e).1;rw[CH hi] at ej;cases ej;exact ae
  ·rw[CI hj] at ej;rw[ao (Er (h.ne i j hj e ej))];exact h.at' b u (Bp ej)
 nd:=by
  have:(L.set i (a,o')).map (·.1)=L.map (·.1):=by
   apply List.ext_getElem?;intro j;rw[Br,Br];by_cases hj:i=j
   ·subst hj;have hi:=(Be.mp e).1;rw[CH hi,e];rfl
   ·rw[CI hj]
  rw[this];exact h.nd
 fr:=fun b u hm=>by
  obtain⟨j,ej⟩:=List.getElem?_of_mem hm;by_cases hj:i=j
  ·subst hj;have hi:=(Be.mp e).1;rw[CH hi] at ej;cases ej;exact h.fr a o (Bp e)
  ·rw[CI hj] at ej;exact h.fr b u (Bp ej)
theorem Hs.mono{H H' H'':Hp}{L:List (Addr×HO)}(h:Hs H L H')(s:EJ H' H''):Hs H L H'':=⟨h.all.trans s,fun a o m=>s _ _ (h.at' a o m),h.nd,h.fr⟩
theorem aA{X:Cx}{e:Expr}{te:TE}(h:PE X e te)(hs:starEach [e] X.env=(false,eval e X.env)::starEach [] X.env):PA X [e] (fY te ID):=@EF _ _ _ _ _ h (@Fe _) hs
theorem ba{X:Cx}{r:List V->Hp->VK->Prop}{e:Expr}{te:TE}{p pos:Pos}(hc:cy X (.builtin "len") r)(hg:Gl X "len")(hm:X.mg "len"=none)(h:PE X e te)(hs:starEach [e] X.env=(false,eval e X.env)::starEach [] X.env):PE X (.Call (.Name "len" p) [e] [] pos) (tCB r (fY te ID)):=@aE _ _ _ _ _ _ _ _ _ hc hg hm Jp (aA h hs) (by decide) (by decide) hs rfl
theorem aU{X:Cx}{k k':Nat}{x:Str}{st:Stmt}{ps:List Str}{d:DD}{sp:Sp}{p pos:Pos}{e:Expr}{es:List Expr}{t:TA}(D:Def X.K X.mg x st ps d)(F:EK X.prog X.w X.K X.mg X.base CX0 k d.f d.fd ps sp)(hk:k<=k')(hr:FC k' X.A)(hg:Gl X x)(ha:PA X (e::es) t)(hdb:(x==("__debug__":Str))=false)(he:starEach (e::es) X.env=(false,eval e X.env)::starEach es X.env)(hpl:(backTo pos (starEach es X.env)).any (·.1)=false):PE X (.Call (.Name x p) (e::es) [] pos) (og sp [] E0 t):=@mi _ _ _ _ _ _ _ _ _ _ _ _ _ _ _ _ (F.mono hk) hr hg D.m D.fn.kp D.b .nil sS ha hdb he hpl
theorem bW{X:Cx}{k k':Nat}{x:Str}{st:Stmt}{ps:List Str}{d:DD}{sp:Sp}{p pos:Pos}{e:Expr}{te:TE}(D:Def X.K X.mg x st ps d)(F:EK X.prog X.w X.K X.mg X.base CX0 k d.f d.fd ps sp)(hk:k<=k')(hr:FC k' X.A)(hg:Gl X x)(h:PE X e te)(hs:starEach [e] X.env=(false,eval e X.env)::starEach [] X.env)(hdb:(x==("__debug__":Str))=false):PE X (.Call (.Name x p) [e] [] pos) (og sp [] E0 (fY te ID)):=@aU _ _ _ _ _ _ _ _ _ _ _ _ _ D F hk hr hg (aA h hs) hdb hs rfl
theorem jB{X:Cx}{c:Str}{j:Nat}{cp apos cpos:Pos}{e:Expr}{te:TE}(h:PE X e te)(hs:starEach [e] X.env=(false,eval e X.env)::starEach [] X.env)(hfew:((backTo cpos (starEach [e] X.env)).all (fun x=>!x.1)&&(backToKw cpos (keywordEach [] X.env)).all (fun x=>x.1.isSome)&&decide ([e].length+([]:List Keyword).length+(if ([]:List Keyword).isEmpty then 0 else 1)<30))=true)(hline:(apos.endLine==cpos.line)=true):PE X (.Call (.Attribute (.Constant (.str c) j cp) "join" apos) [e] [] cpos) (tBM X.K "str" (rY X.K) (tC (.str c)) (fY te ID)):=@jn _ _ _ _ _ _ _ _ _ _ _ _ Ej PySem.F.slot_str_join PySem.F.type_str_join JL (aQ _) (aA h hs) rfl hfew hline hs rfl
theorem iG{X:Cx}{apos cpos:Pos}{o e:Expr}{to te:TE}(ho:PE X o to)(h:PE X e te)(hs:starEach [e] X.env=(false,eval e X.env)::starEach [] X.env)(hbase:attributeBase o "append" X.env (eval o X.env)=eval o X.env)(hfew:((backTo cpos (starEach [e] X.env)).all (fun x=>!x.1)&&(backToKw cpos (keywordEach [] X.env)).all (fun x=>x.1.isSome)&&decide ([e].length+([]:List Keyword).length+(if ([]:List Keyword).isEmpty then 0 else 1)<30))=true)(hline:(apos.endLine==cpos.line)=true):PE X (.Call (.Attribute o "append" apos) [e] [] cpos) (tBM X.K "list" Ig to (fY te ID)):=@jn _ _ _ _ _ _ _ _ _ _ _ _ Ei El Ek GZ ho (aA h hs) hbase hfew hline hs rfl
end L2
local macro_rules|`(tactic|walk_at "s")=>`(tactic|exact⟨rfl,rfl,rfl,by decide +kernel,rfl,by decide +kernel,by decide +kernel⟩)
set_option hygiene false in
local macro_rules|`((fk $k $d $p $s))=>`(EK P w K mg base CX0 $k ($d).f ($d).fd $p $s)|`((dg $n $i $p $d $k $s))=>`(Def K mg $n (top $i) $p $d/\(fk $k $d $p $s))
set_option hygiene false in
local macro_rules|`(tactic|exists $s)=>`(tactic|(refine D.fn.ok (N:=$s) (by walk_at "s") (fun vs H Q E h=>?_) (fun cdv A outer s H vs Q E hr h=>?_);(focus(repeat obtain⟨_,h⟩:=h);subst_vars;rfl);have hc:=hr.calm;have nd:List.Nodup (α:=Str) $s :=by decide +kernel))
local macro_rules|`(tactic|walk_at "d")=>`(tactic|try dsimp only [bB,Cx.nox,Cx.Fg])
set_option hygiene false in
local macro_rules|`(tactic|walk_at "u")=>`(tactic|exact fun _ _ _ _ _ _ us hl=>by first|(obtain ⟨_,rfl⟩ :=eB hl;rfl)|(obtain⟨_,_,rfl⟩:=hJ hl;rfl)|(obtain⟨_,_,_,rfl⟩:=uv hl;rfl))
set_option hygiene false in
local macro_rules|`(($n:num))=>`(pv $n)|`((nd $s))=>`(show List.Nodup (α:=Str) $s by decide +kernel)
namespace K3
open PySem
def top (i:Nat):Stmt:=PySem.Challenge.pw_quadwords_k13_makers_refused.main.body.getD i (.Pass ⟨0,0,0,0⟩)
end K3
namespace K3
open PySem PySem.Spec PyProof.Rows L2
abbrev KN:Stmt:=top 59
def Gp:Sp:=fun vs H Q _=>∃(p:Addr)(m:Int),vs=[.ref p,.int m]/\Ds H p/\1<=m/\m<1000000000000000000000000000000000/\∀(r:Int)(H':Hp),0<=r->r<m->Dr p H H'->Q (.int r) H'
section
variable {P:Program}{w:World}{K:PySem.W.Frag}{mg:Str->Option Value}{base:Heap}
theorem Jg:EG ["draws","many","found"] ["draws","many"] (ak KN):=by walk_at "s"
theorem rH{d:DD}(D:Def K mg "_law_draw" KN ["draws","many"] d):(fk 1 d ["draws","many"] Gp):=by
 refine D.fn.ok Jg (fun vs H Q E h=>?_) (fun cdv A outer s H vs Q E hr h=>?_)
 ·obtain⟨p,m,rfl,_⟩:=h;rfl
 obtain⟨p,m,rfl,⟨a,b,c,hp,hb1,hb2,hc1,hc2⟩,hm1,hm2,q⟩:=h;have nd:=Jg.nd;refine⟨_,(ah (br (aG JR (aP EI (0) ag (fun _ _=>rfl)) ag (aI _)) (ah (aw (i:=2) nd rfl (Or.inl rfl) (aC Fx (aP EI (0) ag (fun _ _=>rfl)) (1))) (ah (fK (aC pI (aP EI (0) ag (fun _ _=>rfl)) (1)) (qC (0) ag set_list)) (aj (aF (2))))) EO) (ah (fK (aC EU (aC Fx (aC Fw (aP EI (0) ag (fun _ _=>rfl)) ag) (aP EI (0) ag (fun _ _=>rfl))) ag) (qC (0) ag set_list)) (aj (aF (aC Fx (aC Ih (aC Fx (aC Fw (aP EI (0) ag (fun _ _=>rfl)) (aC EU (aC Ih (aP EI (0) ag (fun _ _=>rfl)) ag) ag)) ag) ag) (1)))))),?_⟩
 walk_at "d"
 have g0:SqL K H p [.int a,.int b,.int c]:=SqL.of hp;refine⟨_,rfl,p,_,0,_,rfl,rfl,g0,rfl,_,_,rfl,rfl,_,rfl,qO (fun h1=>?_) (fun h1=>?_)⟩
 ·refine⟨_,rfl,p,_,0,_,rfl,rfl,g0,rfl,_,rfl,_,_,rfl,rfl,by lia,?_⟩;refine⟨_,rfl,p,_,0,_,rfl,rfl,g0,rfl,_,rfl,_,_,rfl,rfl,⟨by lia,by lia⟩,?_⟩;refine⟨_,rfl,p,_,0,0,rfl,rfl,hp,rfl,?_⟩;refine⟨_,rfl,?_⟩;exact q _ _ (Cu _ (by lia)) (Cv _ (by lia)) (Dr.Jr ⟨hb1,hb2,hc1,hc2⟩)
 ·refine⟨_,rfl,p,_,1,_,rfl,rfl,g0,rfl,_,_,rfl,rfl,.inr ⟨by decide,by decide⟩,?_⟩;refine⟨_,rfl,p,_,2,_,rfl,rfl,g0,rfl,_,_,rfl,rfl,(show(0:Int)<c by lia),_,_,rfl,rfl,?_⟩;refine⟨_,rfl,p,_,1,1,rfl,rfl,hp,rfl,?_⟩;have e0:=Cu (b*69621) (show c≠0 by lia);have e1:=Cv (b*69621) (show(0:Int)<c by lia);have z1:1<=b*69621 % c+1:=by lia
  have z2:b*69621 % c+1<=2147483648:=by lia
  have g1:SqL K (upd H p (.lst [.int a,.int (b*69621 % c+1),.int c])) p [.int a,.int (b*69621 % c+1),.int c]:=SqL.of ae;have u0:0<=(b*69621 % c+1)/128:=Int.ediv_nonneg (by lia) (by decide);have u1:(b*69621 % c+1)/128<=16777216:=by lia
  refine⟨_,rfl,p,_,1,_,rfl,rfl,g1,rfl,_,rfl,p,_,1,_,rfl,rfl,g1,rfl,_,_,rfl,rfl,⟨by decide,by decide⟩,_,_,rfl,rfl,_,_,rfl,rfl,.inl ⟨?_,?_⟩,_,_,rfl,rfl,(show(0:Int)<2147483423 by decide),_,_,rfl,rfl,⟨by decide,by decide⟩,_,rfl,_,_,rfl,rfl,(show(0:Int)<m by lia),?_⟩
  ·lia
  ·lia
  exact q _ _ (Cu _ (by lia)) (Cv _ (by lia)) (Dr.Jr ⟨z1,z2,hc1,hc2⟩)
theorem IK:EG ["thing"] ["thing"] (ak (top 15)):=by walk_at "s"
theorem oW{d:DD}(D:Def K mg "is_whole" (top 15) ["thing"] d)(yL:mg "int"=none)(zK:mg "bool"=none)(wm:mg "isinstance"=none):(fk 1 d ["thing"] IA):=by
 refine D.fn.ok IK (fun vs H Q E h=>?_) (fun cdv A outer s H vs Q E hr h=>?_)
 ·obtain⟨v,rfl,_⟩:=h;rfl
 obtain⟨v,rfl,hk,q⟩:=h;refine⟨_,(aj (aF (fE (aE Fz rfl wm EH (EF (0) (EF (cX (v:=.ty "int") rfl yL Ia rfl) Fe))) (iL (tG (aE Fz rfl wm EH (EF (0) (EF (cX (v:=.ty "bool") rfl zK JF rfl) Fe)))))))),?_⟩
 walk_at "d"
 obtain⟨t1,y1,e1⟩:=hk.as_int (K:=K);obtain⟨t2,y2,e2⟩:=hk.as_bool (K:=K);refine⟨v,rfl,v,.ty "int",t1,_,_,rfl,rfl,y1,e1,_,rfl,?_⟩;cases hb:Lr v with
 |true=>
  refine vW ⟨v,rfl,v,.ty "bool",t2,_,_,rfl,rfl,y2,e2,_,rfl,?_⟩;have z:(!isB v)=Gu v:=by cases v<;>first|rfl|(cases hb)
  rw[z];exact q
 |false=>
  refine we ?_;have z:false=Gu v:=by cases v<;>first|rfl|(cases hb)
  rw[z];exact q
theorem Kk:EG ["thing"] ["thing"] (ak (top 16)):=by walk_at "s"
theorem Th.IG{H:Hp}{v:V}{b:Bool}(h:Th H v b):∃t,Hg K H v t/\((W.kitOne K t (.type "tuple")=some false/\b=false)\/(W.kitOne K t (.type "tuple")=some true/\∃a xs,v=.ref a/\H a=some (.tup xs)/\(∀x∈xs,Kn H x)/\b=(xs.length==4&&xs.all Gu))):=by
 cases h with
 |non=>exact⟨_,.non,.inl ⟨rfl,rfl⟩⟩
 |bl b=>exact⟨_,.bl b,.inl ⟨rfl,rfl⟩⟩
 |int i=>exact⟨_,.int i,.inl ⟨rfl,rfl⟩⟩
 |str x=>exact⟨_,.str x,.inl ⟨rfl,rfl⟩⟩
 |lst e=>exact⟨_,.lst e,.inl ⟨rfl,rfl⟩⟩
 |tup e k=>exact⟨_,.tup e,.inr ⟨rfl,_,_,rfl,e,k,rfl⟩⟩
theorem ar{n:Nat}(h:n<=1000000):n<=sizeLine:=Bm h (by rw[sizeLine_eq];decide)
theorem uG{dw d:DD}(xK:(dg "is_whole" 15 ["thing"] dw 1 IA))(D:Def K mg "is_table" (top 16) ["thing"] d)(xN:mg "tuple"=none)(wo:mg "len"=none)(yD:mg "all"=none)(wm:mg "isinstance"=none):(fk 2 d ["thing"] GR):=by
 refine D.fn.ok Kk (fun vs H Q E h=>?_) (fun cdv A outer s H vs Q E hr h=>?_)
 ·obtain⟨v,b,rfl,_⟩:=h;rfl
 obtain⟨v,b,rfl,ht,q⟩:=h;have hc:=hr.calm;refine⟨_,(aj (aF (fE (aE Fz rfl wm EH (EF (0) (EF (cX (v:=.ty "tuple") rfl xN HP rfl) Fe))) (fE (ck Fn (aE EM rfl wo Jp (EF (0) Fe)) ag (aI _)) (iL (aE (dN hc) rfl yD GU (EF (bo hc (aq (ts:=["number"]) (cap:=[]) (js:=[]) rfl rfl rfl rfl rfl rfl (by decide +kernel)) (qx (0)) (fun _ _ _ _=>au (i:=0) (nd ["number"]) rfl (Or.inl rfl) (.inr rfl)) (fun _ _ _ _=>aX) (fun _ _ _ _=>(mi (xK.2.mono (by decide)) hr rfl xK.1.m xK.1.fn.kp xK.1.b .nil sS (EF (0) Fe)))) Fe))))))),?_⟩
 walk_at "d"
 obtain⟨t1,y1,e1⟩:=Th.IG (K:=K) ht;rcases e1 with ⟨e1,eb⟩|⟨e1,a,xs,ev,ea,hk,eb⟩
 ·refine⟨v,rfl,v,.ty "tuple",t1,_,_,rfl,rfl,y1,e1,_,rfl,we ?_⟩;rw[eb] at q;exact q H (EJ.refl H)
 ·subst ev;refine⟨_,rfl,.ref a,.ty "tuple",t1,_,_,rfl,rfl,y1,e1,_,rfl,vW ?_⟩;refine⟨_,rfl,a,xs,rfl,.inr (SqT.of ea),rfl,_,rfl,qO (fun h1=>?_) (fun h1=>?_)⟩
  ·have l4:xs.length=4:=by
    have z:=Ef h1;injection z with z;lia
   refine⟨_,rfl,a,rfl,⟨xs,SqT.of ea⟩,?_⟩;refine uV (K:=K) (xs:=xs) (fun i ys H'=>H'=H/\ys=((xs.take i).map Gu).map V.bl) ⟨rfl,by simp⟩ (fun i ys H' hi z=>?_) (ar (by lia)) (fun i ys H' hi z=>by rw[z.1];exact SqT.of ea) (fun i x ys H' hx z=>?_) (fun ys H' z p hp=>?_)
   ·rw[z.2];simp;lia
   ·obtain⟨rfl,rfl⟩:=z;have hi:i<xs.length:=(Be.mp hx).1;refine⟨x,rfl,x,rfl,hk x (Bp hx),Nx.mk hi ⟨rfl,?_⟩⟩;rw[Bz,hx,Bk,Bk];rfl
   ·obtain⟨rfl,rfl⟩:=z;refine⟨p,(xs.map Gu),rfl,?_,?_⟩
    ·rw[BX];exact SqL.of ae
    ·have z:((xs.map Gu).all id)=b:=by
      rw[eb,l4];simp[List.all_map]
     rw[z];exact q _ (af hp _)
  ·have z:b=false:=by
    rw[eb];cases hb:(xs.length==4) with
    |false=>rfl
    |true=>exact absurd (Ea (congrArg (fun n:Nat=>V.int (n:Int)) (by simpa using hb))) h1
   rw[z] at q;exact q H (EJ.refl H)
def qo (K:W.Frag):Sp:=fun vs H Q _=>∃u v s t n m,vs=[u,v]/\T4 K H u s/\T4 K H v t/\Bd n s/\Bd m t/\n<=1048576/\m<=1048576/\∀r H',EJ H H'->T4o H' r (s.mul t)->Q r H'
def nU (K:W.Frag):Sp:=fun vs H Q _=>∃u t n,vs=[u]/\T4 K H u t/\Bd n t/\n<=1048576/\Q (.int t.worth) H
theorem oP{d:DD}(D:Def K mg "worth" (top 17) ["table"] d):(fk 1 d ["table"] (nU K)):=by
 exists["table","a","b","c","d"]
 obtain⟨u,t,n,rfl,⟨p,rfl,hp⟩,ht,hn,q⟩:=h;refine⟨_,(ah (fK (0) (fq hc (aB (au (i:=1) nd rfl (Or.inl rfl)) (aB (au (i:=2) nd rfl (Or.inl rfl)) (aB (au (i:=3) nd rfl (Or.inl rfl)) (aB (au (i:=4) nd rfl (Or.inl rfl)) EV)))))) (aj (aF (aC Gi (aC eU (1) (4)) (aC eU (2) (3)))))),?_⟩
 walk_at "d"
 refine⟨_,rfl,p,_,rfl,hp,rfl,_,_,rfl,_,_,rfl,_,_,rfl,_,_,rfl,rfl,?_⟩;refine⟨_,rfl,_,rfl,_,_,rfl,rfl,ht.a.big ht.d hn hn,_,rfl,_,rfl,_,_,rfl,rfl,ht.b.big ht.c hn hn,_,_,rfl,rfl,?_⟩;exact q
theorem oD{d:DD}(D:Def K mg "_law_times" (top 56) ["one","other"] d)(wq:mg "range"=none)(xN:mg "tuple"=none):(fk 1 d ["one","other"] (qo K)):=by
 exists["one","other","found","row","column","top"]
 obtain⟨u,v,s,t,n,m,rfl,⟨p,rfl,hp⟩,⟨r,rfl,hr'⟩,hs,ht,hn,hm,q⟩:=h;refine⟨_,(ah (aw (i:=2) nd rfl (Or.inl rfl) (aV Fe)) (ah (dC PassesOwn.never hc (qx (aO (EF ag (EF ag Fe)))) (au (i:=3) nd rfl (Or.inl rfl)) (aj (dC PassesOwn.never hc (bF rfl wq (EF ag Fe)) (au (i:=4) nd rfl (Or.inl rfl)) (ah (aw (i:=5) nd rfl (Or.inl rfl) (aC eU (aP FN (0) (3) (fun _ _=>rfl)) (aP FN (1) (4) (fun _ _=>rfl)))) (aj (bg (jn Ei El Ek GZ (2) (EF (aC EU (5) (aC eU (aP FN (0) (aC EU (3) ag) (fun _ _=>rfl)) (aP FN (1) (aC EU ag (4)) (fun _ _=>rfl)))) Fe)))))))) (aj (aF (dz GD rfl xN HP (EF (2) Fe)))))),?_⟩
 walk_at "d"
 refine⟨ar (by show 0<=1000000;decide),fun f hf=>?_⟩;refine⟨ar (by show 2<=1000000;decide),fun w hw=>⟨w,rfl,⟨_,SqT.of ae⟩,?_⟩⟩;have S0:EJ H (upd H f (.lst [])):=af hf _;have S1:EJ H (upd (upd H f (.lst [])) w (.tup [.int 0,.int 2])):=S0.trans (af hw _);have nfw:f≠w:=az (H:=upd H f (.lst [])) ae hw;have keep:∀{H':Hp}(l:List V),EJ H H'->H' w=some (.tup [.int 0,.int 2])->EJ H (upd H' f (.lst l))/\upd H' f (.lst l) f=some (.lst l)/\upd H' f (.lst l) w=some (.tup [.int 0,.int 2]):=fun {H'} l e1 e2=>
  ⟨fun b o e=>by rw[ao (az e hf)];exact e1 b o e,ae,by rw[ao (Er nfw)];exact e2⟩
 refine rA (K:=K) (xs:=[.int 0,.int 2]) (fun i σ H'=>∃o1 o2 o3,σ=[some (.ref p),some (.ref r),some (.ref f),o1,o2,o3]/\EJ H H'/\H' f=some (.lst ((s.mul t).vs.take (2*i)))/\H' w=some (.tup [.int 0,.int 2]))
  ⟨none,none,none,rfl,S1,by rw[ao nfw];exact ae,ae⟩ (fun i σ H' hi z=>by obtain⟨_,_,_,_,_,_,e⟩:=z;exact SqT.of e) (fun i x σ H' hx z=>?_) (fun σ H' z=>?_)
 ·obtain⟨o1,o2,o3,rfl,e1,e2,e3⟩:=z;have hi:i<2:=(Be.mp hx).1;refine⟨2,rfl,by decide,by decide,?_⟩;refine iB (lo:=0) (n:=2) (fun j σ H'=>∃o2 o3,σ=[some (.ref p),some (.ref r),some (.ref f),some x,o2,o3]/\EJ H H'/\H' f=some (.lst ((s.mul t).vs.take (2*i+j)))/\H' w=some (.tup [.int 0,.int 2]))
   ⟨o2,o3,rfl,e1,e2,e3⟩ (fun j σ H' hj z=>?_) (fun σ H' z=>?_)
  ·obtain⟨o2,o3,rfl,e1,e2,e3⟩:=z;have hp':=e1.Lf hp;have hr'':=e1.Lf hr';have fct:∃(ri α β γ δ:Int),x=.int ri/\atI s.vs ri=some (.int α)/\atI s.vs (ri+1)=some (.int β)/\atI t.vs (0+(j:Int))=some (.int γ)/\atI t.vs (2+(0+(j:Int)))=some (.int δ)/\uI α γ/\uI β δ /\
     (s.mul t).vs.take (2*i+(j+1))=(s.mul t).vs.take (2*i+j)++[.int (α * γ+β * δ)]:=by
    have two:∀k:Nat,k<2->k=0\/k=1:=fun k hk=>by lia
    rcases two i hi with rfl|rfl<;>rcases two j hj with rfl|rfl<;>(cases hx)
    ·exact⟨0,s.a,s.b,t.a,t.c,rfl,rfl,rfl,rfl,rfl,hs.a.big ht.a hn hm,hs.b.big ht.c hn hm,rfl⟩
    ·exact⟨0,s.a,s.b,t.b,t.d,rfl,rfl,rfl,rfl,rfl,hs.a.big ht.b hn hm,hs.b.big ht.d hn hm,rfl⟩
    ·exact⟨2,s.c,s.d,t.a,t.c,rfl,rfl,rfl,rfl,rfl,hs.c.big ht.a hn hm,hs.d.big ht.c hn hm,rfl⟩
    ·exact⟨2,s.c,s.d,t.b,t.d,rfl,rfl,rfl,rfl,rfl,hs.c.big ht.b hn hm,hs.d.big ht.d hn hm,rfl⟩
   obtain⟨ri,α,β,γ,δ,rfl,A0,A1,B0,B1,c1,c2,tk⟩:=fct;refine⟨_,rfl,_,rfl,p,_,ri,_,rfl,rfl,hp',A0,_,rfl,_,rfl,r,_,_,_,rfl,rfl,hr'',B0,_,_,rfl,rfl,c1,?_⟩;refine⟨_,rfl,.inl ⟨rfl,_,SqL.of e2⟩,_,rfl,_,rfl,_,rfl,_,_,rfl,rfl,p,_,_,_,rfl,rfl,hp',A1,_,rfl,_,rfl,_,_,rfl,rfl,r,_,_,_,rfl,rfl,hr'',B1,_,_,rfl,rfl,c2,_,_,rfl,rfl,?_⟩;have ln:((s.mul t).vs.take (2*i+j)).length<=4:=by rw[Bq];exact Nat.min_le_right _ _
   refine⟨f,_,_,rfl,rfl,e2,Cn ln (Bc (show 4<1000000 by decide) (ar (AW _))),?_⟩;obtain⟨a1,a2,a3⟩:=keep ((s.mul t).vs.take (2*i+j)++[.int (α * γ+β * δ)]) e1 e3;exact⟨_,_,rfl,a1,by rw[tk];exact a2,a3⟩
  ·obtain⟨o2,o3,rfl,e1,e2,e3⟩:=z;exact⟨_,o2,o3,rfl,e1,e2,e3⟩
 ·obtain⟨o1,o2,o3,rfl,e1,e2,e3⟩:=z;refine⟨_,rfl,f,(s.mul t).vs,rfl,.inl ⟨SqL.of e2,fun l hl=>?_⟩⟩;exact q _ _ (e1.trans (af hl _)) ⟨l,rfl,ae⟩
def eh (ts:List Tb):Tb:=ts.foldl Tb.mul Tb.one
inductive TL(K:W.Frag)(H:Hp):List V->List Tb->Prop where
 |nil:TL K H [] []
 |cons {v:V}{t:Tb}{vs:List V}{ts:List Tb}:T4 K H v t->TL K H vs ts->TL K H (v::vs) (t::ts)
theorem TL.length{H:Hp}:∀{vs:List V}{ts:List Tb},TL K H vs ts->vs.length=ts.length
 |_,_,.nil=>rfl
 |_,_,.cons _ r=>by simp[TL.length r]
theorem TL.get{H:Hp}:∀{vs:List V}{ts:List Tb}{i:Nat}{v:V},TL K H vs ts->vs[i]?=some v->∃t,ts[i]?=some t/\T4 K H v t
 |_,_,_,_,.nil,e=>by simp at e
 |_,_,0,_,.cons h _,e=>by simp at e;subst e;exact⟨_,rfl,h⟩
 |_,_,i+1,v,.cons _ r,e=>by
  obtain⟨d,h1,h2⟩:=TL.get (i:=i) (v:=v) r (by simpa using e);exact⟨d,by simpa using h1,h2⟩
theorem fw(ts:List Tb)(t:Tb):eh (ts++[t])=(eh ts).mul t:=by unfold eh;rw[List.foldl_append];rfl
theorem jW{n:Nat}:∀{ts:List Tb},(∀t∈ts,Bd n t)->∀i,Bd ((n+1)*i+1) (eh (ts.take i)):=by
 intro ts h i;induction i with
 |zero=>exact(show Bd 1 Tb.one from⟨(by show(1:Int).natAbs<2^1;decide),(by show(0:Int).natAbs<2^1;decide),(by show(0:Int).natAbs<2^1;decide),(by show(1:Int).natAbs<2^1;decide)⟩)
 |succ i ih=>
  by_cases hi:i<ts.length
  ·rw[Bz,Bf hi];show Bd _ (eh (ts.take i++[ts[i]]));rw[fw];have z:=ih.mul (h ts[i] (BE hi));have e:(n+1)*(i+1)+1=(n+1)*i+1+n+1:=by rw[Nat.mul_add];lia
   rw[e];exact z
  ·have e:ts.take (i+1)=ts.take i:=by rw[Bs (by lia),Bs (by lia)]
   rw[e];exact ih.mono (by rw[Nat.mul_add];lia)
def qw (K:W.Frag):Sp:=fun vs H Q _=>∃l xs ts n,vs=[.ref l]/\SqL K H l xs/\TL K H xs ts/\(∀t∈ts,Bd n t)/\(n+1)*ts.length+1<=1048576/\n<=1048576/\∀r H',EJ H H'->T4o H' r (eh ts)->Q r H'
theorem oA{dp d:DD}(yI:(dg "_law_times" 56 ["one","other"] dp 1 (qo K)))(D:Def K mg "_law_made" (top 57) ["tables"] d):(fk 2 d ["tables"] (qw K)):=by
 exists["tables","found","table"]
 obtain⟨l,xs,ts,n,rfl,hl,ht,hb,hz,hn,q⟩:=h;refine⟨_,(ah (aw 1 (Or.inl rfl) (aO (EF (ag _) (EF (ag _) (EF (ag _) (aA (ag _) aL) aL) aL) aL))) (ah (dC (aZ (0)) (au 2 nd (by walk_at "i")) (aj (aw 1 (Or.inl rfl) (aU yI.1 yI.2 (EF (1) (aA (2) ay) ay))))) (aj (aF (1))))),?_⟩
 walk_at "d"
 refine⟨ar (by show 4<=1000000;decide),fun f hf=>?_⟩;refine⟨_,rfl,l,rfl,⟨xs,(af hf _).seq hl⟩,?_⟩;refine jP (K:=K) (xs:=xs) (fun i σ H'=>∃v o,σ=[some (.ref l),some v,o]/\EJ H H'/\T4o H' v (eh (ts.take i))) ⟨.ref f,none,rfl,af hf _,⟨f,rfl,ae⟩⟩ (fun i σ H' hi z=>by obtain⟨_,_,_,e,_⟩:=z;exact e.seq hl) (fun i x σ H' hx z=>?_) (fun σ H' z=>?_)
 ·obtain⟨v,o,rfl,e1,e2⟩:=z;obtain⟨t,et,h4⟩:=ht.get hx;have hi:i<ts.length:=(Be.mp et).1;have bl:(n+1)*i+1<=1048576:=by
   have:(n+1)*i<=(n+1)*ts.length:=Nat.mul_le_mul_left _ (by lia);lia
  refine⟨_,rfl,_,rfl,v,x,eh (ts.take i),t,(n+1)*i+1,n,rfl,e2.t4,h4.mono e1,jW hb i,hb t (Bp et),bl,hn,fun r H2 S2 h2=>?_⟩;refine⟨r,_,rfl,e1.trans S2,?_⟩;rw[Bz,et];show T4o H2 r (eh (ts.take i++[t]));rw[fw];exact h2
 ·obtain⟨v,o,rfl,e1,e2⟩:=z;refine⟨v,rfl,q v H' e1 ?_⟩;rw[ht.length,BX] at e2;exact e2
def pZ (c:Nat):Prop:=c=108\/c=114\/c=117\/c=118\/c=85\/c=86
def cC (c:Nat):Tb:=if c=108 then ⟨1,0,1,1⟩ else if c=114 then ⟨1,1,0,1⟩ else if c=117 then ⟨1,2,0,1⟩ else if c=118 then ⟨1,0,2,1⟩ else if c=85 then ⟨1,-2,0,1⟩ else ⟨1,0,-2,1⟩
theorem rV{c:Nat}(h:pZ c):Bd 2 (cC c):=by
 rcases h with rfl|rfl|rfl|rfl|rfl|rfl<;>exact⟨by show _<4;decide,by show _<4;decide,by show _<4;decide,by show _<4;decide⟩
def pO (K:W.Frag):Sp:=fun vs H Q _=>∃z:Str,vs=[.str z]/\z.cps.size<=1000/\(∀c∈z.cps.toList,pZ c)/\∀r H',EJ H H'->T4o H' r (eh (z.cps.toList.map cC))->Q r H'
theorem oN{z:Str}(h:∀c∈z.cps.toList,pZ c):z.cps.all (·<128)=true:=by
 rw[<- Array.all_toList,BR];intro c hc;rcases h c hc with rfl|rfl|rfl|rfl|rfl|rfl<;>rfl
def adr (t1 t2 t3 t4 t5 t6:Addr)(c:Nat):Addr:=if c=108 then t1 else if c=114 then t2 else if c=117 then t3 else if c=118 then t4 else if c=85 then t5 else t6
def mn (t1 t2 t3 t4 t5 t6:Addr):List (Key×V):=cx (cx [] [(.inr "l",.ref t1),(.inr "r",.ref t2),(.inr "u",.ref t3),(.inr "v",.ref t4)]) (cx [] [(.inr "U",.ref t5),(.inr "V",.ref t6)])
theorem pV(t1 t2 t3 t4 t5 t6:Addr)(c:Nat)(h:pZ c):fV (mn t1 t2 t3 t4 t5 t6) (.inr ⟨#[c]⟩)=some (.ref (adr t1 t2 t3 t4 t5 t6 c)):=by
 rcases h with rfl|rfl|rfl|rfl|rfl|rfl<;>kernel_rfl
theorem qp{H:Hp}{f:Nat->V}:∀{cs:List Nat},(∀c∈cs,pZ c)->(∀c,pZ c->T4o H (f c) (cC c))->TL K H (cs.map f) (cs.map cC)
 |[],_,_=>.nil
 |c::r,h,g=>.cons (g c (h c Bj)).t4 (qp (fun c hc=>h c (By _ hc)) g)
theorem sW{dm d:DD}(zp:(dg "_law_made" 57 ["tables"] dm 2 (qw K)))(D:Def K mg "_law_of_letters" (top 58) ["word"] d):(fk 3 d ["word"] (pO K)):=by
 exists["word","letters"]
 obtain⟨z,rfl,hz,hl,q⟩:=h;refine⟨_,(ah (aw 1 (Or.inr rfl) (mW (cL (aQ _) (aO (EF (ag _) (EF (ag _) (EF (ag _) (aA (ag _) aL) aL) aL) aL)) (cL (aQ _) (aO (EF (ag _) (EF (ag _) (EF (ag _) (aA (ag _) aL) aL) aL) aL)) (cL (aQ _) (aO (EF (ag _) (EF (ag _) (EF (ag _) (aA (ag _) aL) aL) aL) aL)) (cL (aQ _) (aO (EF (ag _) (EF (ag _) (EF (ag _) (aA (ag _) aL) aL) aL) aL)) (@nu _ _))))) (by simp))) (ah (bg (jn PySem.F.plainAttrs_dict PySem.F.slot_dict_update PySem.F.type_dict_update Iu (1) (aA (mW (cL (aQ _) (aO (EF (ag _) (EF (jt FR (ag _)) (EF (ag _) (aA (ag _) aL) aL) (by rfl)) aL)) (cL (aQ _) (aO (EF (ag _) (EF (ag _) (EF (jt FR (ag _)) (aA (ag _) aL) (by rfl)) aL) aL)) (@nu _ _))) (by simp)) (by rfl)))) (aj (aF (bW zp.1 zp.2 (bo (aq (ts:=["letter"]) (cap:=["letters"]) (js:=[1]) rfl rfl rfl rfl rfl rfl (by decide +kernel)) (@tW _ _ _ _ (0)) (au 0 (nd ["letter","letters"]) (.inr rfl)) (@aX _) (ju (fm hr) (1) (0))) (by rfl)))))),?_⟩
 walk_at "d"
 have l4:(4:Nat)<=sizeLine:=ar (by decide);refine fun d hd=>?_;refine⟨l4,fun t1 h1=>⟨l4,fun t2 h2=>⟨l4,fun t3 h3=>⟨l4,fun t4 h4=>?_⟩⟩⟩⟩;have F4:=((((Hs.start H).new hd (.dK [])).new h1 (.tup (Tb.mk 1 0 1 1).vs)).new h2 (.tup (Tb.mk 1 1 0 1).vs)).new h3 (.tup (Tb.mk 1 2 0 1).vs) |>.new h4 (.tup (Tb.mk 1 0 2 1).vs);refine⟨F4.get 0,[(.inr "l",.ref t1),(.inr "r",.ref t2),(.inr "u",.ref t3),(.inr "v",.ref t4)],rfl,Nat.le_of_ble_eq_true rfl,?_⟩;have F5:=F4.put 0 (.dK (cx [] [(.inr "l",.ref t1),(.inr "r",.ref t2),(.inr "u",.ref t3),(.inr "v",.ref t4)]));refine⟨_,rfl,.inr (.inr (.inl ⟨rfl,.inl ⟨_,ae⟩⟩)),fun e he=>?_⟩;refine⟨_,rfl,l4,fun t5 h5=>⟨_,rfl,l4,fun t6 h6=>?_⟩⟩;have F8:=((F5.new he (.dK [])).new h5 (.tup (Tb.mk 1 (-2) 0 1).vs)).new h6 (.tup (Tb.mk 1 0 (-2) 1).vs);refine⟨F8.get 5,[(.inr "U",.ref t5),(.inr "V",.ref t6)],rfl,Nat.le_of_ble_eq_true rfl,?_⟩;have F9:=F8.put 5 (.dK (cx [] [(.inr "U",.ref t5),(.inr "V",.ref t6)]));refine⟨d,e,_,_,rfl,rfl,F9.ne 0 5 (by decide),F9.get 0,F9.get 5,ar (by show 6<=1000000;decide),?_⟩;have FA:=F9.put 0 (.dK (mn t1 t2 t3 t4 t5 t6));refine⟨_,rfl,z,rfl,oN hl,?_⟩;have okc:∀c,pZ c->fV (mn t1 t2 t3 t4 t5 t6) (.inr ⟨#[c]⟩)=some (.ref (adr t1 t2 t3 t4 t5 t6 c)):=pV t1 t2 t3 t4 t5 t6;have okt:∀c,pZ c->T4o _ (.ref (adr t1 t2 t3 t4 t5 t6 c)) (cC c):=fun c h=>by
  rcases h with rfl|rfl|rfl|rfl|rfl|rfl
  ·exact⟨_,rfl,FA.get 1⟩
  ·exact⟨_,rfl,FA.get 2⟩
  ·exact⟨_,rfl,FA.get 3⟩
  ·exact⟨_,rfl,FA.get 4⟩
  ·exact⟨_,rfl,FA.get 6⟩
  ·exact⟨_,rfl,FA.get 7⟩
 have gd:=FA.get 0;have all:=FA.all;refine uX (z:=z) (fun i ys H'=>H'=_/\ys=(z.cps.toList.take i).map fun c=>V.ref (adr t1 t2 t3 t4 t5 t6 c)) ⟨rfl,rfl⟩ (fun i ys H' hi y=>by rw[y.2,AX,Bq];lia) (ar (by lia)) (fun i c ys H' hc y=>?_) (fun ys H' y p hp=>?_)
 ·obtain⟨rfl,rfl⟩:=y;have hi:i<z.cps.size:=(Cr.mp hc).1;have hc':z.cps.toList[i]?=some c:=by rw[Bw];exact hc
  have lc:=hl c (Bp hc');refine⟨_,rfl,_,rfl,d,.ref (adr t1 t2 t3 t4 t5 t6 c),rfl,?_,Nx.mk hi ⟨rfl,?_⟩⟩
  ·have:=Hh.k (k:=Sum.inr ⟨#[c]⟩) gd;rw[okc c lc] at this;exact this
  ·rw[Bz,hc',Bk];rfl
 ·obtain⟨rfl,rfl⟩:=y;have e1:z.cps.toList.take z.cps.size=z.cps.toList:=Bs (by rw[Bu];exact AW _);rw[e1];refine⟨p,_,z.cps.toList.map cC,2,rfl,SqL.of ae,qp hl fun c hc=>(okt c hc).mono (af hp _),fun t ht=>?_,?_,by decide,fun r H' S h4=>q r H' (all.trans ((af hp _).trans S)) h4⟩
  ·obtain⟨c,hc,rfl⟩:=Bh.mp ht;exact rV (hl c hc)
  ·rw[AX,Bu];lia
def lF (K:W.Frag):Sp:=fun vs H Q _=>∃(a:Addr)(ns:List Int)(k:Int),vs=[.ref a,.int k]/\SqL K H a (ns.map V.int)/\0<=k/\k<=100/\∀l H',EJ H H'->H l=none->Ds H' l->Q (.ref l) H'
def GO:List Int:=[2147483647,2147483629,2147483587,2147483579,2147483563,2147483549,2147483543,2147483497]
def de (c k:Int):Int:=(c % 2147483423+3*k+1)*(48271+2*k*k) % 2147483423
def pA (c k:Int):Int:=de c k*de c k*de c k % 2147483399+k+1
theorem pK{d:DD}(D:Def K mg "_law_draws" (top 61) ["script","k"] d)(wo:mg "len"=none)(yL:mg "int"=none):(fk 1 d ["script","k"] (lF K)):=by
 exists["script","k","primes","cell","seed"]
 obtain⟨a,ns,k,rfl,ha,k0,k1,q⟩:=h;obtain⟨tr,hR,qR⟩:∃t,PSs (bB CX0 P w K mg base ["script","k","primes","cell","seed"] "_law_draws" (ak (top 61)) d.f cdv A outer s H E).nox ((bz (top 61)).drop 3) t /\
   ∀(c:Int)(p:Addr),H p=none->t {nx:=fun _ H'=>Q .non H',rt:=Q} [some (.ref a),some (.int k),some (.ref p),some (.int c),none] (upd H p (.tup (GO.map V.int))):=by
  refine⟨_,(ah (aw 4 (Or.inl rfl) (aC Fx (aC Fw (aC EU (aC EU (aC Fx (3) (ag _)) (aC Fw (ag _) (1))) (ag _)) (aC EU (ag _) (aC Fw (aC Fw (ag _) (1)) (1)))) (ag _))) (ah (aw 4 (Or.inl rfl) (aC EU (aC EU (aC Fx (aC Fw (aC Fw (4) (4)) (4)) (ag _)) (1)) (ag _))) (aj (aF (aV (EF (aC Fw (3) (dz Hb yL Ia (aA (ck IL (3) (aC Gj (ag _) (ag _)) (aI _)) (by rfl)))) (EF (4) (aA (aP FN (2) (aC Fx (1) (ag _))) (by rfl)) ay) (by rfl))))))),fun c p hp=>?_⟩;have c0:=Cu c (show(2147483423:Int)≠0 by decide);have c1:=Cv c (show(0:Int)<2147483423 by decide);refine⟨_,rfl,_,_,rfl,rfl,(show(0:Int)<2147483423 by decide),_,rfl,_,_,rfl,rfl,.inl ⟨by decide,by decide⟩,_,_,rfl,rfl,_,_,rfl,rfl,_,rfl,_,_,rfl,rfl,.inl ⟨by decide,by decide⟩,_,rfl,_,_,rfl,rfl,.inl ⟨by lia,by lia⟩,_,_,rfl,rfl,_,_,rfl,rfl,.inl ⟨by lia,by lia⟩,_,_,rfl,rfl,(show(0:Int)<2147483423 by decide),?_⟩;have z0:0<=de c k:=Cu _ (by decide);have z1:de c k<2147483423:=Cv _ (by decide);have zz0:0<=de c k*de c k:=Int.mul_nonneg z0 z0;have zz1:de c k*de c k<2^64:=Int.lt_of_le_of_lt (Int.mul_le_mul (Int.le_of_lt z1) (Int.le_of_lt z1) z0 (by decide)) (by decide);refine⟨_,rfl,_,rfl,_,_,rfl,rfl,.inl ⟨?_,?_⟩,_,rfl,_,_,rfl,rfl,.inl ⟨?_,?_⟩,_,_,rfl,rfl,(show(0:Int)<2147483399 by decide),_,rfl,_,_,rfl,rfl,_,_,rfl,rfl,?_⟩
  ·exact Int.lt_of_lt_of_le (by decide) z0
  ·exact Int.lt_trans z1 (by decide)
  ·exact Int.lt_of_lt_of_le (by decide) zz0
  ·exact zz1
  have y0:1<=pA c k/\pA c k<=2147483648:=by
   have:=Cu (de c k*de c k*de c k) (show(2147483399:Int)≠0 by decide);have:=Cv (de c k*de c k*de c k) (show(0:Int)<2147483399 by decide);unfold pA;lia
  have g8:0<=k % 8/\k % 8<8:=⟨Cu _ (by decide),Cv _ (by decide)⟩
  have pr:∃r:Int,atI (GO.map V.int) (k % 8)=some (.int r)/\1000000000<=r/\r<=2147483647:=by
   generalize k % 8=j at g8;have:j=0\/j=1\/j=2\/j=3\/j=4\/j=5\/j=6\/j=7:=by lia
   rcases this with rfl|rfl|rfl|rfl|rfl|rfl|rfl|rfl<;>exact⟨_,rfl,by decide,by decide⟩
  obtain⟨r,er,r0,r1⟩:=pr;refine⟨_,rfl,_,rfl,_,_,rfl,rfl,⟨by decide,by decide,by decide⟩,_,_,rfl,rfl,.inr ⟨_,rfl,_,_,rfl,rfl,.inr ⟨?_,?_⟩,_,rfl,_,rfl,_,rfl,_,_,rfl,rfl,(show(0:Int)<8 by decide),p,_,_,_,rfl,rfl,SqT.of ae,er,ar (by show 3<=1000000;decide),fun l hl=>?_⟩⟩
  ·split<;>decide
  ·split<;>decide
  have S1:=af hp (.tup (GO.map V.int));exact q l _ (S1.trans (af hl _)) (S1.free hl) ⟨_,pA c k,r,ae,y0.1,y0.2,r0,r1⟩
 refine⟨_,(ah (aw 2 (Or.inl rfl) (aO (EF (ag _) (EF (ag _) (EF (ag _) (EF (ag _) (EF (ag _) (EF (ag _) (EF (ag _) (aA (ag _) aL) aL) aL) aL) aL) aL) aL) aL))) (ah (aw 3 (Or.inl rfl) (aC EU (aC Fw (ag _) (1)) (ag _))) (ah (br (aG IM (1) (ba EM wo (0) ay) (aI _)) (aj (aw 3 (Or.inl rfl) (aC Fx (aP EI (0) (1)) (aC eU (aC Gj (ag _) (ag _)) (aC Gj (ag _) (ag _)))))) (aj (br (aG JR (ba EM wo (0) ay) (ag _) (aI _)) (aj (aw 3 (Or.inl rfl) (aC EU (aC Fx (aP EI (0) (aC Fx (1) (ba EM wo (0) ay))) (aC Gj (ag _) (ag _))) (aC Fw (ag _) (1))))) (EO _)))) hR))),?_⟩
 walk_at "d"
 refine⟨ar (by show 8<=1000000;decide),fun p hp=>?_⟩;have S1:=af hp (.tup (GO.map V.int));have ha1:SqL K (upd H p (.tup (GO.map V.int))) a (ns.map V.int):=S1.seq ha;have hl:(ns.map V.int).length=ns.length:=AX _;refine⟨_,rfl,_,_,rfl,rfl,.inl ⟨by decide,by decide⟩,_,_,rfl,rfl,?_⟩;refine⟨_,rfl,_,rfl,a,_,rfl,.inl ha1,_,_,rfl,rfl,_,rfl,qO (fun h1=>?_) (fun h1=>?_)⟩
 ·have h1':k<(((ns.map V.int).length:Nat):Int):=Ef h1;rw[hl] at h1';obtain⟨v,ev⟩:∃v:Int,atI (ns.map V.int) k=some (.int v):=by
   have hk:k.toNat<ns.length:=by lia
   have ek:k=((k.toNat:Nat):Int):=by lia
   have e:=bD (xs:=ns.map V.int) (j:=k.toNat) (v:=.int ns[k.toNat]) (by rw[Br,Bf hk];rfl);rw[<- ek] at e;exact⟨ns[k.toNat],e⟩
  refine⟨_,rfl,_,rfl,a,_,_,_,rfl,rfl,ha1,ev,_,_,rfl,rfl,⟨by decide,by decide,by decide⟩,_,_,rfl,rfl,⟨by decide,by decide,by decide⟩,_,_,rfl,rfl,Lt2.big (n:=200) (m:=200) (by show(10^60:Int).natAbs<2^200;decide) (by show(10^60:Int).natAbs<2^200;decide) (by decide) (by decide),_,_,rfl,rfl,(show(0:Int)<10^60*10^60 by decide),?_⟩;exact qR _ p hp
 ·refine⟨_,rfl,a,_,rfl,.inl ha1,_,_,rfl,rfl,_,rfl,qO (fun h2=>?_) (fun h2=>?_)⟩
  ·have h2':(0:Int)<(((ns.map V.int).length:Nat):Int):=Ef h2;rw[hl] at h2';have m0:=Cu k (show(ns.length:Int)≠0 by lia);have m1:=Cv k h2';obtain⟨v,ev⟩:∃v:Int,atI (ns.map V.int) (k % (((ns.map V.int).length:Nat):Int))=some (.int v):=by
    rw[hl];generalize k % (ns.length:Int)=j at m0 m1;have hk:j.toNat<ns.length:=by lia
    have ek:j=((j.toNat:Nat):Int):=by lia
    have e:=bD (xs:=ns.map V.int) (j:=j.toNat) (v:=.int ns[j.toNat]) (by rw[Br,Bf hk];rfl);rw[<- ek] at e;exact⟨ns[j.toNat],e⟩
   refine⟨_,rfl,_,rfl,_,rfl,a,_,rfl,.inl ha1,_,_,rfl,rfl,(show(0:Int)<(((ns.map V.int).length:Nat):Int) by rw[hl];exact h2'),a,_,_,_,rfl,rfl,ha1,ev,_,_,rfl,rfl,⟨by decide,by decide,by decide⟩,_,_,rfl,rfl,(show(0:Int)<10^15 by decide),_,rfl,_,_,rfl,rfl,.inl ⟨by decide,by decide⟩,_,_,rfl,rfl,?_⟩;exact qR _ p hp
  ·exact qR _ p hp
end
theorem Tb.ext'{s t:Tb}(h1:s.a=t.a)(h2:s.b=t.b)(h3:s.c=t.c)(h4:s.d=t.d):s=t:=by
 cases s;cases t;simp only at h1 h2 h3 h4;subst h1 h2 h3 h4;rfl
theorem kC(s t u:Tb):(s.mul t).mul u=s.mul (t.mul u):=by
 apply Tb.ext'<;>simp only[Tb.mul]<;>grind
theorem oF(t:Tb):Tb.one.mul t=t:=by
 apply Tb.ext'<;>simp only[Tb.mul,Tb.one]<;>grind
theorem pX(t:Tb):t.mul Tb.one=t:=by
 apply Tb.ext'<;>simp only[Tb.mul,Tb.one]<;>grind
def wt:List Nat->Tb
 |[]=>Tb.one
 |c::r=>(cC c).mul (wt r)
theorem qW(ts:List Tb):∀s:Tb,ts.foldl Tb.mul s=s.mul (ts.foldr Tb.mul Tb.one):=by
 induction ts with
 |nil=>intro s;exact(pX s).symm
 |cons t r ih=>intro s;rw[CD,ih,List.foldr_cons,kC]
theorem eK(cs:List Nat):eh (cs.map cC)=wt cs:=by
 unfold eh;rw[qW,oF];induction cs with
 |nil=>rfl
 |cons c r ih=>rw[Bv,List.foldr_cons,ih];rfl
def Fs (c:Nat):Prop:=c=108\/c=114
theorem Fs.lt{c:Nat}(h:Fs c):pZ c:=by
 rcases h with rfl|rfl
 ·exact .inl rfl
 ·exact .inr (.inl rfl)
structure Plain(t:Tb):Prop where
 a:0<=t.a
 b:0<=t.b
 c:0<=t.c
 d:0<=t.d
 w:t.a*t.d-t.b*t.c=1
theorem jk(t:Tb):(cC 108).mul t=⟨t.a,t.b,t.a+t.c,t.b+t.d⟩:=by
 apply Tb.ext'<;>simp only[Tb.mul,cC,DZ]<;>grind
theorem iA(t:Tb):(cC 114).mul t=⟨t.a+t.c,t.b+t.d,t.c,t.d⟩:=by
 apply Tb.ext'<;>simp[Tb.mul,cC]<;>grind
theorem Plain.l{t:Tb}(h:Plain t):Plain ((cC 108).mul t):=by
 rw[jk];exact⟨h.a,h.b,by have:=h.a;have:=h.c;show 0<=t.a+t.c;lia,by have:=h.b;have:=h.d;show 0<=t.b+t.d;lia,by have:=h.w;show t.a*(t.b+t.d)-t.b*(t.a+t.c)=1;grind⟩
theorem Plain.r{t:Tb}(h:Plain t):Plain ((cC 114).mul t):=by
 rw[iA];exact⟨by have:=h.a;have:=h.c;show 0<=t.a+t.c;lia,by have:=h.b;have:=h.d;show 0<=t.b+t.d;lia,h.c,h.d,by have:=h.w;show(t.a+t.c)*t.d-(t.b+t.d)*t.c=1;grind⟩
theorem Im:Plain Tb.one:=⟨by decide,by decide,by decide,by decide,by decide⟩
theorem Fh:∀{cs:List Nat},(∀c∈cs,Fs c)->Plain (wt cs)
 |[],_=>Im
 |c::r,h=>by
  have ih:=Fh (cs:=r) fun c hc=>h c (By _ hc);rcases h c Bj with rfl|rfl
  ·exact ih.l
  ·exact ih.r
theorem Plain.top{t:Tb}(h:Plain t):1<=t.a+t.b:=by
 have:=h.a;have:=h.b;by_cases z:t.a=0/\t.b=0
 ·have:=h.w;rw[z.1,z.2] at this;lia
 ·lia
theorem Plain.low{t:Tb}(h:Plain t):1<=t.c+t.d:=by
 have:=h.c;have:=h.d;by_cases z:t.c=0/\t.d=0
 ·have:=h.w;rw[z.1,z.2] at this;lia
 ·lia
def Tb.sum(t:Tb):Int:=t.a+t.b+t.c+t.d
theorem Jl:∀{cs:List Nat},(∀c∈cs,Fs c)->(cs.length:Int)+2<=Tb.sum (wt cs)
 |[],_=>by show((0:Nat):Int)+2<=2;decide
 |c::r,h=>by
  have h':=fun c hc=>h c (By _ hc);have ih:=Jl (cs:=r) h';have p:=Fh (cs:=r) h';have e1:=p.top;have e2:=p.low;unfold Tb.sum at ih ⊢;rw[BA];show((r.length+1:Nat):Int)+2<=((cC c).mul (wt r)).a+((cC c).mul (wt r)).b+((cC c).mul (wt r)).c+((cC c).mul (wt r)).d;rcases h c Bj with rfl|rfl
  ·rw[jk];show((r.length+1:Nat):Int)+2<=(wt r).a+(wt r).b+((wt r).a+(wt r).c)+((wt r).b+(wt r).d);lia
  ·rw[iA];show((r.length+1:Nat):Int)+2<=((wt r).a+(wt r).c)+((wt r).b+(wt r).d)+(wt r).c+(wt r).d;lia
theorem nS{cs:List Nat}(h:∀c∈cs,Fs c)(e:wt cs=Tb.one):cs=[]:=by
 have:=Jl h;rw[e] at this;have z:Tb.sum Tb.one=2:=rfl;rw[z] at this;exact Cs.mp (by lia)
theorem qD{x y u v:Int}(hx:0<=x)(hv:0<=v)(h1:x<=u)(h2:y<=v)(hu:0<=u):x*y<=u*v:=
 Int.le_trans (DS h2 hx) (DT h1 hv)
theorem Plain.rows{t:Tb}(h:Plain t)(n:t≠Tb.one):(t.a<=t.c/\t.b<=t.d)\/(t.c<=t.a/\t.d<=t.b):=by
 obtain⟨a,b,c,d⟩:=t;obtain⟨ha,hb,hc,hd,hw⟩:=h;simp only at *;by_cases h1:a<=c
 ·by_cases h2:b<=d
  ·exact .inl ⟨h1,h2⟩
  ·by_cases h3:c<=a
   ·exact .inr ⟨h3,by lia⟩
   ·
    have:a*d<=c*b:=qD ha hb h1 (by lia) hc;have e:c*b=b*c:=Int.mul_comm _ _;lia
 ·by_cases h2:d<=b
  ·exact .inr ⟨by lia,h2⟩
  ·
   have:(c+1)*(b+1)<=a*d:=qD (by lia) hd (by lia) (by lia) (by lia);have e:(c+1)*(b+1)=b*c+b+c+1:=by grind
   have hb0:b=0:=by lia
   have hc0:c=0:=by lia
   subst hb0 hc0;have e3:a*d=1:=by lia
   have a1:a=1:=by
    have z:d<=a*d\/a<=0:=by
     by_cases z:a<=0
     ·exact .inr z
     ·left
      have:=DT (show(1:Int)<=a by lia) hd;lia
    have z2:a<=a*d\/d<=0:=by
     by_cases z:d<=0
     ·exact .inr z
     ·left
      have:=DS (show(1:Int)<=d by lia) ha;lia
    lia
   subst a1;have d1:d=1:=by lia
   subst d1;exact absurd rfl n
theorem FI:∀(n:Nat){t:Tb},Plain t->(Tb.sum t).toNat<=n->∃cs,(∀c∈cs,Fs c)/\wt cs=t
 |0,t,h,hn=>by
  have e1:=h.top;have e2:=h.low;unfold Tb.sum at hn;lia
 |n+1,t,h,hn=>by
  by_cases e:t=Tb.one
  ·exact⟨[],fun c hc=>absurd hc (by simp),e.symm⟩
  ·have e1:=h.top;have e2:=h.low;obtain⟨a,b,c,d⟩:=t;obtain⟨ha,hb,hc,hd,hw⟩:=h;unfold Tb.sum at hn;simp only at *;rcases Plain.rows (t:=⟨a,b,c,d⟩) ⟨ha,hb,hc,hd,hw⟩ e with ⟨h1,h2⟩|⟨h1,h2⟩
   ·simp only at h1 h2;obtain⟨cs,hcs,ew⟩:=FI n (t:=⟨a,b,c-a,d-b⟩) ⟨ha,hb,by show 0<=c-a;lia,by show 0<=d-b;lia,by show a*(d-b)-b*(c-a)=1;grind⟩ (by unfold Tb.sum;show(a+b+(c-a)+(d-b)).toNat<=n;lia);refine⟨108::cs,fun x hx=>?_,?_⟩
    ·rcases Bl.mp hx with rfl|hx
     ·exact .inl rfl
     ·exact hcs x hx
    ·show(cC 108).mul (wt cs)=_;rw[ew,jk];apply Tb.ext'<;>simp only<;>lia
   ·simp only at h1 h2;obtain⟨cs,hcs,ew⟩:=FI n (t:=⟨a-c,b-d,c,d⟩) ⟨by show 0<=a-c;lia,by show 0<=b-d;lia,hc,hd,by show(a-c)*d-(b-d)*c=1;grind⟩ (by unfold Tb.sum;show((a-c)+(b-d)+c+d).toNat<=n;lia);refine⟨114::cs,fun x hx=>?_,?_⟩
    ·rcases Bl.mp hx with rfl|hx
     ·exact .inr rfl
     ·exact hcs x hx
    ·show(cC 114).mul (wt cs)=_;rw[ew,iA];apply Tb.ext'<;>simp only<;>lia
theorem Plain.word{t:Tb}(h:Plain t):∃cs,(∀c∈cs,Fs c)/\wt cs=t:=FI _ h (AW _)
theorem JJ:∀n:Nat,wt (List.replicate n 114)=⟨1,n,0,1⟩
 |0=>rfl
 |n+1=>by
  rw[Ca];show(cC 114).mul (wt (List.replicate n 114))=_;rw[JJ n,iA];apply Tb.ext'<;>simp only<;>lia
theorem jC{t:Tb}(h:Plain t):((cC 108).mul t).c≥((cC 108).mul t).a/\((cC 108).mul t).d≥((cC 108).mul t).b:=by
 rw[jk];have:=h.c;have:=h.d;show t.a+t.c≥t.a/\t.b+t.d≥t.b;lia
theorem jw{t:Tb}(h:Plain t):¬(((cC 114).mul t).c≥((cC 114).mul t).a/\((cC 114).mul t).d≥((cC 114).mul t).b):=by
 rw[iA];have:=h.a;have:=h.b;have:=h.top;show ¬(t.c≥t.a+t.c/\t.d≥t.b+t.d);lia
theorem vC{c:Nat}(h:Fs c):Bd 1 (cC c):=by
 rcases h with rfl|rfl<;>exact⟨by show _<2;decide,by show _<2;decide,by show _<2;decide,by show _<2;decide⟩
section
variable {P:Program}{w:World}{K:PySem.W.Frag}{mg:Str->Option Value}{base:Heap}
def cw (t:Tb):Bool:=decide (0<=t.a/\0<=t.b/\0<=t.c/\0<=t.d)&&decide (t.worth=1)
theorem Fc{t:Tb}:cw t=true↔Plain t:=by
 unfold cw;rw[BM,decide_eq_true_iff,decide_eq_true_iff];refine⟨fun hq113=>?_,fun h=>⟨⟨h.a,h.b,h.c,h.d⟩,h.w⟩⟩;obtain⟨⟨h1,h2,h3,h4⟩,h5⟩:=hq113;exact⟨h1,h2,h3,h4,h5⟩
theorem vo{H:Hp}{a:Addr}{t:Tb}(e:H a=some (.tup t.vs)):Th H (.ref a) true:=
 (Th.tup e fun x hx=>by
  unfold Tb.vs at hx;simp only[Bl,BU,or_false] at hx
  rcases hx with rfl | rfl | rfl | rfl <;> exact .int _:Th H (.ref a) (t.vs.length == 4 && t.vs.all Gu))
def Hl:Sp:=fun vs H Q _=>∃v t n,vs=[v]/\T4o H v t/\Bd n t/\n<=1048576/\∀H',EJ H H'->Q (.bl (cw t)) H'
theorem IV:EG ["table"] ["table"] (ak (top 20)):=by walk_at "s"
theorem om{di dw d:DD}(zQ:(dg "is_table" 16 ["thing"] di 2 GR))(yJ:(dg "worth" 17 ["table"] dw 1 (nU K)))(D:Def K mg "is_plain" (top 20) ["table"] d)(yB:mg "min"=none):(fk 3 d ["table"] Hl):=by
 refine D.fn.ok IV (fun vs H Q E h=>?_) (fun cdv A outer s H vs Q E hr h=>?_)
 ·obtain⟨v,t,n,rfl,_⟩:=h;rfl
 obtain⟨v,t,n,rfl,⟨a,rfl,ha⟩,hb,hn,q⟩:=h;have hc:=hr.calm;refine⟨_,(aj (aF (fE (bW zQ.1 zQ.2 (0) ay) (fE (ck IL (aE (mw hc) yB Hz (aA (0) ay)) (ag _) (aI _)) (iL (ck Fn (bW yJ.1 yJ.2 (0) ay) (ag _) (aI _))))))),?_⟩
 walk_at "d"
 refine⟨_,rfl,.ref a,true,rfl,vo ha,fun H1 S1=>⟨true,rfl,?_⟩⟩;refine⟨_,rfl,a,[t.a,t.b,t.c,t.d],rfl,SqT.of (S1 _ _ ha),(fun z=>by cases z),fun m hm hmin=>?_⟩;have ha':=hmin t.a (by simp);have hb':=hmin t.b (by simp);have hc':=hmin t.c (by simp);have hd':=hmin t.d (by simp);refine⟨_,_,rfl,rfl,decide (m≥0),rfl,qO (fun h1=>?_) (fun h1=>?_)⟩
 ·have h1':m≥0:=Ef h1;refine⟨_,rfl,.ref a,t,n,rfl,⟨a,rfl,SqT.of (S1 _ _ ha)⟩,hb,hn,rfl,?_⟩;have e:decide (V.int t.worth=V.int 1)=cw t:=by
   unfold cw;rw[Ea (show 0<=t.a/\0<=t.b/\0<=t.c/\0<=t.d by lia),Bool.true_and];exact decide_eq_decide.mpr ⟨fun h=>by injection h,fun h=>by rw[h]⟩
  have z:=q H1 S1;rw[<- e] at z;exact z
 ·have h1':¬m≥0:=of_decide_eq_false (DC.mpr h1);have e:false=cw t:=by
   have:¬(0<=t.a/\0<=t.b/\0<=t.c/\0<=t.d):=fun hq114=>by
    obtain⟨a1,a2,a3,a4⟩:=hq114;simp only[Bl,BU,or_false] at hm;rcases hm with rfl|rfl|rfl|rfl<;>lia
   unfold cw;rw[Eb this];rfl
  have z:=q H1 S1;rw[<- e] at z;exact z
theorem el:("l":Str)=⟨#[108]⟩:=by decide +kernel
theorem er:("r":Str)=⟨#[114]⟩:=by decide +kernel
def txt (cs:List Nat):Str:=⟨cs.toArray⟩
abbrev eJ(cs:List Nat):List Str:=cs.map fun c=>⟨#[c]⟩
theorem HI:∀(r:List Str)(a:Array Nat),(r.foldl (fun acc p=>acc++("":Str).cps++p.cps) a).toList=a.toList++(r.map (·.cps.toList)).flatten
 |[],a=>by simp
 |x::r,a=>by
  have z:("":Str).cps=#[]:=rfl;rw[CD,HI r,z];simp
theorem pG(zs:List Str):(Txt.join "" zs).cps.toList=(zs.map (·.cps.toList)).flatten:=by
 cases zs with
 |nil=>rfl
 |cons x r=>exact HI r x.cps
theorem eX{x y:Str}(h:x.cps.toList=y.cps.toList):x=y:=by
 obtain⟨⟨x⟩⟩:=x;obtain⟨⟨y⟩⟩:=y;simp only at h;subst h;rfl
theorem iM(cs:List Nat):Txt.join "" (eJ cs)=txt cs:=by
 apply eX;rw[pG,Ct];show _=cs;induction cs with
 |nil=>rfl
 |cons c r ih=>rw[Bv,Cm,ih];rfl
theorem GG:∀(cs:List Nat),((eJ cs).map (·.length)).sum=cs.length
 |[]=>rfl
 |c::r=>by
  show 1+((eJ r).map (·.length)).sum=r.length+1;rw[GG r];lia
def Lk:Sp:=fun vs H Q _=>∃v cs m,vs=[v,.int ((m:Nat):Int)]/\m<=10000/\(∀c∈cs,Fs c)/\T4o H v (wt cs)/\(cs.length<=m->∀H',EJ H H'->Q (.str (txt cs)) H')/\(m<cs.length->∀H',EJ H H'->Q .non H')
theorem rM(t u:Tb)(h:t≠u):PyData.eqv t.dat u.dat=false:=by
 obtain⟨a,b,c,d⟩:=t;obtain⟨e,f,g,i⟩:=u;show(a==e&&(b==f&&(c==g&&(d==i&&true))))=false;rw[DC];intro z;simp only[BM,ED,Bool.and_true] at z;obtain⟨rfl,rfl,rfl,rfl⟩:=z;exact h rfl
theorem vi{d:DD}{one:Addr}(AV:mg "ONE"=some (.ref one))(k_one:∀H,SqT K H one Tb.one.vs)(D:Def K mg "word_within" (top 21) ["table","most"] d)(wo:mg "len"=none):(fk 1 d ["table","most"] Lk):=by
 exists["table","most","a","b","c","d","letters"]
 obtain⟨v,cs,m,rfl,hm,hlr,⟨a,rfl,ha⟩,q1,q2⟩:=h;refine⟨_,(ah (fK (0) (fq (aB (au 2 nd (by walk_at "i")) (aB (au 3 nd (by walk_at "i")) (aB (au 4 nd (by walk_at "i")) (aB (au 5 nd (by walk_at "i")) (EV _))))))) (ah (aw 6 (Or.inl rfl) (aV (@Fe _))) (ah (gE (aG (jM hr.units) (aO (EF (2) (EF (3) (EF (4) (aA (5) ay) ay) ay) ay)) (bA (.ref one) AV rfl) (aI _)) (ah (br (aG Fn (ba EM wo (6) ay) (1) (aI _)) (aj (aF (fJ _))) (EO _)) (aj (br (@PW.pt _ _ _ (qE (aG IL (4) (2) (aI _)) (mH (aG IL (5) (3) (aI _))))) (ah (bg (iG (6) (aQ _) aL)) (aj (qu 4 5 (EF (aC Gi (4) (2)) (aA (aC Gi (5) (3)) (by rfl)) (by rfl))))) (ah (bg (iG (6) (aQ _) aL)) (aj (qu 2 3 (EF (aC Gi (2) (4)) (aA (aC Gi (3) (5)) (by rfl)) (by rfl))))))))) (aj (aF (jB (6) ay)))))),?_⟩
 walk_at "d"
 refine⟨_,rfl,a,_,rfl,SqT.of ha,rfl,_,_,rfl,_,_,rfl,_,_,rfl,_,_,rfl,rfl,?_⟩;refine⟨ar (by show 0<=1000000;decide),fun L nL=>?_⟩;have F0:=(Hs.start H).new nL (.lst []);refine⟨fun k σ H'=>∃i,k=cs.length-i/\i<=cs.length/\i<=m/\σ=[some (.ref a),some (.int m),some (.int (wt (cs.drop i)).a),some (.int (wt (cs.drop i)).b),some (.int (wt (cs.drop i)).c),some (.int (wt (cs.drop i)).d),some (.ref L)]/\Hs H [(L,.lst ((eJ (cs.take i)).map V.str))] H',⟨_,0,rfl,Bo _,Bo _,rfl,F0⟩,fun k σ H' z=>?_⟩;obtain⟨i,rfl,hi,him,rfl,F⟩:=z;refine⟨_,rfl,_,rfl,_,rfl,_,rfl,ar (by show 4<=1000000;decide),fun p np=>?_⟩;have F1:=F.mono (af np (.tup (wt (cs.drop i)).vs));have dt:FH K (upd H' p (.tup (wt (cs.drop i)).vs)) (.ref p) (wt (cs.drop i)).dat:=T4.dat ⟨p,rfl,SqT.of ae⟩;have d1:∀H,FH K H (.ref one) Tb.one.dat:=fun H=>T4.dat ⟨one,rfl,k_one H⟩;have lt':∀c∈cs.drop i,Fs c:=fun c hc=>hlr c (Ci hc);by_cases hend:i=cs.length
 ·
  have e0:cs.drop i=[]:=Do (by lia);rw[e0] at dt F1 ⊢;refine⟨Tb.one.dat,Tb.one.dat,dt,d1 _,Tb.lay _,Tb.lay _,Tb.depth _,false,(by rw[Tb.eqv];rfl),?_⟩;have e1:cs.take i=cs:=Bs (by lia);rw[e1] at F1;refine⟨rfl,_,rfl,"",L,eJ cs,rfl,rfl,SqL.of (F1.get 0),?_,?_⟩
  ·rw[GG];have:("":Str).length=0:=rfl;rw[this];lia
  ·rw[iM];exact q1 (by lia) _ F1.all
 ·have hlt:i<cs.length:=by lia
  have ed:cs.drop i=cs[i]::cs.drop (i+1):=CF hlt;have hne:wt (cs.drop i)≠Tb.one:=fun z=>by
   have:=nS lt' z;rw[ed] at this;cases this
  refine⟨_,Tb.one.dat,dt,d1 _,Tb.lay _,Tb.lay _,Tb.depth _,true,(by rw[rM _ _ hne];rfl),?_⟩;refine⟨fun σ' H''=>∃j,j=i+1/\j<=m/\σ'=[some (.ref a),some (.int m),some (.int (wt (cs.drop j)).a),some (.int (wt (cs.drop j)).b),some (.int (wt (cs.drop j)).c),some (.int (wt (cs.drop j)).d),some (.ref L)]/\Hs H [(L,.lst ((eJ (cs.take j)).map V.str))] H'',fun σ' H'' z=>?_,?_⟩
  ·obtain⟨j,rfl,h1,rfl,F2⟩:=z;exact⟨cs.length-(i+1),by lia,i+1,rfl,hlt,h1,rfl,F2⟩
  have ll:((eJ (cs.take i)).map V.str).length=i:=by
   rw[AX,AX,Bq];lia
  refine⟨_,rfl,L,_,rfl,.inl (SqL.of (F1.get 0)),_,rfl,rfl,_,rfl,qO (fun h1=>?_) (fun h1=>?_)⟩
  ·have h1':i=m:=by
    have:=Ef h1;injection this with this;rw[ll] at this;lia
   exact q2 (by lia) _ F1.all
  ·have h1':i<m:=by
    have:i≠m:=fun z=>h1 (Ea (by rw[ll,z]));lia
   have et:cs.take (i+1)=cs.take i++[cs[i]]:=by rw[Bz,Bf hlt];rfl
   have ep:Plain (wt (cs.drop (i+1))):=Fh fun c hc=>hlr c (Ci hc);have ew:wt (cs.drop i)=(cC cs[i]).mul (wt (cs.drop (i+1))):=by rw[ed];rfl
   have lc:Fs cs[i]:=hlr _ (BE hlt);have lsz:((eJ (cs.take i)).map V.str).length<sizeLine:=Bc (show _<1000000 by rw[ll];lia) (ar (AW _));generalize hT:wt (cs.drop (i+1))=T at ep ew;generalize hc0:cs[i]=c0 at lc ew et;rw[ew] at dt;rcases lc with rfl|rfl
   ·have f1:=jC ep;rw[jk] at ew f1;rw[ew] at F1 ⊢;simp only at f1;refine⟨_,rfl,_,rfl,_,_,rfl,rfl,true,(by show V.bl (decide (T.a<=T.a+T.c))=_;rw[Ea f1.1]),_,rfl,_,rfl,_,_,rfl,rfl,true,(by show V.bl (decide (T.b<=T.b+T.d))=_;rw[Ea f1.2]),?_⟩;refine⟨_,rfl,.inl ⟨rfl,_,SqL.of (F1.get 0)⟩,L,_,_,rfl,rfl,F1.get 0,lsz,?_⟩;refine⟨_,rfl,_,rfl,_,_,rfl,rfl,_,rfl,_,rfl,_,_,rfl,rfl,_,_,rfl,?_⟩;refine⟨_,rfl,h1',?_,?_⟩
    ·rw[hT];show[some (V.ref a),some (V.int ↑m),some (V.int T.a),some (V.int T.b),some (V.int (T.a+T.c-T.a)),some (V.int (T.b+T.d-T.b)),some (V.ref L)]=_;rw[show T.a+T.c-T.a=T.c by lia,show T.b+T.d-T.b=T.d by lia]
    ·have F2:=F1.put 0 (.lst ((eJ (cs.take (i+1))).map V.str));rw[et] at F2 ⊢;have e3:(eJ (cs.take i++[108])).map V.str=(eJ (cs.take i)).map V.str++[.str "l"]:=by
      rw[el];simp[eJ]
     rw[e3] at F2 ⊢;exact F2
   ·have f1:=jw ep;rw[iA] at ew f1;rw[ew] at F1 ⊢;simp only at f1;by_cases g1:T.a+T.c<=T.c
    ·have g2:¬T.b+T.d<=T.d:=fun z=>f1 ⟨g1,z⟩;refine⟨_,rfl,_,rfl,_,_,rfl,rfl,true,(by show V.bl (decide (T.a+T.c<=T.c))=_;rw[Ea g1]),_,rfl,_,rfl,_,_,rfl,rfl,false,(by show V.bl (decide (T.b+T.d<=T.d))=_;rw[Eb g2]),?_⟩;refine⟨_,rfl,.inl ⟨rfl,_,SqL.of (F1.get 0)⟩,L,_,_,rfl,rfl,F1.get 0,lsz,?_⟩;refine⟨_,rfl,_,rfl,_,_,rfl,rfl,_,rfl,_,rfl,_,_,rfl,rfl,_,_,rfl,?_⟩;refine⟨_,rfl,h1',?_,?_⟩
     ·rw[hT];show[some (V.ref a),some (V.int ↑m),some (V.int (T.a+T.c-T.c)),some (V.int (T.b+T.d-T.d)),some (V.int T.c),some (V.int T.d),some (V.ref L)]=_;rw[show T.a+T.c-T.c=T.a by lia,show T.b+T.d-T.d=T.b by lia]
     ·have F2:=F1.put 0 (.lst ((eJ (cs.take (i+1))).map V.str));rw[et] at F2 ⊢;have e3:(eJ (cs.take i++[114])).map V.str=(eJ (cs.take i)).map V.str++[.str "r"]:=by
       rw[er];simp[eJ]
      rw[e3] at F2 ⊢;exact F2
    ·refine⟨_,rfl,_,rfl,_,_,rfl,rfl,false,(by show V.bl (decide (T.a+T.c<=T.c))=_;rw[Eb g1]),?_⟩;refine⟨_,rfl,.inl ⟨rfl,_,SqL.of (F1.get 0)⟩,L,_,_,rfl,rfl,F1.get 0,lsz,?_⟩;refine⟨_,rfl,_,rfl,_,_,rfl,rfl,_,rfl,_,rfl,_,_,rfl,rfl,_,_,rfl,?_⟩;refine⟨_,rfl,h1',?_,?_⟩
     ·rw[hT];show[some (V.ref a),some (V.int ↑m),some (V.int (T.a+T.c-T.c)),some (V.int (T.b+T.d-T.d)),some (V.int T.c),some (V.int T.d),some (V.ref L)]=_;rw[show T.a+T.c-T.c=T.a by lia,show T.b+T.d-T.d=T.b by lia]
     ·have F2:=F1.put 0 (.lst ((eJ (cs.take (i+1))).map V.str));rw[et] at F2 ⊢;have e3:(eJ (cs.take i++[114])).map V.str=(eJ (cs.take i)).map V.str++[.str "r"]:=by
       rw[er];simp[eJ]
      rw[e3] at F2 ⊢;exact F2
def LRs (z:Str):Prop:=∀c∈z.cps.toList,Fs c
def As (z:Str):Prop:=∀c∈z.cps.toList,c<128
theorem LRs.as{z:Str}(h:LRs z):As z:=fun c hc=>by rcases h c hc with rfl|rfl<;>decide
theorem cn(z:Str):z.length=z.cps.toList.length:=rfl
theorem fQ{z:Str}{n:Int}{c:Nat}(h:c∈(Txt.mul z n).cps.toList):c∈z.cps.toList:=by
 rw[L2.mul_list] at h;obtain⟨l,hl,hc⟩:=List.mem_flatten.mp h;rw[Dq hl] at hc;exact hc
theorem rC{α:Type}{l:List α}{lo hi:Option Int}{c:α}(h:c∈qq l lo hi):c∈l:=Ci (Cg h)
theorem cf{z:Str}{lo hi:Option Int}{c:Nat}(h:c∈(Txt.slice z lo hi).cps.toList):c∈z.cps.toList:=by
 rw[cM] at h;exact rC h
theorem fZ(x y:Str):(x++y).cps.toList=x.cps.toList++y.cps.toList:=by
 show(x.cps++y.cps).toList=_;rw[BI]
theorem bQ(x y:Str):(x++y).length=x.length+y.length:=by rw[cn,fZ,Ba];rfl
theorem dS(z:Str)(n:Int):(Txt.mul z n).length=n.toNat*z.length:=by
 rw[cn,L2.mul_list,List.length_flatten];simp[cn]
theorem kd{α:Type}(l:List α)(k:Nat):qq l none (some (k:Int))=l.take k:=by
 unfold qq;rw[HT.GF,HT.FO,CL,CW];rcases Nat.le_total k l.length with h|h
 ·rw[BS h]
 ·rw[Dt h,Bs (AW _),Bs h]
theorem cI(z:Str)(k:Nat):(Txt.slice z none (some (k:Int))).length=min k z.length:=by
 rw[cn,cM,kd,Bq];rfl
def GC:Sp:=fun vs H Q _=>∃p m,vs=[.ref p,.int m]/\1<=m/\m<=1000/\Ds H p/\∀z H',Dr p H H'->LRs z->1<=z.length->(z.length:Int)<=m->Q (.str z) H'
theorem sv{r:Int}(h0:0<=r)(h1:r<2):∃c,("lr":Str).cps[r.toNat]?=some c/\Fs c:=by
 have:r=0\/r=1:=by lia
 rcases this with rfl|rfl
 ·exact⟨108,by decide +kernel,.inl rfl⟩
 ·exact⟨114,by decide +kernel,.inr rfl⟩
theorem Lm:LRs "lr":=by
 have e:("lr":Str).cps.toList=[108,114]:=by decide +kernel
 intro c hc;rw[e] at hc;simp only[Bl,BU,or_false] at hc;exact hc
theorem GY:("lr":Str).length=2:=by decide +kernel
theorem oB{dd d:DD}(wu:(dg "_law_draw" 59 ["draws","many"] dd 1 Gp))(D:Def K mg "_law_piece" (top 60) ["draws","most"] d)(wq:mg "range"=none):(fk 2 d ["draws","most"] GC):=by
 exists["draws","most","way","many","text","some"]
 obtain⟨p,m,rfl,m0,m1,hp,q⟩:=h;refine⟨_,(ah (aw 2 (Or.inl rfl) (aU wu.1 wu.2 (EF (0) (aA (ag _) aL) ay))) (ah (aw 3 (Or.inl rfl) (aC EU (ag _) (aU wu.1 wu.2 (EF (0) (aA (1) ay) ay)))) (ah (aw 4 (Or.inl rfl) (jB (bo (aq (ts:=["k"]) (cap:=["draws"]) (js:=[0]) rfl rfl rfl rfl rfl rfl (by decide +kernel)) (bF wq (aA (3) ay)) (au 0 (nd ["k","draws"]) (.inr rfl)) (@aX _) (ff (aQ _) (aU wu.1 wu.2 (EF (1) (aA (ag _) aL) ay)))) (by rfl))) (ah (aw 5 (Or.inl rfl) (aV (EF (4) (EF (aC Gv (aP Kf (4) (ag _)) (3)) (EF (aW Fj (aC Gv (aQ _) (3)) (ET _) (bh (3))) (aA (aW Fj (aC Gv (aW Fj (4) (ET _) (bh (ag _))) (3)) (ET _) (bh (3))) (by rfl)) (by rfl)) (by rfl)) ay))) (aj (aF (aP EI (5) (2)))))))),?_⟩
 walk_at "d"
 refine⟨_,rfl,p,4,rfl,hp,by decide,by decide,fun way H0 w0 w1 dr0=>?_⟩;refine⟨_,rfl,_,rfl,p,m,rfl,dr0.ds,m0,by lia,fun r1 H1 a0 a1 dr1=>?_⟩;refine⟨_,_,rfl,rfl,?_⟩;obtain⟨n,en⟩:∃n:Nat,1+r1=((n:Nat):Int):=⟨(1+r1).toNat,by lia⟩
 show lY 3 (V.int (1+r1)) _ _ _;rw[en];have n1:1<=n:=by lia
 have nm:(n:Int)<=m:=by lia
 refine⟨rfl,_,rfl,_,rfl,by lia,by lia,?_⟩;have D1:=dr0.trans dr1;refine rg (lo:=0) (n:=(n:Int).toNat) (fun i ys H'=>Dr p H H'/\∃cs:List Nat,ys=(eJ cs).map V.str/\cs.length=i/\∀c∈cs,Fs c) ⟨D1,[],rfl,rfl,fun n hn=>absurd hn (by simp)⟩ (fun i ys H' hi z=>by obtain⟨_,ns,rfl,e,_⟩:=z;rw[AX,AX,e];exact AW _) (ar (by lia)) (fun i ys H' hi z=>?_) (fun ys H' z l hl=>?_)
 ·obtain⟨z1,cs,rfl,z2,z3⟩:=z;refine⟨_,rfl,p,2,rfl,z1.ds,by decide,by decide,fun r H2 c0 c1 dr2=>?_⟩;obtain⟨c,ec,lc⟩:=sv c0 c1;refine⟨_,r,c,rfl,rfl,c0,by lia,by rw[GY];lia,ec,Nx.mk hi ⟨z1.trans dr2,cs++[c],?_,by rw[Ba,z2];rfl,fun x hx=>?_⟩⟩
  ·simp[eJ]
  ·rcases Bb.mp hx with y|y
   ·exact z3 x y
   ·have e:x=c:=by simpa using y
    subst e;exact lc
 obtain⟨z1,cs,rfl,z2,z3⟩:=z;have DL:=Dr.new z1.ds hl (.lst ((eJ cs).map V.str));refine⟨"",l,eJ cs,rfl,rfl,SqL.of ae,?_,?_⟩
 ·rw[GG];have:("":Str).length=0:=rfl;rw[this];lia
 rw[iM];have z2':cs.length=n:=by rw[z2,Ck]
 have tl:(txt cs).length=n:=z2';have tlr:LRs (txt cs):=z3;have big:n<=1000:=by lia
 generalize txt cs=text at tl tlr;obtain⟨c0,ec0⟩:∃c,atI text.cps.toList 0=some c:=by
  have h0:0<text.cps.toList.length:=by rw[<- cn,tl];lia
  exact⟨text.cps.toList[0],bD (j:=0) (Bf h0)⟩
 have lc0:Fs c0:=tlr c0 (by
  have h0:0<text.cps.toList.length:=by rw[<- cn,tl];lia
  have:=bD (j:=0) (Bf h0);rw[show((0:Nat):Int)=0 from rfl] at this;rw[ec0] at this;injection this with this
  rw[this]; exact BE h0)
 have l1000:∀k:Nat,k<=1000000->k<=sizeLine:=fun k hk=>ar hk;have t2:(Txt.slice text none (some 2)).length=min 2 n:=by rw[show(2:Int)=((2:Nat):Int) from rfl,cI,tl]
 have nt:((n:Int)).toNat=n:=Ck n;refine⟨_,rfl,_,rfl,text,0,c0,rfl,rfl,l1000 _ (by lia),ec0,_,rfl,_,_,rfl,rfl,by lia,by lia,(by show 1*(n:Int).toNat<=16777216;lia),?_⟩;refine⟨_,rfl,_,_,rfl,rfl,by lia,by lia,(by rw[GY];lia),_,rfl,_,rfl,_,rfl,(l1000 _ (by rw[dS,GY];lia)),?_⟩;refine⟨_,rfl,_,rfl,_,rfl,l1000 _ (by lia),_,rfl,_,_,rfl,rfl,by lia,by lia,(by rw[t2];have:min 2 n<=2:=Dh _ _;have:=DN this (AW (n:Int).toNat);lia),_,rfl,_,rfl,_,rfl,(l1000 _ (by rw[dS,t2];have:min 2 n<=2:=Dh _ _;have:=DN (AW (n:Int).toNat) this;lia)),?_⟩;refine⟨ar (by show 4<=1000000;decide),fun L nL=>?_⟩;have DF:=z1.trans (DL.trans (Dr.new DL.ds nL (.lst [.str text,.str (Txt.mul ⟨#[c0]⟩ n),.str (Txt.slice (Txt.mul "lr" n) none (some n)),.str (Txt.slice (Txt.mul (Txt.slice text none (some 2)) n) none (some n))])));have bJ:∃z,atI [V.str text,.str (Txt.mul ⟨#[c0]⟩ n),.str (Txt.slice (Txt.mul "lr" n) none (some n)),.str (Txt.slice (Txt.mul (Txt.slice text none (some 2)) n) none (some n))] way=some (.str z)/\LRs z/\z.length=n:=by
  have:way=0\/way=1\/way=2\/way=3:=by lia
  rcases this with rfl|rfl|rfl|rfl
  ·exact⟨_,rfl,tlr,tl⟩
  ·refine⟨_,rfl,fun c hc=>?_,?_⟩
   ·have:=fQ hc;have e:c=c0:=by simpa using this
    rw[e];exact lc0
   ·rw[dS,nt];show n*1=n;lia
  ·refine⟨_,rfl,fun c hc=>Lm c (fQ (cf hc)),?_⟩;rw[cI,dS,nt,GY];lia
  ·refine⟨_,rfl,fun c hc=>tlr c (cf (fQ (cf hc))),?_⟩;rw[cI,dS,nt,t2];have:1<=min 2 n:=by lia
   have:=DN (AW n) this;lia
 obtain⟨z,ez,lz,nz⟩:=bJ;refine⟨_,rfl,_,rfl,L,_,_,_,rfl,rfl,SqL.of ae,ez,?_⟩;exact q z _ DF lz (by lia) (by lia)
theorem oh{cs:List Nat}(h:∀c∈cs,Fs c):Bd (2*cs.length+1) (wt cs):=by
 have:=jW (n:=1) (ts:=cs.map cC) (fun t ht=>by
  obtain⟨c,hc,rfl⟩:=Bh.mp ht
  exact vC (h c hc)) cs.length
 rw[Bs (by rw[AX];exact AW _),eK] at this;exact this
theorem tj{cs:List Nat}(h:1<=cs.length):txt cs≠"":=fun z=>by
 have:(txt cs).cps.toList=("":Str).cps.toList:=by rw[z]
 have e:cs=[]:=this;rw[e] at h;exact absurd h (by decide)
abbrev Mks(H:Hp)(vs:List V)(ws:List (List Nat)):Prop:=Paired (fun v cs=>T4o H v (wt cs)) vs ws
structure Wds(ws:List (List Nat)):Prop where
 n1:1<=ws.length
 n8:ws.length<=8
 lr:∀cs∈ws,∀c∈cs,Fs c
 l1:∀cs∈ws,1<=cs.length
 l40:∀cs∈ws,cs.length<=40
abbrev av(ws:List (List Nat)):List V:=ws.map fun cs=>.str (txt cs)
def gv (x w:List Nat):Bool:=Txt.endswith (txt x) (txt w)
def bb (ws:List (List Nat))(x:List Nat)(e:Nat):List (Nat×Nat):=(ws.zipIdx.filter fun p=>gv (x.take e) p.1).map fun p=>(p.2,e-p.1.length)
theorem iQ(ws:List (List Nat))(w x:List Nat)(e:Nat):bb (ws++[w]) x e=bb ws x e++(if gv (x.take e) w=true then [(ws.length,e-w.length)] else []):=by
 unfold bb;rw[List.zipIdx_append,Cw,Bk]
 congr 1
 show((List.filter _ [(w,0+ws.length)]).map _)=_;rw[CZ,BQ];split<;>rfl
theorem kL(x:List Nat)(e:Nat):Txt.slice (txt x) none (some (e:Int))=txt (x.take e):=by
 apply eX;rw[cM,kd];rfl
abbrev Stp(H:Hp)(vs:List V)(ss:List (Nat×Nat)):Prop:=Paired (fun v s=>∃a,v=.ref a/\H a=some (.tup [.int ((s:Nat×Nat).1:Int),.int (s.2:Int)])) vs ss
theorem Stp.mono{H H':Hp}(S:EJ H H'){vs:List V}{ss:List (Nat×Nat)}(h:Stp H vs ss):Stp H' vs ss:=Paired.Gy h fun v s hq115=>by obtain⟨a,e,g⟩:=hq115;exact⟨a,e,S _ _ g⟩
def Il:Sp:=fun vs H Q _=>∃l ws x e,vs=[.ref l,.str (txt x),.int ((e:Nat):Int)]/\H l=some (.lst (av ws))/\ws.length<=8/\(∀cs∈ws,cs.length<=40)/\x.length<=400/\(∀cs∈ws,gv (x.take e) cs=true->cs.length<=e) /\
 ∀p us H',EJ H H'->H' p=some (.lst us)->Stp H' us (bb ws x e)->Q (.ref p) H'
theorem rf{d:DD}(D:Def K mg "last_steps" (top 28) ["words","text","end"] d)(wz:mg "enumerate"=none)(wo:mg "len"=none):(fk 1 d ["words","text","end"] Il):=by
 exists["words","text","end","ahead"]
 obtain⟨l,ws,x,e,rfl,hl,h8,h40,h400,hle,q⟩:=h;refine⟨_,(ah (aw 3 (Or.inr rfl) (aW Fj (1) (ET _) (bh (2)))) (aj (aF (bo (aq (ts:=["number","word"]) (cap:=["end","ahead"]) (js:=[2,3]) rfl rfl rfl rfl rfl rfl (by decide +kernel)) (gJ wz (aA (0) ay)) (@bT _ _ _ _ _ 2 K rfl hc (aB (au 0 (nd ["number","word","end","ahead"]) (.inr rfl)) (aB (au 1 (nd ["number","word","end","ahead"]) (.inr rfl)) (EV _))) (by rfl) (by rfl)) (@bY _ _ _ (cb (gZ Ej PySem.F.slot_str_endswith PySem.F.type_str_endswith JD (3) (aA (1) ay)))) (aO (EF (0) (aA (aC Gi (2) (ba EL wo (1) ay)) (by rfl)) ay)))))),?_⟩
 walk_at "d"
 refine⟨_,rfl,_,rfl,_,rfl,txt x,rfl,ar (by show x.length<=1000000;lia),?_⟩;rw[kL];refine⟨_,rfl,l,rfl,⟨_,SqL.of hl⟩,?_⟩;have el:(av ws).length=ws.length:=AX ..;refine oZ (K:=K) (a:=l) (xs:=av ws) (fun i ys H'=>EJ H H'/\ys.length<=i/\Stp H' ys (bb (ws.take i) x e)) ⟨EJ.refl H,AW _,.nil⟩ (fun i ys H' hi z=>z.2.1) (ar (by lia)) (fun i ys H' hi z=>SqL.of (z.1 _ _ hl)) (fun i v ys H' p hx z hp=>?_) (fun ys H' z p hp=>?_)
 ·obtain⟨z1,z2,z3⟩:=z;have hi:i<(av ws).length:=(Be.mp hx).1;have hi':i<ws.length:=by lia
  have ev:v=.str (txt ws[i]):=by
   rw[Br,Bf hi'] at hx;exact(Eh hx).symm
  subst ev;have S1:=af hp (.tup [.int (i:Int),.str (txt ws[i])]);refine⟨p,_,rfl,SqT.of ae,rfl,_,_,rfl,_,_,rfl,rfl,?_⟩;have hm:ws[i]∈ws:=BE hi';have et:ws.take (i+1)=ws.take i++[ws[i]]:=by rw[Bz,Bf hi'];rfl
  have elt:(ws.take i).length=i:=by rw[Bq];lia
  refine⟨_,rfl,rfl,_,rfl,txt (x.take e),txt ws[i],rfl,rfl,gv (x.take e) ws[i],rfl,?_⟩;have st:=iQ (ws.take i) ws[i] x e;rw[<- et,elt] at st;cases hB:gv (x.take e) ws[i] with
  |false=>
   rw[hB] at st;show Nx (av ws).length i (fun i ys H'=>EJ H H'/\ys.length<=i/\Stp H' ys (bb (List.take i ws) x e)) ys _;refine Nx.mk hi ⟨z1.trans S1,by lia,?_⟩;rw[st];simpa using z3.mono S1
  |true=>
   rw[hB] at st;have h2:=hle _ hm hB;have h4:=h40 _ hm;refine⟨_,rfl,_,rfl,_,rfl,txt ws[i],rfl,ar (by show ws[i].length<=1000000;lia),_,_,rfl,rfl,ar (by show 2<=1000000;decide),fun a na=>?_⟩;have S2:=af na (.tup [.int (i:Int),.int ((e:Int)-((txt ws[i]).length:Nat))]);refine Nx.mk hi ⟨z1.trans (S1.trans S2),by rw[Ba];exact Ew z2,?_⟩;rw[st];refine Paired.snoc ((z3.mono S1).mono S2) ⟨a,rfl,?_⟩;have e1:((e:Int)-((txt ws[i]).length:Nat))=((e-ws[i].length:Nat):Int):=by
    show(e:Int)-(ws[i].length:Nat)=_;lia
   show upd _ a (.tup [.int (i:Int),.int ((e:Int)-((txt ws[i]).length:Nat))]) a=some (.tup [.int (i:Int),.int ((e-ws[i].length:Nat):Int)]);rw[e1];exact ae
 ·obtain⟨z1,z2,z3⟩:=z;rw[el,Bs (AW _)] at z3;exact q p _ _ (z1.trans (af hp _)) ae (z3.mono (af hp _))
theorem Kb:bootBuiltins "sum"=some (.builtin "sum"):=by decide +kernel
structure Wok(ws:List (List Nat)):Prop where
 n8:ws.length<=8
 l1:∀cs∈ws,1<=cs.length
 l40:∀cs∈ws,cs.length<=40
theorem Wds.ok{ws:List (List Nat)}(h:Wds ws):Wok ws:=⟨h.n8,h.l1,h.l40⟩
theorem eN{x w:List Nat}(h:gv x w=true):w.length<=x.length:=by
 unfold gv Txt.endswith at h;have:=Ef (BM _ _▸h).1;have e1:(txt w).length=w.length:=rfl;have e2:(txt x).length=x.length:=rfl;lia
theorem hW{x w:List Nat}{e:Nat}(h:gv (x.take e) w=true):w.length<=e:=by
 have:=eN h;rw[Bq] at this;lia
theorem mI{ws:List (List Nat)}{x:List Nat}{e:Nat}{s:Nat×Nat}(h:s∈bb ws x e):∃w,ws[s.1]?=some w/\gv (x.take e) w=true/\s.2=e-w.length:=by
 unfold bb at h;obtain⟨p,hp,rfl⟩:=Bh.mp h;obtain⟨hp,hb⟩:=BY.mp hp;exact⟨p.1,List.mem_zipIdx_iff_getElem?.mp hp,hb,rfl⟩
theorem eM{ws:List (List Nat)}(W:Wok ws){x:List Nat}{e:Nat}{s:Nat×Nat}(h:s∈bb ws x (e+1)):s.2<=e:=by
 obtain⟨w,hw,_,e2⟩:=mI h;have:=W.l1 w (Bp hw);lia
def cN (ws:List (List Nat))(x:List Nat):Nat->List Int
 |0=>[1]
 |n+1=>cN ws x n++[((bb ws x (n+1)).map fun s=>(cN ws x n).getD s.2 0).sum]
theorem cG(ws:List (List Nat))(x:List Nat):∀n,(cN ws x n).length=n+1
 |0=>rfl
 |n+1=>by rw[cN,Ba,cG ws x n];rfl
abbrev ivs(ns:List Int):List V:=ns.map V.int
theorem Stp.at{H:Hp}:∀{vs:List V}{ss:List (Nat×Nat)}{i:Nat}{v:V},Stp H vs ss->vs[i]?=some v->∃s a,ss[i]?=some s/\v=.ref a/\H a=some (.tup [.int (s.1:Int),.int (s.2:Int)])
 |_,_,_,_,.nil,e=>by simp at e
 |_,_,0,_,.cons ⟨a,h1,h2⟩ _,e=>by simp at e;subst e;exact⟨_,a,rfl,h1,h2⟩
 |_,_,i+1,v,.cons _ r,e=>by
  obtain⟨s,a,h1,h2⟩:=Stp.at (i:=i) (v:=v) r (by simpa using e);exact⟨s,a,by simpa using h1,h2⟩
theorem fW{ns:List Int}{j:Nat}(h:j<ns.length):atI (ivs ns) ((j:Nat):Int)=some (.int (ns.getD j 0)):=by
 apply bD;rw[Br,Bf h,BG,Bf h];rfl
def HH:Sp:=fun vs H Q _=>∃l ws x,vs=[.ref l,.str (txt x)]/\H l=some (.lst (av ws))/\Wok ws/\x.length<=400/\∀p H',EJ H H'->H p=none->H' p=some (.lst (ivs (cN ws x x.length)))->Q (.ref p) H'
theorem qQ{dl d:DD}(yC:(dg "last_steps" 28 ["words","text","end"] dl 1 Il))(D:Def K mg "ways_to_places" (top 29) ["words","text"] d)(wq:mg "range"=none)(wo:mg "len"=none)(AG:mg "sum"=none):(fk 2 d ["words","text"] HH):=by
 exists["words","text","ways","end"]
 obtain⟨l,ws,x,rfl,hl,W,h400,q⟩:=h;refine⟨_,(ah (aw 2 (Or.inr rfl) (aV (aA (ag _) aL))) (ah (dC (iw wq (EF (ag _) (aA (aC EU (ba EL wo (1) ay) (ag _)) (by rfl)) aL)) (au 3 nd (by walk_at "i")) (aj (bg (iG (2) (aE (nj hc) AG Kb (aA (bo (aq (ts:=["number","start"]) (cap:=["ways"]) (js:=[2]) rfl rfl rfl rfl rfl rfl (by decide +kernel)) (aZ (aU yC.1 yC.2 (EF (0) (EF (1) (aA (3) ay) ay) ay))) (@bT _ _ _ _ _ 2 K rfl hc (aB (au 0 (nd ["number","start","ways"]) (.inr rfl)) (aB (au 1 (nd ["number","start","ways"]) (.inr rfl)) (EV _))) (by rfl) (by rfl)) (@aX _) (aP (show IxR _ (fo K) from EI) (2) (1))) (by rfl))) cQ)))) (aj (aF (2))))),?_⟩
 walk_at "d"
 refine⟨ar (by show 1<=1000000;decide),fun L nL=>?_⟩;have F0:=(Hs.start H).new nL (.lst [.int 1]);refine⟨_,rfl,txt x,rfl,ar (by show x.length<=1000000;lia),_,_,rfl,rfl,?_⟩;have big:x.length<2^62:=by lia
 refine⟨1,((txt x).length:Nat)+1,rfl,⟨by decide,by decide,by show -(2^62)<=((x.length:Nat):Int)+1;lia,by show((x.length:Nat):Int)+1<2^62;lia⟩,?_⟩;have en:((((txt x).length:Nat):Int)+1-1).toNat=x.length:=by show(((x.length:Nat):Int)+1-1).toNat=_;lia
 rw[en];refine⟨fun i m σ H'=>m=x.length-i/\i<=x.length/\(∃e',σ=[some (.ref l),some (.str (txt x)),some (.ref L),e'])/\Hs H [(L,.lst (ivs (cN ws x i)))] H',⟨_,rfl,Bo _,⟨_,rfl⟩,F0⟩,fun i m σ H' z=>?_⟩;obtain⟨rfl,hi,⟨e',rfl⟩,F⟩:=z;have hlL:l≠L:=az hl nL;by_cases hend:i=x.length
 ·subst hend;exact .inl ⟨AW _,_,rfl,q L H' F.all nL (F.get 0)⟩
 have hlt:i<x.length:=by lia
 refine .inr ⟨hlt,fun σ' H''=>(∃e',σ'=[some (.ref l),some (.str (txt x)),some (.ref L),e'])/\Hs H [(L,.lst (ivs (cN ws x (i+1))))] H'',fun σ' H'' z=>⟨x.length-(i+1),by lia,rfl,hlt,z.1,z.2⟩,fun v H'' z=>?_⟩;obtain⟨rfl,ev⟩:=z;obtain rfl:v=.int ((i+1:Nat):Int):=by rw[ev];congr 1;lia
 have wl:=cG ws x i;refine⟨_,rfl,.inl ⟨rfl,_,SqL.of (F.get 0)⟩,_,rfl,_,rfl,_,rfl,l,ws,x,i+1,rfl,F.all _ _ hl,W.n8,W.l40,h400,fun cs _ h=>hW h,fun p us H1 S1 hp hs=>⟨p,rfl,⟨_,SqL.of hp⟩,?_⟩⟩;have sl:(bb ws x (i+1)).length<=8:=by
  unfold bb;rw[AX];refine Bm (Cp _ _) ?_;rw[List.length_zipIdx];exact W.n8
 have eu:=Paired.length hs;refine cq (K:=K) (a:=p) (xs:=us) (fun k ys H2=>EJ H1 H2/\ys=ivs (((bb ws x (i+1)).take k).map fun s=>(cN ws x i).getD s.2 0)) ⟨EJ.refl H1,rfl⟩ (fun k ys H2 hk z=>by rw[z.2,AX,AX,Bq];lia) (ar (by lia)) (fun k ys H2 hk z=>SqL.of (z.1 _ _ hp)) (fun k v ys H2 hv z=>?_) (fun ys H2 z p' hp'=>?_)
 ·obtain⟨z1,rfl⟩:=z;have hk:k<us.length:=(Be.mp hv).1;obtain⟨s',a,es,rfl,ha⟩:=hs.at hv;have hst:=eM W (Bp es);refine⟨a,_,rfl,SqT.of (z1 _ _ ha),rfl,_,_,rfl,_,_,rfl,rfl,?_⟩;refine⟨_,rfl,_,rfl,L,_,_,_,rfl,rfl,SqL.of (z1 _ _ (S1 _ _ (F.get 0))),fW (by lia),Nx.mk hk ⟨z1,?_⟩⟩;rw[Bz,es];simp[ivs]
 ·obtain⟨z1,rfl⟩:=z;rw[eu,Bs (AW _)];refine⟨p',_,rfl,SqL.of ae,L,ivs (cN ws x i),_,rfl,rfl,?_,?_,?_⟩
  ·exact af hp' _ _ _ (z1 _ _ (S1 _ _ (F.get 0)))
  ·refine Bc (show _<1000000 from ?_) (ar (AW _));rw[AX];lia
  ·refine⟨⟨_,rfl⟩,?_⟩;have F1:=F.mono (S1.trans (z1.trans (af hp' (.lst (ivs ((bb ws x (i+1)).map fun s=>(cN ws x i).getD s.2 0))))));have F2:=F1.put 0 (.lst (ivs (cN ws x (i+1))));rw[cN] at F2 ⊢;simpa [ivs] using F2
def Lw:Sp:=fun vs H Q _=>∃r ns,vs=[.ref r]/\H r=some (.lst (ivs ns))/\∀p,H p=none->Q (.ref p) (upd H p (.tup [.int ((ns.length:Nat):Int),.ref r]))
theorem vj{d:DD}(D:Def K mg "shortest_first" (top 30) ["row"] d)(wo:mg "len"=none):(fk 1 d ["row"] Lw):=by
 exists["row"]
 obtain⟨r,ns,rfl,h,q⟩:=h;refine⟨_,(aj (aF (aO (EF (ba EM wo (0) ay) (aA (0) ay) cQ)))),?_⟩
 walk_at "d"
 refine⟨_,rfl,r,_,rfl,.inl (SqL.of h),_,rfl,ar (by show 2<=1000000;decide),fun p hp=>?_⟩;have z:=q p hp;rw[<- AX (f:=V.int) (as:=ns)] at z;exact z
def Rw (H0 H:Hp)(X:Addr)(v:V)(o:Option (List Int)):Prop:=(o=none/\v=.non)\/∃a ns,o=some ns/\v=.ref a/\H0 a=none/\a≠X/\H a=some (.lst (ivs ns))
abbrev Rws(H0 H:Hp)(X:Addr)(us:List V)(L:List (Option (List Int))):Prop:=Paired (Rw H0 H X) us L
theorem Rws.mono{H0 H H':Hp}{X:Addr}(S:EJ H H'){us:List V}{L:List (Option (List Int))}(h:Rws H0 H X us L):Rws H0 H' X us L:=
 Paired.Gy h fun v o h=>h.elim .inl fun hq116=>by obtain⟨a,ns,h1,h2,h3,h4,h5⟩:=hq116;exact .inr ⟨a,ns,h1,h2,h3,h4,S _ _ h5⟩
theorem Rws.put{H0 H:Hp}{X:Addr}(u:HO){us:List V}{L:List (Option (List Int))}(h:Rws H0 H X us L):Rws H0 (upd H X u) X us L:=
 Paired.Gy h fun v o h=>h.elim .inl fun hq117=>by obtain⟨a,ns,h1,h2,h3,h4,h5⟩:=hq117;exact .inr ⟨a,ns,h1,h2,h3,h4,by rw[ao h4];exact h5⟩
theorem Rws.at{H0 H:Hp}{X:Addr}:∀{us:List V}{L:List (Option (List Int))}{i:Nat},Rws H0 H X us L->i<L.length->∃v,us[i]?=some v/\Rw H0 H X v (L.getD i none)
 |_,_,_,.nil,h=>absurd h (by simp)
 |_,_,0,.cons h _,_=>⟨_,rfl,h⟩
 |_,_,i+1,.cons _ r,h=>by
  obtain⟨v,h1,h2⟩:=Rws.at (i:=i) r (by simpa using h);exact⟨v,by simpa using h1,by simpa using h2⟩
def oQ (ws:List (List Nat))(x:List Nat)(L:List (Option (List Int)))(e:Nat):List (List Int):=(bb ws x e).filterMap fun s=>(L.getD s.2 none).map fun r=>r++[(s.1:Int)]
inductive Lst(ws:List (List Nat))(x:List Nat):Nat->List (Option (List Int))->Prop
 |zero:Lst ws x 0 [some []]
 |miss {n:Nat}{L:List (Option (List Int))}:Lst ws x n L->oQ ws x L (n+1)=[]->Lst ws x (n+1) (L++[none])
 |hit {n:Nat}{L:List (Option (List Int))}{r:List Int}:Lst ws x n L->r∈oQ ws x L (n+1)->(∀r'∈oQ ws x L (n+1),kLt r' r=false)->Lst ws x (n+1) (L++[some r])
theorem Lst.len{ws:List (List Nat)}{x:List Nat}{n:Nat}{L:List (Option (List Int))}(h:Lst ws x n L):L.length=n+1:=by
 induction h with
 |zero=>rfl
 |miss _ _ ih=>rw[Ba,ih];rfl
 |hit _ _ _ ih=>rw[Ba,ih];rfl
theorem fu(L:List (Option (List Int))):∀ss:List (Nat×Nat),((ss.filter fun s=>(L.getD s.2 none).isSome).map fun s=>(L.getD s.2 none).getD []++[(s.1:Int)])=ss.filterMap fun s=>(L.getD s.2 none).map fun r=>r++[(s.1:Int)]
 |[]=>rfl
 |s::ss=>by
  have ih:=fu L ss;cases h:L.getD s.2 none with
  |none=>rw[List.filter_cons_of_neg (by rw[h];simp),ih,List.filterMap_cons_none (by rw[h];rfl)]
  |some r=>rw[List.filter_cons_of_pos (by rw[h];rfl),Bv,ih,List.filterMap_cons_some (b:=r++[(s.1:Int)]) (by rw[h];rfl),h];rfl
theorem iH{α:Type}(L:List α)(y d:α)(i:Nat):(L++[y]).getD i d=if i<L.length then L.getD i d else if i=L.length then y else d:=by
 rw[BG,BG];by_cases h:i<L.length
 ·rw[DZ h,CJ h]
 ·rw[DY h,BV (by lia)];by_cases h2:i=L.length
  ·rw[DZ h2,h2,Nat.sub_self];rfl
  ·rw[DY h2,List.getElem?_eq_none (by show 1<=_;lia)];rfl
theorem Lst.bound{ws:List (List Nat)}(W:Wok ws){x:List Nat}{n:Nat}{L:List (Option (List Int))}(h:Lst ws x n L):∀(i:Nat)(r:List Int),L.getD i none=some r->r.length<=i:=by
 induction h with
 |zero=>
  intro i r e
  match i,e with
  |0,e=>cases e;exact AW _
  |i+1,e=>exact absurd e (by simp)
 |miss h _ ih=>
  intro i r e;rw[iH] at e;split at e
  ·exact ih i r e
  ·split at e<;>cases e
 |@hit n L r0 h hr _ ih=>
  intro i r e;rw[iH] at e;split at e
  ·exact ih i r e
  ·split at e
   ·rename_i h1 h2;cases e;obtain⟨s,hs,es⟩:=Cz.mp hr;have h3:=eM W hs;have h4:=h.len;cases q:L.getD s.2 none with
    |none=>rw[q] at es;cases es
    |some r1=>
     rw[q] at es;have es':r1++[(s.1:Int)]=r0:=by simpa using es
     have:=ih _ _ q;rw[<- es',Ba];show r1.length+1<=i;lia
   ·cases e
def Kc:Sp:=fun vs H Q _=>∃l ws x,vs=[.ref l,.str (txt x)]/\H l=some (.lst (av ws))/\Wok ws/\x.length<=400/\∀p us L H',EJ H H'->H' p=some (.lst us)->Rws H H' p us L->Lst ws x x.length L->Q (.ref p) H'
theorem sR{dl df d:DD}(yC:(dg "last_steps" 28 ["words","text","end"] dl 1 Il))(D_sf:(dg "shortest_first" 30 ["row"] df 1 Lw))(D:Def K mg "least_to_places" (top 31) ["words","text"] d)(wq:mg "range"=none)(wo:mg "len"=none)(yB:mg "min"=none):(fk 3 d ["words","text"] Kc):=by
 exists["words","text","least","end","steps","rows"]
 obtain⟨l,ws,x,rfl,hl,W,h400,q⟩:=h;refine⟨_,(ah (aw 2 (Or.inr rfl) (aV (aA (aV (@Fe _)) (by rfl)))) (ah (dC (iw wq (EF (ag _) (aA (aC EU (ba EL wo (1) ay) (ag _)) (by rfl)) aL)) (au 3 nd (by walk_at "i")) (ah (cH 4 (aq (ts:=["number","start"]) (cap:=["least"]) (js:=[2]) rfl rfl rfl rfl rfl rfl (by decide +kernel)) (aZ (aU yC.1 yC.2 (EF (0) (EF (1) (aA (3) ay) ay) ay))) (@bT _ _ _ _ _ 2 K rfl hc (aB (au 0 (nd ["number","start","least"]) (.inr rfl)) (aB (au 1 (nd ["number","start","least"]) (.inr rfl)) (EV _))) (by rfl) (by rfl)) (@bY _ _ _ (aG JP (aP (show IxR _ (fo K) from EI) (2) (1)) (fJ _) (aI _))) (aO (EF (0) (aA (1) ay) ay))) (ah (cH 5 (aq (ts:=["number","start"]) (cap:=["least"]) (js:=[2]) rfl rfl rfl rfl rfl rfl (by decide +kernel)) (aZ (4)) (@bT _ _ _ _ _ 2 K rfl hc (aB (au 0 (nd ["number","start","least"]) (.inr rfl)) (aB (au 1 (nd ["number","start","least"]) (.inr rfl)) (EV _))) (by rfl) (by rfl)) (@aX _) (aC FG (aP (show IxR _ (fo K) from EI) (2) (1)) (aV (aA (0) ay)))) (aj (bg (iG (2) (ng (lQ (lL (D_sf.2.mono (by decide)) hr D_sf.1.b (fun r ns H Q h q=>⟨r,ns,rfl,h,q⟩)) hc hr.units) yB Hz (aA (5) ay) (jq (bA (.ref df.f) D_sf.1.m rfl) (jq (fJ _) (@Jt _)))) cQ)))))) (aj (aF (2))))),?_⟩
 walk_at "d"
 refine⟨Bo _,fun L0 nL0=>⟨ar (by show 1<=1000000;decide),fun LA nLA=>?_⟩⟩;have n0:LA≠L0:=fun z=>by rw[z,ae] at nLA;cases nLA
 have SA:EJ H (upd (upd H L0 (.lst [])) LA (.lst [.ref L0])):=(af nL0 _).trans (af nLA _);have nA:H LA=none:=by rw[ao n0] at nLA;exact nLA
 have R0:Rws H (upd (upd H L0 (.lst [])) LA (.lst [.ref L0])) LA [.ref L0] [some []]:=.cons (.inr ⟨L0,[],rfl,rfl,nL0,Er n0,by rw[ao (Er n0)];exact ae⟩) .nil;have gA:upd (upd H L0 (.lst [])) LA (.lst [.ref L0]) LA=some (.lst [.ref L0]):=ae;generalize upd (upd H L0 (.lst [])) LA (.lst [.ref L0])=HA at SA R0 gA;refine⟨_,rfl,txt x,rfl,ar (by show x.length<=1000000;lia),_,_,rfl,rfl,?_⟩;have big:x.length<2^62:=by lia
 refine⟨1,((txt x).length:Nat)+1,rfl,⟨by decide,by decide,by show -(2^62)<=((x.length:Nat):Int)+1;lia,by show((x.length:Nat):Int)+1<2^62;lia⟩,?_⟩;have en:((((txt x).length:Nat):Int)+1-1).toNat=x.length:=by show(((x.length:Nat):Int)+1-1).toNat=_;lia
 rw[en];refine⟨fun i m σ H'=>m=x.length-i/\i<=x.length/\(∃e' s' r',σ=[some (.ref l),some (.str (txt x)),some (.ref LA),e',s',r'])/\∃us L,EJ H H'/\H' LA=some (.lst us)/\Rws H H' LA us L/\Lst ws x i L,⟨_,rfl,Bo _,⟨_,_,_,rfl⟩,_,_,SA,gA,R0,.zero⟩,fun i m σ H' z=>?_⟩;obtain⟨rfl,hi,⟨e',s',r',rfl⟩,us,L,SH,hA,hR,hL⟩:=z;by_cases hend:i=x.length
 ·subst hend;exact .inl ⟨AW _,_,rfl,q LA us L H' SH hA hR hL⟩
 have hlt:i<x.length:=by lia
 refine .inr ⟨hlt,fun σ' H''=>(∃e' s' r',σ'=[some (.ref l),some (.str (txt x)),some (.ref LA),e',s',r'])/\∃us L,EJ H H''/\H'' LA=some (.lst us)/\Rws H H'' LA us L/\Lst ws x (i+1) L,fun σ' H'' z=>⟨x.length-(i+1),by lia,rfl,hlt,z.1,z.2⟩,fun v H'' z=>?_⟩;obtain⟨rfl,ev⟩:=z;obtain rfl:v=.int ((i+1:Nat):Int):=by rw[ev];congr 1;lia
 have Ll:=hL.len;have Lu:=Paired.length hR;refine⟨_,rfl,_,rfl,_,rfl,l,ws,x,i+1,rfl,SH _ _ hl,W.n8,W.l40,h400,fun cs _ h=>hW h,fun p us0 H1 S1 hp hs=>⟨p,rfl,⟨_,SqL.of hp⟩,?_⟩⟩;have sl:(bb ws x (i+1)).length<=8:=by
  unfold bb;rw[AX];refine Bm (Cp _ _) ?_;rw[List.length_zipIdx];exact W.n8
 have eu:=Paired.length hs;refine cq (K:=K) (a:=p) (xs:=us0) (fun k ys H2=>EJ H1 H2/\ys.length<=k/\Stp H2 ys (((bb ws x (i+1)).take k).filter fun s=>(L.getD s.2 none).isSome)) ⟨EJ.refl H1,AW _,.nil⟩ (fun k ys H2 hk z=>z.2.1) (ar (by lia)) (fun k ys H2 hk z=>SqL.of (z.1 _ _ hp)) (fun k v ys H2 hv z=>?_) (fun us1 H2 z p1 hp1=>?_)
 ·obtain⟨z1,z2,z3⟩:=z;have hk:k<us0.length:=(Be.mp hv).1;obtain⟨s',a,es,rfl,ha⟩:=hs.at hv;have hst:=eM W (Bp es);have et:(bb ws x (i+1)).take (k+1)=(bb ws x (i+1)).take k++[s']:=by rw[Bz,es];rfl
  obtain⟨v',ev',rv'⟩:=hR.at (i:=s'.2) (by lia);refine⟨a,_,rfl,SqT.of (z1 _ _ ha),rfl,_,_,rfl,_,_,rfl,rfl,?_⟩;refine⟨_,rfl,_,rfl,LA,us,_,v',rfl,rfl,SqL.of (z1 _ _ (S1 _ _ hA)),bD ev',rfl,!decide (v'=.non),rfl,?_⟩;rcases rv' with ⟨eo,rfl⟩|⟨a',ns,eo,rfl,_⟩
  ·show Nx us0.length k (fun k ys H2=>EJ H1 H2/\ys.length<=k/\Stp H2 ys (((bb ws x (i+1)).take k).filter fun s=>(L.getD s.2 none).isSome)) ys _;refine Nx.mk hk ⟨z1,by lia,?_⟩;rw[et,Cw,BQ,eo];simpa using z3
  ·refine⟨_,rfl,_,rfl,ar (by show 2<=1000000;decide),fun a2 na2=>Nx.mk hk ⟨z1.trans (af na2 _),by rw[Ba];exact Ew z2,?_⟩⟩;rw[et,Cw,BQ,eo];exact Paired.snoc (z3.mono (af na2 _)) ⟨a2,rfl,ae⟩
 obtain⟨z1,z2,z3⟩:=z;rw[eu,Bs (AW _)] at z3;have S2:EJ H'' (upd H2 p1 (.lst us1)):=S1.trans (z1.trans (af hp1 _));have hs1:=z3.mono (af hp1 (.lst us1));have hp1':upd H2 p1 (.lst us1) p1=some (.lst us1):=ae;generalize upd H2 p1 (.lst us1)=H3 at S2 hs1 hp1';generalize hss:(bb ws x (i+1)).filter (fun s=>(L.getD s.2 none).isSome)=ss at hs1;have eu1:=Paired.length hs1;have sl1:ss.length<=8:=by rw[<- hss];exact Bm (Cp _ _) sl
 have mss:∀s∈ss,s.2<=i/\∃r,L.getD s.2 none=some r:=fun s h=>by
  rw[<- hss] at h;obtain⟨h1,h2⟩:=BY.mp h;exact⟨eM W h1,CA.mp h2⟩
 refine⟨_,rfl,p1,rfl,⟨_,SqL.of hp1'⟩,?_⟩;refine cq (K:=K) (a:=p1) (xs:=us1) (fun k ys H4=>EJ H3 H4/\∃ps:List (Addr×List Int),ys=(ps.map fun p=>V.ref p.1)/\ps.map (·.2)=((ss.take k).map fun s=>(L.getD s.2 none).getD []++[(s.1:Int)])/\∀p∈ps,H p.1=none/\p.1≠LA/\H4 p.1=some (.lst (p.2.map V.int))) ⟨EJ.refl H3,[],rfl,rfl,fun p h=>absurd h (by simp)⟩ (fun k ys H2 hk z=>?_) (ar (by lia)) (fun k ys H2 hk z=>SqL.of (z.1 _ _ hp1')) (fun k v ys H4 hv z=>?_) (fun ys H4 z p2 hp2=>?_)
 ·obtain⟨_,ps,rfl,h2,_⟩:=z;have:=congrArg List.length h2;rw[AX,AX,Bq] at this;rw[AX];lia
 ·obtain⟨w1,ps,rfl,w2,w3⟩:=z;have hk:k<us1.length:=(Be.mp hv).1;obtain⟨s',a,es,rfl,ha⟩:=hs1.at hv;obtain⟨hst,r,er⟩:=mss _ (Bp es);have et:ss.take (k+1)=ss.take k++[s']:=by rw[Bz,es];rfl
  obtain⟨v',ev',rv'⟩:=hR.at (i:=s'.2) (by lia);rw[er] at rv';rcases rv' with ⟨eo,rfl⟩|⟨a',ns,eo,rfl,hn',na',ha'⟩
  ·cases eo
  cases eo;have hb:=hL.bound W _ _ er;refine⟨a,_,rfl,SqT.of (w1 _ _ ha),rfl,_,_,rfl,_,_,rfl,rfl,?_⟩;refine⟨_,rfl,_,rfl,LA,us,_,.ref a',rfl,rfl,SqL.of (w1 _ _ (S2 _ _ hA)),bD ev',_,rfl,ar (by show 1<=1000000;decide),fun b nb=>?_⟩;refine⟨a',b,ivs r,[.int (s'.1:Int)],rfl,rfl,af nb _ _ _ (w1 _ _ (S2 _ _ ha')),ae,ar (by rw[AX];show r.length+1<=1000000;lia),fun c nc=>Nx.mk hk ⟨w1.trans ((af nb _).trans (af nc _)),ps++[(c,r++[(s'.1:Int)])],?_,?_,fun p h=>?_⟩⟩
  ·rw[Bk];rfl
  ·rw[et,Bk,Bk,w2,Bv,Bv,er];rfl
  ·rcases Bb.mp h with h|h
   ·obtain⟨a1,a2,a3⟩:=w3 p h;exact⟨a1,a2,af nc _ _ _ (af nb _ _ _ a3)⟩
   ·rw[Bg.mp h];have fc:=(af nb _).free nc;have f3:H c=none:=(SH.trans (S2.trans w1)).free fc;refine⟨f3,fun z=>?_,?_⟩
    ·have:=w1 _ _ (S2 _ _ hA);rw[<- z,fc] at this;cases this
    ·show upd _ c (.lst (ivs r++[.int (s'.1:Int)])) c=some (.lst ((r++[(s'.1:Int)]).map V.int));rw[ae,Bk];rfl
 obtain⟨w1,ps,rfl,w2,w3⟩:=z;rw[eu1,Bs (AW _),<- hss,fu] at w2;have hcd:ps.map (·.2)=oQ ws x L (i+1):=w2;have S3:EJ H'' (upd H4 p2 (.lst (ps.map fun p=>V.ref p.1))):=S2.trans (w1.trans (af hp2 _));have S4:=af hp2 (.lst (ps.map fun p=>V.ref p.1));have w3':∀p∈ps,H p.1=none/\p.1≠LA/\upd H4 p2 (.lst (ps.map fun p=>V.ref p.1)) p.1=some (.lst (p.2.map V.int)):=fun p h=>⟨(w3 p h).1,(w3 p h).2.1,S4 _ _ (w3 p h).2.2⟩
 have lz:us.length<sizeLine:=Bc (show _<1000000 by lia) (ar (AW _));refine⟨_,rfl,.inl ⟨rfl,_,SqL.of (S3 _ _ hA)⟩,_,rfl,p2,ps,rfl,rfl,ae,fun p h=>(w3' p h).2.2,fun ep=>?_,fun p H5 hp5 hmin S5=>?_⟩
 ·refine⟨LA,us,_,rfl,rfl,S3 _ _ hA,lz,⟨_,_,_,rfl⟩,us++[.non],L++[none],?_,ae,?_,.miss hL (by rw[<- hcd,ep];rfl)⟩
  ·intro b o h;rw[ao (az h nA)];exact S3 _ _ (SH _ _ h)
  ·exact Paired.snoc ((hR.mono S3).put _) (.inl ⟨rfl,rfl⟩)
 ·have S6:=S3.trans S5;refine⟨LA,us,_,rfl,rfl,S6 _ _ hA,lz,⟨_,_,_,rfl⟩,us++[.ref p.1],L++[some p.2],?_,ae,?_,.hit hL (by rw[<- hcd];exact List.mem_map_of_mem hp5) (fun r' hr'=>?_)⟩
  ·intro b o h;rw[ao (az h nA)];exact S6 _ _ (SH _ _ h)
  ·obtain⟨a1,a2,a3⟩:=w3' p hp5;exact Paired.snoc ((hR.mono S6).put _) (.inr ⟨p.1,p.2,rfl,rfl,a1,a2,by rw[ao a2];exact S5 _ _ a3⟩)
  ·rw[<- hcd] at hr';obtain⟨p',hp',rfl⟩:=Bh.mp hr';exact hmin p' hp'
def plc (ns:List Int)(k:Nat):List Int:=((List.range k).filter fun j=>decide (0<ns.getD j 0)).map fun(j:Nat)=>(j:Int)
def LC:Sp:=fun vs H Q _=>∃l ws x,vs=[.ref l,.str (txt x)]/\H l=some (.lst (av ws))/\Wok ws/\x.length<=400/\∀p H',EJ H H'->H p=none->H' p=some (.lst (ivs (plc (cN ws x x.length) (x.length+1))))->Q (.ref p) H'
theorem uN{dx d:DD}(wU:(dg "ways_to_places" 29 ["words","text"] dx 2 HH))(D:Def K mg "reached_places" (top 32) ["words","text"] d)(wz:mg "enumerate"=none):(fk 3 d ["words","text"] LC):=by
 exists["words","text"]
 obtain⟨l,ws,x,rfl,hl,hw,h400,q⟩:=h;refine⟨_,(aj (aF (bo (aq (ts:=["place","many"]) (cap:=[]) (js:=[]) rfl rfl rfl rfl rfl rfl (by decide +kernel)) (gJ wz (aA (aU wU.1 wU.2 (EF (0) (aA (1) ay) ay)) cQ)) (@bT _ _ _ _ _ 2 K rfl hc (aB (au 0 (nd ["place","many"]) (.inr rfl)) (aB (au 1 (nd ["place","many"]) (.inr rfl)) (EV _))) (by rfl) (by rfl)) (@bY _ _ _ (aG JR (1) (ag _) (aI _))) (0)))),?_⟩
 walk_at "d"
 refine⟨_,rfl,_,rfl,l,ws,x,rfl,hl,hw,h400,fun p H3 S3 n3 g3=>⟨p,rfl,⟨_,SqL.of g3⟩,?_⟩⟩;have wl:=cG ws x x.length;generalize cN ws x x.length=ns at g3 wl q;have SS:=S3;have el:(ivs ns).length=x.length+1:=by rw[AX,wl]
 refine oZ (K:=K) (a:=p) (xs:=ivs ns) (fun i ys H'=>EJ H3 H'/\ys.length<=i/\ys=ivs (plc ns i)) ⟨EJ.refl H3,AW _,rfl⟩ (fun i ys H' hi z=>z.2.1) (ar (by lia)) (fun i ys H' hi z=>SqL.of (z.1 _ _ g3)) (fun i v ys H' p' hx z hp=>?_) (fun ys H' z p' hp=>?_)
 ·obtain⟨z1,z2,rfl⟩:=z;have hi:i<(ivs ns).length:=(Be.mp hx).1;have ev:v=.int (ns.getD i 0):=by
   rw[Br,Bf (by lia)] at hx;rw[BG,Bf (by lia)];exact(Eh hx).symm
  subst ev;have S4:=af hp (.tup [.int (i:Int),.int (ns.getD i 0)]);have ep:plc ns (i+1)=plc ns i++(if decide (0<ns.getD i 0)=true then [(i:Int)] else []):=by
   unfold plc;rw[Dl,Cw,Bk,BQ];split<;>rfl
  refine⟨p',_,rfl,SqT.of ae,rfl,_,_,rfl,_,_,rfl,rfl,?_⟩;refine⟨_,rfl,_,_,rfl,rfl,decide (0<ns.getD i 0),rfl,?_⟩;cases hB:decide (0<ns.getD i 0) with
  |false=>
   rw[hB] at ep;show Nx (ivs ns).length i (fun i ys H'=>EJ H3 H'/\ys.length<=i/\ys=ivs (plc ns i)) _ _;refine Nx.mk hi ⟨z1.trans S4,by lia,?_⟩;rw[ep];simp
  |true=>
   rw[hB] at ep;refine⟨_,rfl,Nx.mk hi ⟨z1.trans S4,by rw[Ba];exact Ew z2,?_⟩⟩;rw[ep];simp[ivs]
 ·obtain⟨z1,z2,rfl⟩:=z;rw[el];exact q p' _ (SS.trans (z1.trans (af hp _))) (SS.trans z1 |>.free hp) ae
theorem DatAll.strs{H:Hp}:∀xs:List Str,DatAll K H (xs.map V.str) (xs.map PyData.str)
 |[]=>.nil
 |x::r=>.cons (.str x) (DatAll.strs r)
theorem JC:∀xs:List Str,PyData.eqv (.list (xs.map PyData.str)) (.list [])=xs.isEmpty
 |[]=>rfl
 |_::_=>rfl
theorem FP:∀xs:List Str,(∀x∈xs,PyData.strOk x=true)->PyData.canLayAll0 (xs.map PyData.str)=true
 |[],_=>rfl
 |x::r,h=>by
  show(PyData.strOk x&&PyData.canLayAll0 (r.map PyData.str))=true;rw[h x Bj,FP r fun y hy=>h y (By _ hy)];rfl
theorem Gm:∀xs:List Str,PyData.depthAll (xs.map PyData.str)=0
 |[]=>rfl
 |x::r=>by
  show max 0 (PyData.depthAll (r.map PyData.str))=0;rw[Gm r];rfl
theorem da(xs:List Str):(PyData.list (xs.map PyData.str)).depth<=60:=by
 have e:(PyData.list (xs.map PyData.str)).depth=PyData.depthAll (xs.map PyData.str)+1:=by simp[PyData.depth]
 rw[e,Gm];decide
theorem uC{x:Str}(h:As x):PyData.strOk x=true:=by
 unfold PyData.strOk;rw[<- Array.all_toList,BR];intro c hc;exact Ea (CT (h c hc) (by decide))
theorem je{α:Type}{l:List α}{r:Int}(h0:0<=r)(h1:r<l.length):∃c,atI l r=some c/\c∈l:=by
 have hk:r.toNat<l.length:=by lia
 have ek:r=((r.toNat:Nat):Int):=by lia
 have e:=bD (Bf hk);rw[<- ek] at e;exact⟨_,e,BE hk⟩
theorem Dr.put{p W:Addr}{H H':Hp}(h:Dr p H H')(n:H W=none)(ne:W≠p)(o:HO):Dr p H (upd H' W o):=by
 refine⟨fun b u e=>?_,?_⟩
 ·have e1:=aR p H _ _ e;have nb:b≠W:=az e1 n;have e2:=h.same _ _ e;have np:b≠p:=fun z=>by unfold hid at e;rw[DZ z] at e;cases e
  rw[cD np] at e2 ⊢;rw[ao nb];exact e2
 ·obtain⟨a,b,c,e,r⟩:=h.ds;exact⟨a,b,c,by rw[ao (Er ne)];exact e,r⟩
theorem iS{p W:Addr}{H:Hp}(ne:W≠p)(o:HO):hid p (upd H W o) W=some o:=by rw[cD ne,ae]
theorem qf(z:Str):z=txt z.cps.toList:=eX rfl
structure Gw(cs:List Nat):Prop where
 lr:∀c∈cs,Fs c
 l1:1<=cs.length
 l40:cs.length<=40
abbrev rn(ws:List (List Nat)):List Str:=ws.map txt
theorem ef(ws:List (List Nat)):av ws=(rn ws).map V.str:=by rw[Ct];rfl
theorem dP(ws:List (List Nat))(z:Str):av ws++[V.str z]=av (ws++[z.cps.toList]):=by
 show(ws.map fun cs=>V.str (txt cs))++[V.str z]=(ws++[z.cps.toList]).map fun cs=>V.str (txt cs);rw[Bk];show _=_++[V.str (txt z.cps.toList)]
 rw[<- qf]
def KG:Sp:=fun vs H Q _=>∃p,vs=[.ref p]/\Ds H p/\∀W ws H',Dr p H H'->H W=none->hid p H' W=some (.lst (av ws))->Wds ws->Q (.ref W) H'
theorem rG{z:Str}(h:LRs z)(h1:1<=z.length):Gw ((Txt.slice z none (some 40)).cps.toList):=by
 have e:(Txt.slice z none (some 40)).length=min 40 z.length:=by rw[show(40:Int)=((40:Nat):Int) from rfl,cI]
 rw[cn] at e;exact⟨fun c hc=>h c (cf hc),by lia,by lia⟩
theorem tS{dd dp d:DD}(wu:(dg "_law_draw" 59 ["draws","many"] dd 1 Gp))(wD:(dg "_law_piece" 60 ["draws","most"] dp 2 GC))(D:Def K mg "_law_makers" (top 62) ["draws"] d)(wq:mg "range"=none)(wo:mg "len"=none):(fk 3 d ["draws"] KG):=by
 exists["draws","words","many","most","k","word","one","other","way"]
 obtain⟨p,rfl,hp,q⟩:=h;refine⟨_,(ah (aw 1 (Or.inl rfl) (aV (@Fe _))) (ah (aw 2 (Or.inl rfl) (aP EI (aV (EF (aC EU (ag _) (aU wu.1 wu.2 (EF (0) (aA (ag _) aL) ay))) (EF (ag _) (aA (ag _) aL) aL) (by rfl))) (aU wu.1 wu.2 (EF (0) (aA (ag _) aL) ay)))) (ah (aw 3 (Or.inl rfl) (aP EI (aV (EF (ag _) (EF (ag _) (EF (ag _) (aA (ag _) aL) aL) aL) aL)) (aU wu.1 wu.2 (EF (0) (aA (ag _) aL) ay)))) (ah (dC (bF wq (aA (2) ay)) (au 4 nd (by walk_at "i")) (ah (aw 5 (Or.inl rfl) (aU wD.1 wD.2 (EF (0) (aA (3) ay) ay))) (ah (br (aG (jM hr.units) (1) (aV (@Fe _)) (aI _)) (ah (aw 6 (Or.inl rfl) (aP EI (1) (aU wu.1 wu.2 (EF (0) (aA (ba EM wo (1) ay) cQ) ay)))) (ah (aw 7 (Or.inl rfl) (aP EI (1) (aU wu.1 wu.2 (EF (0) (aA (ba EM wo (1) ay) cQ) ay)))) (ah (aw 8 (Or.inl rfl) (aU wu.1 wu.2 (EF (0) (aA (ag _) aL) ay))) (aj (br (aG IM (8) (ag _) (aI _)) (aj (aw 5 (Or.inl rfl) (aP EI (aV (EF (aC Fb (6) (7)) (EF (aC Fb (6) (5)) (EF (aC Fb (5) (6)) (aA (6) ay) (by rfl)) (by rfl)) (by rfl))) (8)))) (EO _)))))) (EO _)) (aj (bg (iG (1) (aW Fj (5) (ET _) (bh (ag _))) (by rfl))))))) (aj (aF (1))))))),?_⟩
 walk_at "d"
 refine⟨Bo _,fun W nW=>?_⟩;have W0:=Dr.new hp nW (.lst []);have neW:W≠p:=Er (hp.ne nW);have g0:hid p (upd H W (.lst [])) W=some (.lst (av [])):=bH hp nW _;refine⟨_,rfl,p,8,rfl,W0.ds,by decide,by decide,fun r1 H1 a0 a1 dr1=>?_⟩;refine⟨_,_,rfl,rfl,ar (by show 3<=1000000;decide),fun L1 nL1=>?_⟩;have D1:=Dr.new dr1.ds nL1 (.lst [.int (1+r1),.int 2,.int 3]);refine⟨_,rfl,p,3,rfl,D1.ds,by decide,by decide,fun r2 H2 b0 b1 dr2=>?_⟩;have gL1:=aR p _ _ _ (dr2.same _ _ (bH dr1.ds nL1 (.lst [.int (1+r1),.int 2,.int 3])));obtain⟨v1,ev1,mv1⟩:=je (l:=[V.int (1+r1),.int 2,.int 3]) b0 b1;obtain⟨many,rfl,mn1,mn8⟩:∃n:Nat,v1=.int (n:Int)/\1<=n/\n<=8:=by
  simp only[Bl,BU,or_false] at mv1;rcases mv1 with rfl|rfl|rfl
  ·exact⟨(1+r1).toNat,by congr 1;lia,by lia,by lia⟩
  ·exact⟨2,rfl,by decide,by decide⟩
  ·exact⟨3,rfl,by decide,by decide⟩
 refine⟨L1,_,r2,_,rfl,rfl,SqL.of gL1,ev1,?_⟩;refine⟨ar (by show 4<=1000000;decide),fun L2 nL2=>?_⟩;have D2:=Dr.new dr2.ds nL2 (.lst [.int 3,.int 6,.int 20,.int 40]);refine⟨_,rfl,p,4,rfl,D2.ds,by decide,by decide,fun r3 H3 c0 c1 dr3=>?_⟩;have gL2:=aR p _ _ _ (dr3.same _ _ (bH dr2.ds nL2 (.lst [.int 3,.int 6,.int 20,.int 40])));obtain⟨v2,ev2,mv2⟩:=je (l:=[V.int 3,.int 6,.int 20,.int 40]) c0 c1;obtain⟨most,rfl,ms1,ms40⟩:∃n:Int,v2=.int n/\1<=n/\n<=40:=by
  simp only[Bl,BU,or_false] at mv2;rcases mv2 with rfl|rfl|rfl|rfl
  ·exact⟨3,rfl,by decide,by decide⟩
  ·exact⟨6,rfl,by decide,by decide⟩
  ·exact⟨20,rfl,by decide,by decide⟩
  ·exact⟨40,rfl,by decide,by decide⟩
 refine⟨L2,_,r3,_,rfl,rfl,SqL.of gL2,ev2,?_⟩;have DD3:=W0.trans (dr1.trans (D1.trans (dr2.trans (D2.trans dr3))));have g3:hid p H3 W=some (.lst (av [])):=dr3.same _ _ (D2.same _ _ (dr2.same _ _ (D1.same _ _ (dr1.same _ _ g0))));clear D1 D2 gL1 gL2 ev1 ev2 dr1 dr2 dr3;refine⟨_,rfl,(many:Int),rfl,by lia,by lia,?_⟩;rw[Ck];refine⟨fun i m σ H'=>m=many-i/\i<=many/\(∃a4 a5 a6 a7 a8,σ=[some (.ref p),some (.ref W),some (.int (many:Int)),some (.int most),a4,a5,a6,a7,a8])/\Dr p H H'/\∃ws,hid p H' W=some (.lst (av ws))/\ws.length=i/\∀cs∈ws,Gw cs,⟨_,rfl,Bo _,⟨_,_,_,_,_,rfl⟩,DD3,[],g3,rfl,fun cs h=>absurd h (by simp)⟩,fun i m σ H' z=>?_⟩;obtain⟨rfl,hi,⟨a4,a5,a6,a7,a8,rfl⟩,dr,ws,gW,lw,hw⟩:=z;by_cases hend:i=many
 ·subst hend;exact .inl ⟨AW _,_,rfl,q W ws H' dr nW gW ⟨by lia,by lia,fun cs h=>(hw cs h).lr,fun cs h=>(hw cs h).l1,fun cs h=>(hw cs h).l40⟩⟩
 have hlt:i<many:=by lia
 refine .inr ⟨hlt,fun σ' H''=>(∃a4 a5 a6 a7 a8,σ'=[some (.ref p),some (.ref W),some (.int (many:Int)),some (.int most),a4,a5,a6,a7,a8])/\Dr p H H''/\∃ws,hid p H'' W=some (.lst (av ws))/\ws.length=i+1/\∀cs∈ws,Gw cs,fun σ' H'' z=>⟨many-(i+1),by lia,rfl,hlt,z.1,z.2⟩,fun v H'' z=>?_⟩;obtain⟨rfl,ev⟩:=z;refine⟨_,rfl,_,rfl,p,most,rfl,ms1,by lia,dr.ds,fun word H1 dr1 lr1 eB lenm=>?_⟩;have gW1:=dr1.same _ _ gW;have lzl:∀n:Nat,n<=1000->n<=sizeLine:=fun n h=>ar (by lia);have lws:(av ws).length<sizeLine:=Bc (show _<1000000 by rw[AX];lia) (ar (AW _));have word80:word.length<=80:=by lia
 have ew:∀cs∈ws,PyData.strOk (txt cs)=true:=fun cs h=>uC (LRs.as (z:=txt cs) (hw cs h).lr);refine⟨_,rfl,Bo _,fun e1 ne1=>?_⟩;have S1:=af ne1 (.lst []);have gW2:hid p (upd H1 e1 (.lst [])) W=some (.lst (av ws)):=S1.hid _ _ gW1;have dr2:=dr1.trans (Dr.of_same dr1.ds S1);refine⟨.list ((rn ws).map PyData.str),.list [],.lst (SqL.of (aR p _ _ _ gW2)) (ef ws▸DatAll.strs _),.lst (SqL.of ae) .nil,FP _ (fun z h=>by obtain⟨cs,hcs,rfl⟩:=Bh.mp h;exact ew cs hcs),rfl,da _,!(rn ws).isEmpty,(by show V.bl (!PyData.eqv _ _)=_;rw[JC]),?_⟩;cases hE:(!(rn ws).isEmpty) with
 |false=>
  refine⟨_,rfl,.inl ⟨rfl,_,SqL.of (aR p _ _ _ (gW2))⟩,_,rfl,_,rfl,word,rfl,lzl _ (by have:=word80;lia),W,av ws,_,rfl,rfl,aR p _ _ _ (gW2),lws,⟨_,_,_,_,_,rfl⟩,Dr.put (dr.trans dr2) nW neW _,ws++[(Txt.slice word none (some 40)).cps.toList],?_,by rw[Ba,lw];rfl,fun cs h=>?_⟩
  ·rw[iS neW,dP]
  ·rcases Bb.mp h with h|h
   ·exact hw cs h
   ·rw[Bg.mp h];exact rG lr1 eB
 |true=>
  have l0:1<=ws.length:=by
   cases ws with
   |nil=>cases hE
   |cons _ _=>exact Ew (Bo _)
  have lwi:ws.length<=8:=by lia
  have el:(av ws).length=ws.length:=AX ..;refine⟨_,rfl,_,rfl,_,rfl,W,_,rfl,.inl (SqL.of (aR p _ _ _ gW2)),p,_,rfl,dr2.ds,by lia,by lia,fun k1 H3 b0 b1 dr3=>?_⟩;obtain⟨v3,ev3,mv3⟩:=je b0 b1;obtain⟨one,ho,rfl⟩:=Bh.mp mv3;have gW3:=dr3.same _ _ gW2;refine⟨W,_,k1,_,rfl,rfl,SqL.of (aR p _ _ _ gW3),ev3,?_⟩;refine⟨_,rfl,_,rfl,_,rfl,W,_,rfl,.inl (SqL.of (aR p _ _ _ gW3)),p,_,rfl,dr3.ds,by lia,by lia,fun k2 H4 c0 c1 dr4=>?_⟩;obtain⟨v4,ev4,mv4⟩:=je c0 c1;obtain⟨other,hoo,rfl⟩:=Bh.mp mv4;have gW4:=dr4.same _ _ gW3;refine⟨W,_,k2,_,rfl,rfl,SqL.of (aR p _ _ _ gW4),ev4,?_⟩;refine⟨_,rfl,p,8,rfl,dr4.ds,by decide,by decide,fun way H5 d0 d1 dr5=>?_⟩;have gW5:=dr5.same _ _ gW4;have dr25:=dr2.trans (dr3.trans (dr4.trans dr5));have o40:=(hw one ho).l40;have o1:=(hw one ho).l1;have oo40:=(hw other hoo).l40;have to:(txt one).length=one.length:=rfl;have too:(txt other).length=other.length:=rfl;refine⟨_,rfl,_,_,rfl,rfl,decide (way<4),rfl,?_⟩;cases hB:decide (way<4) with
  |false=>
   refine⟨_,rfl,.inl ⟨rfl,_,SqL.of (aR p _ _ _ (gW5))⟩,_,rfl,_,rfl,word,rfl,lzl _ (by have:=word80;lia),W,av ws,_,rfl,rfl,aR p _ _ _ (gW5),lws,⟨_,_,_,_,_,rfl⟩,Dr.put (dr.trans dr25) nW neW _,ws++[(Txt.slice word none (some 40)).cps.toList],?_,by rw[Ba,lw];rfl,fun cs h=>?_⟩
   ·rw[iS neW,dP]
   ·rcases Bb.mp h with h|h
    ·exact hw cs h
    ·rw[Bg.mp h];exact rG lr1 eB
  |true=>
   have hB':=Ef hB;refine⟨_,rfl,_,rfl,_,_,rfl,rfl,lzl _ (by lia),_,rfl,_,rfl,_,_,rfl,rfl,lzl _ (by lia),_,rfl,_,rfl,_,_,rfl,rfl,lzl _ (by lia),_,rfl,ar (by show 4<=1000000;decide),fun L5 nL5=>?_⟩;have S5:=af nL5 (.lst [.str (txt one++txt other),.str (txt one++word),.str (word++txt one),.str (txt one)]);have gW6:=S5.hid _ _ gW5;have dr26:=dr25.trans (Dr.of_same dr5.ds S5);obtain⟨v6,ev6,mv6⟩:=je (l:=[V.str (txt one++txt other),.str (txt one++word),.str (word++txt one),.str (txt one)]) d0 hB';obtain⟨z,rfl,lrz,l1z,l80z⟩:∃z:Str,v6=.str z/\LRs z/\1<=z.length/\z.length<=80:=by
    have lo:LRs (txt one):=(hw one ho).lr;have loo:LRs (txt other):=(hw other hoo).lr;have app:∀a b:Str,LRs a->LRs b->LRs (a++b):=fun a b ha hb c hc=>by
     rw[fZ] at hc;rcases Bb.mp hc with h|h
     ·exact ha c h
     ·exact hb c h
    simp only[Bl,BU,or_false] at mv6;rcases mv6 with rfl|rfl|rfl|rfl
    ·exact⟨_,rfl,app _ _ lo loo,by rw[bQ];lia,by rw[bQ];lia⟩
    ·exact⟨_,rfl,app _ _ lo lr1,by rw[bQ];lia,by rw[bQ];lia⟩
    ·exact⟨_,rfl,app _ _ lr1 lo,by rw[bQ];lia,by rw[bQ];lia⟩
    ·exact⟨_,rfl,lo,by lia,by lia⟩
   refine⟨_,rfl,L5,_,way,_,rfl,rfl,SqL.of ae,ev6,?_⟩;refine⟨_,rfl,.inl ⟨rfl,_,SqL.of (aR p _ _ _ (gW6))⟩,_,rfl,_,rfl,z,rfl,lzl _ (by have:=l80z;lia),W,av ws,_,rfl,rfl,aR p _ _ _ (gW6),lws,⟨_,_,_,_,_,rfl⟩,Dr.put (dr.trans dr26) nW neW _,ws++[(Txt.slice z none (some 40)).cps.toList],?_,by rw[Ba,lw];rfl,fun cs h=>?_⟩
   ·rw[iS neW,dP]
   ·rcases Bb.mp h with h|h
    ·exact hw cs h
    ·rw[Bg.mp h];exact rG lrz l1z
theorem ku{a b:Str}(ha:LRs a)(hb:LRs b):LRs (a++b):=fun c hc=>by
 rw[fZ] at hc;rcases Bb.mp hc with h|h
 ·exact ha c h
 ·exact hb c h
theorem dD{z:Str}(h:LRs z)(lo hi:Option Int):LRs (Txt.slice z lo hi):=fun c hc=>h c (cf hc)
def Kw:Sp:=fun vs H Q _=>∃p W ws most,vs=[.ref p,.ref W,.int ((most:Nat):Int)]/\Ds H p/\hid p H W=some (.lst (av ws))/\Wds ws/\1<=most/\most<=400/\∀x H',Dr p H H'->(∀c∈x,Fs c)->x.length<=most->Q (.str (txt x)) H'
theorem ug{dd dp d:DD}(wu:(dg "_law_draw" 59 ["draws","many"] dd 1 Gp))(wD:(dg "_law_piece" 60 ["draws","most"] dp 2 GC))(D:Def K mg "_law_target" (top 63) ["draws","words","most"] d)(wq:mg "range"=none)(wo:mg "len"=none):(fk 3 d ["draws","words","most"] Kw):=by
 exists["draws","words","most","text","k","more","way","at"]
 obtain⟨p,W,ws,most,rfl,hp,gW,hw,m1,m400,q⟩:=h;have lzl:∀n:Nat,n<=1000->n<=sizeLine:=fun n h=>ar (by lia);have fin:∀(z:Str)(H':Hp),Dr p H H'->LRs z->Q (.str (Txt.slice z none (some (most:Int)))) H':=fun z H' dr lz=>by
  have e:(Txt.slice z none (some (most:Int))).length=min most z.length:=cI z most;have:=q (Txt.slice z none (some (most:Int))).cps.toList H' dr (dD lz _ _) (by rw[<- cn,e];lia);rw[<- qf] at this;exact this
 have l0:=hw.n1;have l8:=hw.n8;have el:(av ws).length=ws.length:=AX ..;refine⟨_,(ah (aw 3 (Or.inl rfl) (aQ _)) (ah (dC (bF wq (aA (aU wu.1 wu.2 (EF (0) (aA (ag _) aL) ay)) cQ)) (au 4 nd (by walk_at "i")) (ah (aw 5 (Or.inl rfl) (aP EI (1) (aU wu.1 wu.2 (EF (0) (aA (ba EM wo (1) ay) cQ) ay)))) (aj (br (aG Iw (ba EL wo (aC Fb (3) (5)) (by rfl)) (2) (aI _)) (aj (aw 3 (Or.inl rfl) (aC Fb (3) (5)))) (EO _))))) (ah (aw 6 (Or.inl rfl) (aU wu.1 wu.2 (EF (0) (aA (ag _) aL) ay))) (ah (aw 7 (Or.inl rfl) (aU wu.1 wu.2 (EF (0) (aA (aC EU (ba EL wo (3) ay) (ag _)) (by rfl)) ay))) (ah (br (aG Fn (6) (ag _) (aI _)) (aj (aw 3 (Or.inl rfl) (aC Fb (aC Fb (aW Fj (3) (ET _) (bh (7))) (ff (aQ _) (aU wu.1 wu.2 (EF (0) (aA (ag _) aL) ay)))) (aW Fj (3) (bh (7)) (ET _))))) (EO _)) (ah (br (aG Fn (6) (ag _) (aI _)) (aj (aw 3 (Or.inl rfl) (aC Fb (aW Fj (3) (ET _) (bh (7))) (aW Fj (3) (bh (aC EU (7) (ag _))) (ET _))))) (EO _)) (ah (br (aG Fn (6) (ag _) (aI _)) (aj (aw 3 (Or.inl rfl) (aU wD.1 wD.2 (EF (0) (aA (2) ay) ay)))) (EO _)) (aj (aF (aW Fj (3) (ET _) (bh (2)))))))))))),?_⟩
 walk_at "d"
 refine⟨_,rfl,p,12,rfl,hp,by decide,by decide,fun r0 H0 a0 a1 dr0=>?_⟩;refine⟨r0,rfl,by lia,by lia,?_⟩;refine⟨fun i m σ H'=>m=r0.toNat-i/\i<=r0.toNat/\Dr p H H'/\∃(z:Str)(a4 a5 a6 a7:Option V),σ=[some (.ref p),some (.ref W),some (.int (most:Int)),some (.str z),a4,a5,a6,a7]/\LRs z/\z.length<=most,⟨_,rfl,Bo _,dr0,"",_,_,_,_,rfl,fun c hc=>absurd hc (by simp[show("":Str).cps.toList=[] from rfl]),Bo _⟩,fun i m σ H' z=>?_⟩;obtain⟨rfl,hi,dr,z,a4,a5,a6,a7,rfl,lz,zm⟩:=z;have gW1:=dr.same _ _ gW;by_cases hlt:i<r0.toNat
 ·refine .inr ⟨hlt,fun σ' H''=>Dr p H H''/\∃(z:Str)(a4 a5 a6 a7:Option V),σ'=[some (.ref p),some (.ref W),some (.int (most:Int)),some (.str z),a4,a5,a6,a7]/\LRs z/\z.length<=most,fun σ' H'' y=>⟨r0.toNat-(i+1),by lia,rfl,hlt,y.1,y.2⟩,fun v H'' y=>?_⟩;obtain⟨rfl,ev⟩:=y;refine⟨_,rfl,_,rfl,_,rfl,W,_,rfl,.inl (SqL.of (aR p _ _ _ gW1)),p,_,rfl,dr.ds,by lia,by lia,fun k1 H3 b0 b1 dr3=>?_⟩;obtain⟨v3,ev3,mv3⟩:=je b0 b1;obtain⟨more,ho,rfl⟩:=Bh.mp mv3;have gW3:=dr3.same _ _ gW1;have o40:=hw.l40 more ho;have tm:(txt more).length=more.length:=rfl;refine⟨W,_,k1,_,rfl,rfl,SqL.of (aR p _ _ _ gW3),ev3,?_⟩;refine⟨_,rfl,_,rfl,_,_,rfl,rfl,lzl _ (by lia),_,rfl,lzl _ (by rw[bQ];lia),_,rfl,_,_,rfl,rfl,decide ((((z++txt more).length:Nat):Int)<=(most:Int)),rfl,?_⟩;cases hB:decide ((((z++txt more).length:Nat):Int)<=(most:Int)) with
  |true=>
   refine⟨_,rfl,_,rfl,_,_,rfl,rfl,lzl _ (by lia),dr.trans dr3,z++txt more,_,_,_,_,rfl,ku lz (hw.lr more ho),?_⟩;have:=Ef hB;lia
  |false=>exact⟨dr.trans dr3,z,_,_,_,_,rfl,lz,zm⟩
 refine .inl ⟨by show r0.toNat<=i;lia,?_⟩;refine⟨_,rfl,p,5,rfl,dr.ds,by decide,by decide,fun way H1 w0 w1 dr1=>?_⟩;refine⟨_,rfl,_,rfl,z,rfl,lzl _ (by lia),_,_,rfl,rfl,p,_,rfl,dr1.ds,by lia,by lia,fun at' H2 b0 b1 dr2=>?_⟩;have DD:=dr.trans (dr1.trans dr2);have sl:∀lo hi,(Txt.slice z lo hi).length<=z.length:=fun lo hi=>Txt.slice_le z lo hi;have hway:way=0\/way=1\/way=2\/(way≠0/\way≠1/\way≠2):=by lia
 rcases hway with rfl|rfl|rfl|⟨n0,n1,n2⟩
 ·refine⟨_,rfl,rfl,true,rfl,?_⟩;refine⟨_,rfl,_,rfl,_,rfl,z,rfl,lzl _ (by lia),_,rfl,p,2,rfl,DD.ds,by decide,by decide,fun r H3 c0 c1 dr3=>?_⟩;obtain⟨c,ec,lc⟩:=sv c0 c1;have s1:=sl none (some at');have s2:=sl (some at') none;have o1:(⟨#[c]⟩:Str).length=1:=rfl;refine⟨_,r,c,rfl,rfl,c0,by lia,by rw[GY];lia,ec,_,_,rfl,rfl,lzl _ (by lia),_,rfl,_,rfl,_,rfl,z,rfl,lzl _ (by lia),_,_,rfl,rfl,lzl _ (by rw[bQ];lia),?_⟩;refine⟨_,rfl,rfl,false,rfl,?_⟩;refine⟨_,rfl,rfl,false,rfl,?_⟩;refine⟨_,rfl,_,rfl,_,rfl,_,rfl,lzl _ (by rw[bQ,bQ];lia),fin _ _ (DD.trans dr3) (ku (ku (dD lz _ _) fun x hx=>?_) (dD lz _ _))⟩;have e:x=c:=by simpa using hx
  rw[e];exact lc
 ·refine⟨_,rfl,rfl,false,rfl,?_⟩;refine⟨_,rfl,rfl,true,rfl,?_⟩;have s1:=sl none (some at');have s2:=sl (some (at'+1)) none;refine⟨_,rfl,_,rfl,_,rfl,z,rfl,lzl _ (by lia),_,rfl,_,rfl,_,_,rfl,rfl,_,rfl,z,rfl,lzl _ (by lia),_,_,rfl,rfl,lzl _ (by lia),?_⟩;refine⟨_,rfl,rfl,false,rfl,?_⟩;exact⟨_,rfl,_,rfl,_,rfl,_,rfl,lzl _ (by rw[bQ];lia),fin _ _ DD (ku (dD lz _ _) (dD lz _ _))⟩
 ·refine⟨_,rfl,rfl,false,rfl,?_⟩;refine⟨_,rfl,rfl,false,rfl,?_⟩;refine⟨_,rfl,rfl,true,rfl,?_⟩;refine⟨_,rfl,_,rfl,p,_,rfl,by lia,by lia,DD.ds,fun y H3 dr3 ly y1 ym=>?_⟩;exact⟨_,rfl,_,rfl,_,rfl,y,rfl,lzl _ (by lia),fin _ _ (DD.trans dr3) ly⟩
 ·refine⟨_,rfl,rfl,false,(by rw[cE];simpa using n0),?_⟩;refine⟨_,rfl,rfl,false,(by rw[cE];simpa using n1),?_⟩;refine⟨_,rfl,rfl,false,(by rw[cE];simpa using n2),?_⟩;exact⟨_,rfl,_,rfl,_,rfl,z,rfl,lzl _ (by lia),fin _ _ DD lz⟩
end
def Wn (ws:List (List Nat))(x:List Nat):Int:=(cN ws x x.length).getD x.length 0
def oth (ws:List (List Nat))(w:List Nat):List (List Nat):=ws.filter fun o=>decide (o≠w)
theorem IC{ws:List (List Nat)}{w o:List Nat}:o∈oth ws w↔o∈ws/\o≠w:=by
 unfold oth;rw[BY,decide_eq_true_iff]
theorem Wok.oth{ws:List (List Nat)}(W:Wok ws)(w:List Nat):Wok (oth ws w):=
 ⟨Bm (Cp _ _) W.n8,fun cs h=>W.l1 cs (IC.mp h).1,fun cs h=>W.l40 cs (IC.mp h).1⟩
def isN (ws:List (List Nat))(k:Nat):Bool:=!decide (ws.getD k []∈ws.take k)&&decide (Wn (oth ws (ws.getD k [])) (ws.getD k [])=0)
def nIx (ws:List (List Nat)):List Nat:=(List.range ws.length).filter (isN ws)
def nW (ws:List (List Nat)):List (List Nat):=(nIx ws).map fun k=>ws.getD k []
theorem jG{ws:List (List Nat)}{k:Nat}(h:k<ws.length):ws.getD k []=ws[k]:=by
 rw[BG,Bf h];rfl
theorem mf{ws:List (List Nat)}{k:Nat}(h:k∈nIx ws):k<ws.length:=CN.mp (BY.mp h).1
theorem jo(ws:List (List Nat)):(nIx ws).length<=ws.length:=by
 have:=Cp (isN ws) (List.range ws.length)
 rwa [List.length_range] at this
theorem qF(ws:List (List Nat)):(nW ws).length<=ws.length:=by
 unfold nW;rw[AX];exact jo ws
abbrev nvs(ns:List Nat):List V:=ns.map fun(n:Nat)=>V.int (n:Int)
section
variable {P:Program}{w:World}{K:PySem.W.Frag}{mg:Str->Option Value}{base:Heap}
theorem oq{ws:List (List Nat)}{i:Nat}{v:V}(h:(av ws)[i]?=some v):∃h':i<ws.length,v=.str (txt ws[i]):=by
 have hl:i<(av ws).length:=(Be.mp h).1;have hl':i<ws.length:=by rwa [AX] at hl
 refine⟨hl',?_⟩;rw[Br,Bf hl'] at h;exact(Eh h).symm
theorem fj{ws:List (List Nat)}{i:Nat}(h:i<ws.length):atI (av ws) ((i:Nat):Int)=some (.str (txt ws[i])):=by
 apply bD;rw[Br,Bf h];rfl
theorem gc{x y:List Nat}(h:txt x=txt y):x=y:=by
 have:(txt x).cps.toList=(txt y).cps.toList:=by rw[h]
 exact this
theorem ue(x y:List Nat):decide (V.str (txt x)=V.str (txt y))=decide (x=y):=
 decide_eq_decide.mpr ⟨fun h=>gc (by injection h),fun h=>by rw[h]⟩
theorem eS{α:Type}{ws:List α}{i:Nat}(h:i<ws.length):ws.take (i+1)=ws.take i++[ws[i]]:=by
 rw[Bz,Bf h];rfl
theorem mE(ws:List (List Nat))(i:Nat):qm (av ws) none (some ((i:Nat):Int))=av (ws.take i):=by
 unfold qm;rw[HT.FO,CL,CW];rw[HT.GF,AX];show List.take _ (List.map _ ws)=List.map _ (List.take _ ws);rw[List.map_take];by_cases h:i<=ws.length
 ·rw[BS h]
 ·rw[Dt (by lia),Bs (by rw[AX];lia),Bs (by rw[AX];lia)]
theorem oM(x:List Nat)(ws:List (List Nat)):inV (.str (txt x)) (av ws)=decide (x∈ws):=by
 unfold inV;rw[Eu,CM,decide_eq_true_iff];constructor
 ·rintro⟨v,hv,e⟩;obtain⟨y,hy,rfl⟩:=Bh.mp hv;have e':(txt y==txt x)=true:=e;rw[<- gc (eq_of_beq e')];exact hy
 ·intro h;exact⟨.str (txt x),Bh.mpr ⟨x,h,rfl⟩,by show(txt x==txt x)=true;exact beq_self_eq_true _⟩
def Lz:Sp:=fun vs H Q _=>∃l ws,∃i:Nat,vs=[.ref l,.int (i:Int)]/\H l=some (.lst (av ws))/\Wok ws/\i<ws.length/\∀H',EJ H H'->Q (.bl (isN ws i)) H'
theorem vp{dy d:DD}(wU:(dg "ways_to_places" 29 ["words","text"] dy 2 HH))(D:Def K mg "is_needed" (top 50) ["words","number"] d)(wo:mg "len"=none):(fk 3 d ["words","number"] Lz):=by
 exists["words","number","word","others"]
 obtain⟨l,ws,i,rfl,hl,hw,hi,q⟩:=h;refine⟨_,(ah (aw 2 (Or.inr rfl) (aP EI (0) (1))) (ah (cH 3 (aq (ts:=["other"]) (cap:=["word"]) (js:=[2]) rfl rfl rfl rfl rfl rfl (by decide +kernel)) (aZ (0)) (au 0 (nd ["other","word"]) (.inr rfl)) (@bY _ _ _ (aG JZ (0) (1) (aI _))) (0)) (aj (aF (fE (ck GV (2) (aW Ir (0) (ET _) (bh (1))) rfl) (iL (ck Fn (aP EI (aU wU.1 wU.2 (EF (3) (aA (2) ay) ay)) (ba EL wo (2) ay)) (ag _) (aI _)))))))),?_⟩
 walk_at "d"
 have n8:=hw.n8;have el:(av ws).length=ws.length:=AX ..;refine⟨_,rfl,_,rfl,l,_,_,_,rfl,rfl,SqL.of hl,fj hi,?_⟩;have gi:ws.getD i []=ws[i]:=jG hi;have hm:ws[i]∈ws:=BE hi;have h40:=hw.l40 _ hm;generalize ws[i]=x at gi hm h40;refine⟨_,rfl,l,rfl,⟨_,SqL.of hl⟩,?_⟩;refine cq (K:=K) (a:=l) (xs:=av ws) (fun k ys H2=>H2=H/\ys.length<=k/\ys=av (oth (ws.take k) x)) ⟨rfl,AW _,rfl⟩ (fun k ys H2 hk z=>z.2.1) (ar (by lia)) (fun k ys H2 hk z=>by rw[z.1];exact SqL.of hl) (fun k v ys H2 hv z=>?_) (fun ys H2 z p' hp'=>?_)
 ·obtain⟨rfl,z2,rfl⟩:=z;have hk:k<(av ws).length:=(Be.mp hv).1;obtain⟨hk',rfl⟩:=oq hv;have e1:oth (ws.take (k+1)) x=oth (ws.take k) x++(if decide (ws[k]≠x)=true then [ws[k]] else []):=by
   unfold oth;rw[eS hk',Cw,BQ];rfl
  refine⟨_,rfl,_,rfl,rfl,decide (ws[k]≠x),?_,?_⟩
  ·show V.bl (!decide (V.str (txt ws[k])=V.str (txt x)))=_;rw[ue,decide_not]
  cases hB:decide (ws[k]≠x) with
  |false=>
   show Nx (av ws).length k (fun k ys H2'=>H2'=H2/\ys.length<=k/\ys=av (oth (ws.take k) x)) _ _;refine Nx.mk hk ⟨rfl,by lia,?_⟩;rw[e1,hB,DY (by decide),BD]
  |true=>
   refine⟨_,rfl,Nx.mk hk ⟨rfl,by rw[Ba];exact Ew z2,?_⟩⟩;rw[e1,hB,DZ rfl];exact(Bk (f:=fun cs=>V.str (txt cs)) (l₁:=oth (ws.take k) x) (l₂:=[ws[k]])).symm
 obtain⟨rfl,z2,rfl⟩:=z;rw[el,Bs (AW _)];have S2:=af hp' (.lst (av (oth ws x)));have g2:upd H2 p' (.lst (av (oth ws x))) p'=some (.lst (av (oth ws x))):=ae;generalize upd H2 p' (.lst (av (oth ws x)))=H3 at S2 g2;have hl3:=S2 _ _ hl;refine⟨_,rfl,_,rfl,_,rfl,_,rfl,l,_,rfl,SqL.of hl3,fun p3 hp3=>?_⟩;rw[mE];have fl:(av (ws.take i)).all Ga=true:=by
  rw[BR];intro v hv;obtain⟨y,_,rfl⟩:=Bh.mp hv;rfl
 refine⟨p3,_,rfl,.inl (SqL.of ae),rfl,fl,!decide (x∈ws.take i),?_,?_⟩
 ·show V.bl (!inV (.str (txt x)) (av (ws.take i)))=_;rw[oM]
 have S3:=S2.trans (af hp3 (.lst (av (ws.take i))));have g3:=af hp3 (.lst (av (ws.take i))) _ _ g2;generalize upd H3 p3 (.lst (av (ws.take i)))=H4 at S3 g3;cases hB:!decide (x∈ws.take i) with
 |false=>
  have:=q H4 S3;unfold isN at this;rw[gi,hB] at this;exact this
 |true=>
  refine⟨_,rfl,_,rfl,p',oth ws x,x,rfl,g3,hw.oth x,by lia,fun p5 H5 S5 n5 g5=>?_⟩;refine⟨_,rfl,txt x,rfl,ar (by show x.length<=1000000;lia),p5,_,_,_,rfl,rfl,SqL.of g5,fW (j:=x.length) (by rw[cG];lia),rfl,?_⟩;have:=q H5 (S3.trans S5);unfold isN at this;rw[gi,hB] at this;have e:decide (V.int ((cN (oth ws x) x x.length).getD x.length 0)=V.int 0)=(true&&decide (Wn (oth ws x) x=0)):=by
   rw[Bool.true_and];exact decide_eq_decide.mpr ⟨fun h=>by injection h,fun h=>by show V.int (Wn (oth ws x) x)=_;rw[h]⟩
  rw[e];exact this
theorem FT:bootBuiltins "sorted"=some (.builtin "sorted"):=by decide +kernel
theorem iu(a:List (List Nat))(x:List Nat):av (a++[x])=av a++[.str (txt x)]:=Bk
theorem rD(a:List Nat)(x:Nat):nvs (a++[x])=nvs a++[.int (x:Int)]:=Bk
theorem um{cs:List Nat}(h:∀c∈cs,Fs c):PyData.strOk (txt cs)=true:=uC fun c hc=>by
 rcases h c hc with rfl|rfl<;>decide
theorem jL{zs:List Str}{ws:List (List Nat)}(p:zs.Perm (rn ws))(h:∀cs∈ws,∀c∈cs,Fs c):(PyData.list (zs.map PyData.str)).canLay0=true:=by
 show PyData.canLayAll0 _=true;apply FP;intro x hx;obtain⟨cs,hc,rfl⟩:=Bh.mp (p.mem_iff.mp hx);exact um (h cs hc)
def JA:Sp:=fun vs H Q _=>∃l ws,vs=[.ref l]/\H l=some (.lst (av ws))/\Wok ws/\∀p H',EJ H H'->H p=none->H' p=some (.lst (nvs (nIx ws)))->Q (.ref p) H'
theorem uH{dy d:DD}(D_in:(dg "is_needed" 50 ["words","number"] dy 3 Lz))(D:Def K mg "needed_of" (top 51) ["words"] d)(wq:mg "range"=none)(wo:mg "len"=none):(fk 4 d ["words"] JA):=by
 exists["words"]
 obtain⟨l,ws,rfl,hl,hw,q⟩:=h;have n8:=hw.n8;refine⟨_,(aj (aF (bo (aq (ts:=["number"]) (cap:=["words"]) (js:=[0]) rfl rfl rfl rfl rfl rfl (by decide +kernel)) (bF wq (aA (ba EM wo (0) ay) cQ)) (au 0 (nd ["number","words"]) (.inr rfl)) (@bY _ _ _ (cb (aU D_in.1 D_in.2 (EF (1) (aA (0) ay) ay)))) (0)))),?_⟩
 walk_at "d"
 have el:(av ws).length=ws.length:=AX ..;refine⟨_,rfl,l,_,rfl,.inl (SqL.of hl),_,rfl,by lia,by lia,?_⟩;rw[show(((av ws).length:Nat):Int).toNat=ws.length by rw[el,Ck]];refine rg (lo:=0) (n:=ws.length) (fun k zs H'=>EJ H H'/\zs.length<=k/\zs=nvs ((List.range k).filter (isN ws))) ⟨EJ.refl _,AW _,rfl⟩ (fun k zs H' hk z=>z.2.1) (ar (by lia)) (fun k zs H' hk z=>?_) (fun zs H' z p6 hp6=>?_)
 ·obtain⟨z1,z2,rfl⟩:=z;have e1:(List.range (k+1)).filter (isN ws)=(List.range k).filter (isN ws)++(if isN ws k=true then [k] else []):=by
   rw[Dl,Cw,BQ];rfl
  have ek:(0:Int)+(k:Int)=((k:Nat):Int):=by lia
  rw[ek];refine⟨_,rfl,_,rfl,l,ws,k,rfl,z1 _ _ hl,hw,hk,fun H2 S2=>⟨isN ws k,rfl,?_⟩⟩;cases hB:isN ws k with
  |false=>
   show Nx ws.length k (fun k zs H'=>EJ H H'/\zs.length<=k/\zs=nvs ((List.range k).filter (isN ws))) _ _;refine Nx.mk hk ⟨z1.trans S2,by lia,?_⟩;rw[e1,hB,DY (by decide),BD]
  |true=>
   refine⟨_,rfl,Nx.mk hk ⟨z1.trans S2,by rw[Ba];exact Ew z2,?_⟩⟩;rw[e1,hB,DZ rfl];exact(rD _ _).symm
 obtain⟨z1,z2,rfl⟩:=z;exact q p6 _ (z1.trans (af hp6 _)) (z1.free hp6) ae
open KM
theorem mU(x y:List Nat):Txt.startswith (txt x) (txt y)=decide (x.take y.length=y):=by
 unfold Txt.startswith;have hn:(txt x).length=x.length:=by show x.toArray.size=_;simp
 have hm:(txt y).length=y.length:=by show y.toArray.size=_;simp
 rw[StrLaws.subAt_eq,hm,hn];show(decide (0+y.length<=x.length)&&((x.drop 0).take y.length==y))=_;rw[CL];rw[Eu];simp only[BM,decide_eq_true_eq,ED];refine⟨fun h=>h.2,fun h=>⟨?_,h⟩⟩;have:=congrArg List.length h;rw[Bq] at this;lia
theorem cg(x y:List Nat):Txt.startswith (txt x) (txt y)=true↔∃z,x=y++z:=by
 rw[mU,decide_eq_true_eq];constructor
 ·intro h;exact⟨x.drop y.length,by have:=BK y.length x;rw[h] at this;exact this.symm⟩
 ·rintro⟨z,rfl⟩;exact List.take_left
theorem cJ(x:List Nat)(e:Nat):Txt.slice (txt x) (some (e:Int)) none=txt (x.drop e):=by
 apply eX;rw[cM];show qq x (some (e:Int)) none=x.drop e;unfold qq;rw[HT.GF,HT.FO];rcases Nat.le_total e x.length with h|h
 ·rw[BS h,Bs (by rw[BJ];exact AW _)]
 ·rw[Dt h,CK h,CK (AW _)];simp
theorem gr{ws:List (List Nat)}{i:Nat}(h:i<ws.length):(av ws)[i]?=some (.str (txt (ws.getD i []))):=by
 rw[Br,Bf h,BG,Bf h];rfl
theorem bj{ws:List (List Nat)}{i:Nat}(h:i<ws.length):ws.getD i []∈ws:=by
 rw[BG,Bf h];exact BE h
theorem bw{ws:List (List Nat)}{i:Nat}(h:i<ws.length):atI (av ws) ((i:Nat):Int)=some (.str (txt (ws.getD i []))):=bD (gr h)
theorem bp(ws:List (List Nat)):(av ws).length=ws.length:=AX _
abbrev iv(os:List Nat):List V:=(os.map fun n=>((n:Nat):Int)).map V.int
theorem fM(os:List Nat)(n:Nat):iv os++[V.int ((n:Nat):Int)]=iv (os++[n]):=by
 show _=((os++[n]).map _).map V.int;rw[Bk,Bk];rfl
theorem cR(os:List Nat):(iv os).length=os.length:=by rw[AX,AX]
def Lb:Sp:=fun vs H Q _=>∃l ws,vs=[.ref l]/\H l=some (.lst (av ws))/\Wds ws/\∀p us ps H',EJ H H'->H' p=some (.lst us)->Stp H' us ps->ps.length<=64->(∀i j,(i,j)∈ps↔i<ws.length/\j<ws.length/\i≠j/\∃z,ws.getD i []=ws.getD j []++z)->Q (.ref p) H'
theorem uQ{d:DD}(D:Def K mg "first_pairs" (top 37) ["words"] d)(wo:mg "len"=none)(wq:mg "range"=none):(fk 1 d ["words"] Lb):=by
 exists["words","many","pairs"]
 obtain⟨l,ws,rfl,hl,hw,q⟩:=h;have h8:=hw.n8;refine⟨_,(ah (aw 1 (Or.inr rfl) (ba EM wo (0) ay)) (ah (pC 2 (aq (ts:=["longer","shorter"]) (cap:=["many"]) (js:=[1]) rfl rfl rfl rfl rfl rfl (by decide +kernel)) (bF wq (aA (1) ay)) (au 0 (nd ["longer","shorter","many"]) (.inr rfl)) (@aX _) (bF wq (aA (2) ay)) (au 1 (nd ["longer","shorter","many"]) (.inr rfl)) (@bY _ _ _ (aG JZ (0) (1) (aI _))) (aO (EF (0) (aA (1) ay) ay)) (by intro _ _;rfl)) (aj (aF (bo (aq (ts:=["longer","shorter"]) (cap:=["words"]) (js:=[0]) rfl rfl rfl rfl rfl rfl (by decide +kernel)) (aZ (2)) (@bT _ _ _ _ _ 2 K rfl hc (aB (au 0 (nd ["longer","shorter","words"]) (.inr rfl)) (aB (au 1 (nd ["longer","shorter","words"]) (.inr rfl)) (EV _))) (by rfl) (by rfl)) (@bY _ _ _ (cb (gZ Ej PySem.F.slot_str_startswith PySem.F.type_str_startswith FV (aP (show IxR _ (fo K) from EI) (2) (0)) (aA (aP (show IxR _ (fo K) from EI) (2) (1)) (by rfl))))) (aO (EF (0) (aA (1) ay) ay))))))),?_⟩
 walk_at "d"
 refine⟨_,rfl,l,_,rfl,.inl (SqL.of hl),?_⟩;rw[bp];refine⟨_,rfl,((ws.length:Nat):Int),rfl,by lia,by lia,?_⟩;refine tN (lo:=0) (n:=(((ws.length:Nat):Int)).toNat) (fun i ys H'=>EJ H H'/\∃ps,Stp H' ys ps/\ps.length<=8*i/\∀a b,(a,b)∈ps↔a<i/\b<ws.length/\a≠b) ⟨EJ.refl _,[],.nil,AW _,fun a b=>⟨fun h=>absurd h (by simp),fun h=>absurd h.1 (DO _)⟩⟩ (fun i ys H' hi z=>by obtain⟨_,ps,h1,h2,_⟩:=z;rw[Paired.length h1];exact ar (by lia)) (fun i ys H' hi z=>?_) (fun ys H1 z p1 hp1=>?_)
 ·obtain⟨z1,ps,z2,z3,z4⟩:=z;have hi':i<ws.length:=by lia
  refine⟨_,rfl,((ws.length:Nat):Int),rfl,by lia,by lia,?_⟩;refine uF (lo:=0) (n:=(((ws.length:Nat):Int)).toNat) (fun j σ ys H'=>EJ H H'/\(∃e1,σ=[some (.int (0+(i:Int))),e1,some (.int ((ws.length:Nat):Int))])/\∃ps,Stp H' ys ps/\ps.length<=8*i+j/\∀a b,(a,b)∈ps↔(a<i/\b<ws.length/\a≠b)\/(a=i/\b<j/\a≠b)) ⟨z1,⟨_,rfl⟩,ps,z2,z3,fun a b=>by rw[z4];lia⟩ (fun j σ ys H' hj z=>by obtain⟨_,_,ps,h1,h2,_⟩:=z;rw[Paired.length h1];exact Cn (show _<=1000 by lia) (by decide)) (fun j σ ys H' hj z=>?_) (fun σ ys H' z=>?_)
  ·obtain⟨z1,⟨e1,rfl⟩,ps,z2,z3,z4⟩:=z;have hj':j<ws.length:=by lia
   refine⟨_,rfl,_,rfl,rfl,_,rfl,?_⟩;by_cases hij:i=j
   ·subst hij;refine Eq.mpr (DY (by simp)) ?_;exact NxV.mk hj ⟨z1,⟨_,rfl⟩,ps,z2,by lia,fun a b=>by rw[z4];lia⟩
   ·refine Eq.mpr (DZ (by simp;lia)) ?_;refine⟨_,rfl,_,rfl,ar (by show 2<=1000000;decide),fun a na=>?_⟩;have S1:=af na (.tup [.int (0+(i:Int)),.int (0+(j:Int))]);refine NxV.mk hj ⟨z1.trans S1,⟨_,rfl⟩,ps++[(i,j)],?_,by rw[Ba];show ps.length+1<=_;lia,fun x y=>?_⟩
    ·refine Paired.snoc (z2.mono S1) ⟨a,rfl,?_⟩;rw[ae,Int.zero_add,Int.zero_add]
    ·rw[Bb,z4,Bg,Prod.mk.injEq];lia
  ·obtain⟨z1,_,ps,z2,z3,z4⟩:=z;exact Nx.mk hi ⟨z1,ps,z2,by lia,fun a b=>by rw[z4];lia⟩
 obtain⟨z1,ps,z2,z3,z4⟩:=z;have S1:=af hp1 (.lst ys);have gp1:upd H1 p1 (.lst ys) p1=some (.lst ys):=ae;have hs1:=z2.mono S1;have SA:=z1.trans S1;have yl:=Paired.length hs1;generalize upd H1 p1 (.lst ys)=H2 at S1 gp1 hs1 SA;refine⟨_,rfl,p1,rfl,⟨_,SqL.of gp1⟩,?_⟩;refine cq (K:=K) (a:=p1) (xs:=ys) (fun k ys' H'=>EJ H2 H'/\ys'.length<=k/\Stp H' ys' ((ps.take k).filter fun s=>Txt.startswith (txt (ws.getD s.1 [])) (txt (ws.getD s.2 [])))) ⟨EJ.refl _,AW _,.nil⟩ (fun k ys' H' hk z=>z.2.1) (ar (by lia)) (fun k ys' H' hk z=>SqL.of (z.1 _ _ gp1)) (fun k v ys' H' hv z=>?_) (fun ys' H' z p hp=>?_)
 ·obtain⟨z1,z2',z3'⟩:=z;have hk:k<ys.length:=(Be.mp hv).1;obtain⟨⟨i,j⟩,a,es,rfl,ha⟩:=Stp.at hs1 hv;obtain⟨hi,hj,_⟩:=(z4 i j).mp (Bp es);have hi:i<ws.length:=by lia
  have et:ps.take (k+1)=ps.take k++[(i,j)]:=by rw[Bz,es];rfl
  have gl:=z1 _ _ (SA _ _ hl);refine⟨a,_,rfl,SqT.of (z1 _ _ ha),rfl,_,_,rfl,_,_,rfl,rfl,?_⟩;refine⟨_,rfl,_,rfl,l,_,_,_,rfl,rfl,SqL.of gl,bw hi,rfl,_,rfl,_,rfl,l,_,_,_,rfl,rfl,SqL.of gl,bw hj,_,_,rfl,rfl,_,rfl,?_⟩;cases hB:Txt.startswith (txt (ws.getD i [])) (txt (ws.getD j [])) with
  |false=>
   refine Nx.mk (i:=k) (n:=ys.length) (P:=fun k ys' H'=>EJ H2 H'/\ys'.length<=k/\Stp H' ys' ((ps.take k).filter fun s=>Txt.startswith (txt (ws.getD s.1 [])) (txt (ws.getD s.2 [])))) hk ?_;refine⟨z1,by lia,?_⟩;rw[et,Cw,BQ,hB];simpa using z3'
  |true=>
   refine⟨_,rfl,_,rfl,ar (by show 2<=1000000;decide),fun a2 na2=>Nx.mk hk ⟨z1.trans (af na2 _),by rw[Ba];exact Ew z2',?_⟩⟩;rw[et,Cw,BQ,hB];exact Paired.snoc (z3'.mono (af na2 _)) ⟨a2,rfl,ae⟩
 obtain⟨z1,z2',z3'⟩:=z;rw[yl,Bs (AW _)] at z3';refine q p ys' _ _ (SA.trans (z1.trans (af hp _))) ae (z3'.mono (af hp _)) (Bm (Cp _ _) (by lia)) fun i j=>?_;rw[BY,z4];show _/\Txt.startswith (txt (ws.getD i [])) (txt (ws.getD j []))=true↔_;rw[cg];constructor
 ·rintro⟨⟨h1,h2,h3⟩,h4⟩;exact⟨by lia,h2,h3,h4⟩
 ·rintro⟨h1,h2,h3,h4⟩;exact⟨⟨by lia,h2,h3⟩,h4⟩
def JM:Sp:=fun vs H Q _=>∃l ws x,vs=[.ref l,.str (txt x)]/\H l=some (.lst (av ws))/\Wds ws/\∀p is H',EJ H H'->H' p=some (.lst (iv is))->is.length<=8->(∀i,i∈is↔i<ws.length/\∃z,x=ws.getD i []++z)->Q (.ref p) H'
theorem tY{d:DD}(D:Def K mg "words_within" (top 39) ["words","text"] d)(wz:mg "enumerate"=none):(fk 1 d ["words","text"] JM):=by
 exists["words","text"]
 obtain⟨l,ws,x,rfl,hl,hw,q⟩:=h;have h8:=hw.n8;refine⟨_,(aj (aF (bo (aq (ts:=["number","word"]) (cap:=["text"]) (js:=[1]) rfl rfl rfl rfl rfl rfl (by decide +kernel)) (gJ wz (aA (0) ay)) (@bT _ _ _ _ _ 2 K rfl hc (aB (au 0 (nd ["number","word","text"]) (.inr rfl)) (aB (au 1 (nd ["number","word","text"]) (.inr rfl)) (EV _))) (by rfl) (by rfl)) (@bY _ _ _ (cb (gZ Ej PySem.F.slot_str_startswith PySem.F.type_str_startswith FV (2) (aA (1) ay)))) (0)))),?_⟩
 walk_at "d"
 refine⟨_,rfl,l,rfl,⟨_,SqL.of hl⟩,?_⟩;have el:=bp ws;refine oZ (K:=K) (a:=l) (xs:=av ws) (fun i ys H'=>EJ H H'/\∃is,ys=iv is/\is.length<=i/\∀a,a∈is↔a<i/\∃z,x=ws.getD a []++z) ⟨EJ.refl H,[],rfl,AW _,fun a=>⟨fun h=>absurd h (by simp),fun h=>absurd h.1 (DO _)⟩⟩ (fun i ys H' hi z=>by obtain⟨_,is,rfl,h,_⟩:=z;rw[cR];exact h) (ar (by lia)) (fun i ys H' hi z=>SqL.of (z.1 _ _ hl)) (fun i v ys H' p hx z hp=>?_) (fun ys H' z p hp=>?_)
 ·obtain⟨z1,is,rfl,z2,z3⟩:=z;have hi:i<(av ws).length:=(Be.mp hx).1;have hi':i<ws.length:=by lia
  rw[gr hi'] at hx;cases hx;have S1:=af hp (.tup [.int (i:Int),.str (txt (ws.getD i []))]);refine⟨p,_,rfl,SqT.of ae,rfl,_,_,rfl,_,_,rfl,rfl,?_⟩;refine⟨_,rfl,rfl,_,rfl,_,_,rfl,rfl,_,rfl,?_⟩;cases hB:Txt.startswith (txt x) (txt (ws.getD i [])) with
  |false=>
   refine Nx.mk (i:=i) (n:=(av ws).length) (P:=fun i ys H'=>EJ H H'/\∃is,ys=iv is/\is.length<=i/\∀a,a∈is↔a<i/\∃z,x=ws.getD a []++z) hi ?_;refine⟨z1.trans S1,is,rfl,by lia,fun a=>?_⟩;rw[z3];have hn:¬∃z,x=ws.getD i []++z:=fun h=>by rw[(cg _ _).mpr h] at hB;cases hB
   constructor
   ·rintro⟨h1,h2⟩;exact⟨by lia,h2⟩
   ·rintro⟨h1,h2⟩;by_cases e:a=i
    ·subst e;exact absurd h2 hn
    ·exact⟨by lia,h2⟩
  |true=>
   refine⟨_,rfl,Nx.mk hi ⟨z1.trans S1,is++[i],fM is i,by rw[Ba];exact Ew z2,fun a=>?_⟩⟩;have hn:=(cg _ _).mp hB;rw[Bb,z3,Bg];constructor
   ·rintro (⟨h1,h2⟩|rfl)
    ·exact⟨by lia,h2⟩
    ·exact⟨by lia,hn⟩
   ·rintro⟨h1,h2⟩;by_cases e:a=i
    ·exact .inr e
    ·exact .inl ⟨by lia,h2⟩
 ·obtain⟨z1,is,rfl,z2,z3⟩:=z;rw[el] at z2 z3;exact q p is _ (z1.trans (af hp _)) ae (by lia) z3
def JS:Sp:=fun vs H Q _=>∃l ws x,vs=[.ref l,.str (txt x)]/\H l=some (.lst (av ws))/\Wds ws/\∀p is H',EJ H H'->H' p=some (.lst (iv is))->is.length<=8->(∀i,i∈is↔i<ws.length/\∃z,ws.getD i []=x++z)->Q (.ref p) H'
theorem sC{d:DD}(D:Def K mg "words_beyond" (top 40) ["words","text"] d)(wz:mg "enumerate"=none):(fk 1 d ["words","text"] JS):=by
 exists["words","text"]
 obtain⟨l,ws,x,rfl,hl,hw,q⟩:=h;have h8:=hw.n8;refine⟨_,(aj (aF (bo (aq (ts:=["number","word"]) (cap:=["text"]) (js:=[1]) rfl rfl rfl rfl rfl rfl (by decide +kernel)) (gJ wz (aA (0) ay)) (@bT _ _ _ _ _ 2 K rfl hc (aB (au 0 (nd ["number","word","text"]) (.inr rfl)) (aB (au 1 (nd ["number","word","text"]) (.inr rfl)) (EV _))) (by rfl) (by rfl)) (@bY _ _ _ (cb (gZ Ej PySem.F.slot_str_startswith PySem.F.type_str_startswith FV (1) (aA (2) ay)))) (0)))),?_⟩
 walk_at "d"
 refine⟨_,rfl,l,rfl,⟨_,SqL.of hl⟩,?_⟩;have el:=bp ws;refine oZ (K:=K) (a:=l) (xs:=av ws) (fun i ys H'=>EJ H H'/\∃is,ys=iv is/\is.length<=i/\∀a,a∈is↔a<i/\∃z,ws.getD a []=x++z) ⟨EJ.refl H,[],rfl,AW _,fun a=>⟨fun h=>absurd h (by simp),fun h=>absurd h.1 (DO _)⟩⟩ (fun i ys H' hi z=>by obtain⟨_,is,rfl,h,_⟩:=z;rw[cR];exact h) (ar (by lia)) (fun i ys H' hi z=>SqL.of (z.1 _ _ hl)) (fun i v ys H' p hx z hp=>?_) (fun ys H' z p hp=>?_)
 ·obtain⟨z1,is,rfl,z2,z3⟩:=z;have hi:i<(av ws).length:=(Be.mp hx).1;have hi':i<ws.length:=by lia
  rw[gr hi'] at hx;cases hx;have S1:=af hp (.tup [.int (i:Int),.str (txt (ws.getD i []))]);refine⟨p,_,rfl,SqT.of ae,rfl,_,_,rfl,_,_,rfl,rfl,?_⟩;refine⟨_,rfl,rfl,_,rfl,_,_,rfl,rfl,_,rfl,?_⟩;cases hB:Txt.startswith (txt (ws.getD i [])) (txt x) with
  |false=>
   refine Nx.mk (i:=i) (n:=(av ws).length) (P:=fun i ys H'=>EJ H H'/\∃is,ys=iv is/\is.length<=i/\∀a,a∈is↔a<i/\∃z,ws.getD a []=x++z) hi ?_;refine⟨z1.trans S1,is,rfl,by lia,fun a=>?_⟩;rw[z3];have hn:¬∃z,ws.getD i []=x++z:=fun h=>by rw[(cg _ _).mpr h] at hB;cases hB
   constructor
   ·rintro⟨h1,h2⟩;exact⟨by lia,h2⟩
   ·rintro⟨h1,h2⟩;by_cases e:a=i
    ·subst e;exact absurd h2 hn
    ·exact⟨by lia,h2⟩
  |true=>
   refine⟨_,rfl,Nx.mk hi ⟨z1.trans S1,is++[i],fM is i,by rw[Ba];exact Ew z2,fun a=>?_⟩⟩;have hn:=(cg _ _).mp hB;rw[Bb,z3,Bg];constructor
   ·rintro (⟨h1,h2⟩|rfl)
    ·exact⟨by lia,h2⟩
    ·exact⟨by lia,hn⟩
   ·rintro⟨h1,h2⟩;by_cases e:a=i
    ·exact .inr e
    ·exact .inl ⟨by lia,h2⟩
 ·obtain⟨z1,is,rfl,z2,z3⟩:=z;rw[el] at z2 z3;exact q p is _ (z1.trans (af hp _)) ae (by lia) z3
open KM
def GH (H:Hp)(v:V)(f:Fd):Prop:=∃p la lb,v=.ref p/\H p=some (.tup [.int ((f.1:Nat):Int),.ref la,.ref lb])/\H la=some (.lst (iv f.2.1))/\H lb=some (.lst (iv f.2.2))
theorem GH.mono{H H':Hp}(S:EJ H H'){v:V}{f:Fd}(h:GH H v f):GH H' v f:=by
 obtain⟨p,la,lb,h1,h2,h3,h4⟩:=h;exact⟨p,la,lb,h1,S _ _ h2,S _ _ h3,S _ _ h4⟩
def KR (H:Hp)(v:V)(s:List Nat×Fd):Prop:=∃p u,v=.ref p/\H p=some (.tup [.str (txt s.1),u])/\GH H u s.2
abbrev SsL(H:Hp)(us:List V)(ss:List (List Nat×Fd)):Prop:=Paired (KR H) us ss
theorem KR.mono{H H':Hp}(S:EJ H H'){v:V}{s:List Nat×Fd}(h:KR H v s):KR H' v s:=by
 obtain⟨p,u,h1,h2,h3⟩:=h;exact⟨p,u,h1,S _ _ h2,h3.mono S⟩
theorem SsL.mono{H H':Hp}(S:EJ H H'){us:List V}{ss:List (List Nat×Fd)}(h:SsL H us ss):SsL H' us ss:=Paired.Gy h fun v s z=>z.mono S
theorem fL(ws:List (List Nat))(i:Nat):gQ ws [i]=ws.getD i []:=by rw[hV];exact BD _
theorem iy(ws:List (List Nat))(a:List Nat)(i:Nat):gQ ws (a++[i])=gQ ws a++ws.getD i []:=by
 unfold gQ;rw[Bk,List.flatten_append];show _++([ws.getD i []]).flatten=_;simp
theorem nQ{ws:List (List Nat)}{i j:Nat}{z:List Nat}(hi:i<ws.length)(hj:j<ws.length)(ne:i≠j)(e:ws.getD i []=ws.getD j []++z):Trk ws z ((ws.getD i []).length,[i],[j]):=
 ⟨fun k h=>by rw[Bg.mp h];exact hi,fun k h=>by rw[Bg.mp h];exact hj,⟨i,j,[],[],rfl,rfl,ne⟩,by show gQ ws [i]=gQ ws [j]++z;rw[fL,fL];exact e,by show _=(gQ ws [i]).length;rw[fL]⟩
def qk (ws:List (List Nat))(s:Nat×Nat):List Nat×Fd:=((ws.getD s.1 []).drop (ws.getD s.2 []).length,(ws.getD s.1 []).length,[s.1],[s.2])
def Lx:Sp:=fun vs H Q _=>∃l ws,vs=[.ref l]/\H l=some (.lst (av ws))/\Wds ws/\∀p us ss H',EJ H H'->H' p=some (.lst us)->SsL H' us ss->ss.length<=64->(∀s∈ss,Trk ws s.1 s.2/\Sfx ws s.1/\s.2.1<=40) ->
 (∀i j x,i<ws.length->j<ws.length->i≠j->ws.getD i []=ws.getD j []++x->∃s∈ss,s.1=x/\s.2.1=(ws.getD i []).length)->Q (.ref p) H'
theorem uZ{df d:DD}(D_fp:(dg "first_pairs" 37 ["words"] df 1 Lb))(D:Def K mg "first_steps" (top 45) ["words"] d)(wo:mg "len"=none):(fk 2 d ["words"] Lx):=by
 exists["words","pairs"]
 obtain⟨l,ws,rfl,hl,hw,q⟩:=h;have h8:=hw.n8;refine⟨_,(ah (aw 1 (Or.inl rfl) (bW D_fp.1 D_fp.2 (0) ay)) (aj (aF (bo (aq (ts:=["one","other"]) (cap:=["words"]) (js:=[0]) rfl rfl rfl rfl rfl rfl (by decide +kernel)) (aZ (1)) (@bT _ _ _ _ _ 2 K rfl hc (aB (au 0 (nd ["one","other","words"]) (.inr rfl)) (aB (au 1 (nd ["one","other","words"]) (.inr rfl)) (EV _))) (by rfl) (by rfl)) (@aX _) (aO (EF (aW Fj (aP (show IxR _ (fo K) from EI) (2) (0)) (bh (ba EL wo (aP (show IxR _ (fo K) from EI) (2) (1)) (by rfl))) (ET _)) (aA (aO (EF (ba EL wo (aP (show IxR _ (fo K) from EI) (2) (0)) (by rfl)) (EF (aV (aA (0) ay)) (aA (aV (aA (1) ay)) (by rfl)) (by rfl)) cQ)) (by rfl)) (by rfl))))))),?_⟩
 walk_at "d"
 refine⟨_,rfl,l,ws,rfl,hl,hw,fun p0 us0 ps H1 S1 g0 hs0 hl0 hp0=>?_⟩;have yl:=Paired.length hs0;refine⟨_,rfl,p0,rfl,⟨_,SqL.of g0⟩,?_⟩;refine cq (K:=K) (a:=p0) (xs:=us0) (fun k ys' H'=>EJ H1 H'/\ys'.length<=k/\SsL H' ys' ((ps.take k).map (qk ws))) ⟨EJ.refl _,AW _,.nil⟩ (fun k ys' H' hk z=>z.2.1) (ar (by lia)) (fun k ys' H' hk z=>SqL.of (z.1 _ _ g0)) (fun k v ys' H' hv z=>?_) (fun ys' H' z p hp=>?_)
 ·obtain⟨z1,z2,z3⟩:=z;have hk:k<us0.length:=(Be.mp hv).1;obtain⟨⟨i,j⟩,a,es,rfl,ha⟩:=Stp.at hs0 hv;obtain⟨hi,hj,_⟩:=(hp0 i j).mp (Bp es);have et:ps.take (k+1)=ps.take k++[(i,j)]:=by rw[Bz,es];rfl
  have gl:=z1 _ _ (S1 _ _ hl);have li:=hw.l40 _ (bj hi);have lj:=hw.l40 _ (bj hj);refine⟨a,_,rfl,SqT.of (z1 _ _ ha),rfl,_,_,rfl,_,_,rfl,rfl,?_⟩;refine⟨_,rfl,_,rfl,l,_,_,_,rfl,rfl,SqL.of gl,bw hi,_,rfl,_,rfl,l,_,_,_,rfl,rfl,SqL.of gl,bw hj,txt (ws.getD j []),rfl,ar (by show(ws.getD j []).length<=1000000;lia),_,rfl,txt (ws.getD i []),rfl,ar (by show(ws.getD i []).length<=1000000;lia),?_⟩;rw[show Txt.slice (txt (ws.getD i [])) (some (((txt (ws.getD j [])).length:Nat):Int)) none=txt ((ws.getD i []).drop (ws.getD j []).length) from cJ _ _];refine⟨_,rfl,_,rfl,l,_,_,_,rfl,rfl,SqL.of gl,bw hi,txt (ws.getD i []),rfl,ar (by show(ws.getD i []).length<=1000000;lia),?_⟩;refine⟨_,rfl,ar (by show 1<=1000000;decide),fun la nla=>⟨_,rfl,ar (by show 1<=1000000;decide),fun lb nlb=>⟨ar (by show 3<=1000000;decide),fun pf npf=>⟨ar (by show 2<=1000000;decide),fun pp npp=>?_⟩⟩⟩⟩;have S2:=af nla (.lst [.int (i:Int)]);have S3:=af nlb (.lst [.int (j:Int)]);have S4:=af npf (.tup [.int (((txt (ws.getD i [])).length:Nat):Int),.ref la,.ref lb]);have S5:=af npp (.tup [.str (txt ((ws.getD i []).drop (ws.getD j []).length)),.ref pf]);have SS:=S2.trans (S3.trans (S4.trans S5));refine Nx.mk hk ⟨z1.trans SS,by rw[Ba];exact Ew z2,?_⟩;rw[et,Bk];exact Paired.snoc (SsL.mono SS z3) ⟨pp,.ref pf,rfl,ae,pf,la,lb,rfl,S5 _ _ ae,S5 _ _ (S4 _ _ (S3 _ _ ae)),S5 _ _ (S4 _ _ ae)⟩
 obtain⟨z1,z2,z3⟩:=z;rw[yl,Bs (AW _)] at z3;refine q p ys' _ _ (S1.trans (z1.trans (af hp _))) ae (SsL.mono (af hp _) z3) (by rw[AX];exact hl0) (fun s hs=>?_) fun i j x hi hj ne e=>?_
 ·obtain⟨⟨i,j⟩,hm,rfl⟩:=Bh.mp hs;obtain⟨hi,hj,ne,z,e⟩:=(hp0 i j).mp hm;have ez:(ws.getD i []).drop (ws.getD j []).length=z:=by rw[e];exact Cy
  refine⟨?_,?_,hw.l40 _ (bj hi)⟩
  ·show Trk ws ((ws.getD i []).drop (ws.getD j []).length) _;rw[ez];exact nQ hi hj ne e
  ·exact⟨_,bj hi,ws.getD j [],by show _=_++(ws.getD i []).drop (ws.getD j []).length;rw[ez];exact e⟩
 ·refine⟨qk ws (i,j),Bh.mpr ⟨_,(hp0 i j).mpr ⟨hi,hj,ne,x,e⟩,rfl⟩,?_,rfl⟩;show(ws.getD i []).drop (ws.getD j []).length=x;rw[e];exact Cy
theorem ji{ws:List (List Nat)}(h1:∀cs∈ws,1<=cs.length):∀(t:List Nat),(∀i∈t,i<ws.length)->t.length<=(gQ ws t).length
 |[],_=>AW _
 |i::t,h=>by
  have a1:=ji h1 t fun j hj=>h j (By _ hj);have a2:=h1 _ (bj (h i Bj));rw[hV,Ba,BA];lia
theorem qU{ws:List (List Nat)}{x:List Nat}{f:Fd}(hw:Wds ws)(h:Trk ws x f):f.2.1.length<=f.1/\f.2.2.length<=f.1:=by
 have a1:=ji hw.l1 f.2.1 h.a;have a2:=ji hw.l1 f.2.2 h.b;have e:=congrArg List.length h.eq;rw[Ba] at e;have:=h.len;lia
theorem rR{ws:List (List Nat)}{x:List Nat}(hw:Wds ws)(h:Sfx ws x):x.length<=40:=by
 obtain⟨w,hm,z,e⟩:=h;have:=hw.l40 w hm;rw[e,Ba] at this;lia
theorem kW{ws:List (List Nat)}{x y:List Nat}{f:Fd}{n:Nat}(h:Trk ws x f)(hs:Sfx ws x)(hn:n<ws.length)(e:x=ws.getD n []++y):Trk ws y (f.1,f.2.1,f.2.2++[n])/\Sfx ws y:=by
 obtain⟨i,j,s,t,e1,e2,ne⟩:=h.ne;refine⟨⟨h.a,fun k hk=>?_,⟨i,j,s,t++[n],e1,?_,ne⟩,?_,h.len⟩,?_⟩
 ·rcases Bb.mp hk with hk|hk
  ·exact h.b k hk
  ·rw[Bg.mp hk];exact hn
 ·show f.2.2++[n]=_;rw[e2];rfl
 ·show gQ ws f.2.1=gQ ws (f.2.2++[n])++y;rw[iy,h.eq,e,BC]
 ·obtain⟨w,hm,z,ez⟩:=hs;exact⟨w,hm,z++ws.getD n [],by rw[ez,e,BC]⟩
theorem kK{ws:List (List Nat)}{x y:List Nat}{f:Fd}{n:Nat}(h:Trk ws x f)(hn:n<ws.length)(e:ws.getD n []=x++y):Trk ws y (f.1+y.length,f.2.2++[n],f.2.1)/\Sfx ws y:=by
 obtain⟨i,j,s,t,e1,e2,ne⟩:=h.ne;have eq:gQ ws (f.2.2++[n])=gQ ws f.2.1++y:=by rw[iy,h.eq,e,BC]
 refine⟨⟨fun k hk=>?_,h.a,⟨j,i,t++[n],s,?_,e1,Er ne⟩,eq,?_⟩,_,bj hn,x,e⟩
 ·rcases Bb.mp hk with hk|hk
  ·exact h.b k hk
  ·rw[Bg.mp hk];exact hn
 ·show f.2.2++[n]=_;rw[e2];rfl
 ·show f.1+y.length=(gQ ws (f.2.2++[n])).length;rw[eq,Ba,h.len]
def wiS (ws:List (List Nat))(x:List Nat)(n0:Nat)(a b:List Nat)(n:Nat):List Nat×Fd:=(x.drop (ws.getD n []).length,n0,a,b++[n])
def beS (ws:List (List Nat))(x:List Nat)(n0:Nat)(a b:List Nat)(n:Nat):List Nat×Fd:=((ws.getD n []).drop x.length,n0+((ws.getD n []).drop x.length).length,b++[n],a)
abbrev BeL(H:Hp)(us:List V)(bs:List (List Nat×Nat)):Prop:=Paired (fun v b=>∃p,v=.ref p/\H p=some (.tup [.str (txt (b:List Nat×Nat).1),.int ((b.2:Nat):Int)])) us bs
theorem BeL.mono{H H':Hp}(S:EJ H H'){us:List V}{bs:List (List Nat×Nat)}(h:BeL H us bs):BeL H' us bs:=Paired.Gy h fun v s hq118=>by obtain⟨p,e,g⟩:=hq118;exact⟨p,e,S _ _ g⟩
theorem dQ{α β:Type}{R:α->β->Prop}:∀{xs:List α}{ys:List β}{i:Nat}{x:α},Paired R xs ys->xs[i]?=some x->∃y,ys[i]?=some y/\R x y
 |_,_,_,_,.nil,h=>by cases h
 |_,_,0,x,.cons r _,h=>by cases h;exact⟨_,rfl,r⟩
 |_,_,i+1,x,.cons _ p,h=>dQ (i:=i) p h
theorem cc{α β:Type}{R:α->β->Prop}:∀{xs:List α}{ys:List β}{xs':List α}{ys':List β},Paired R xs ys->Paired R xs' ys'->Paired R (xs++xs') (ys++ys')
 |_,_,_,_,.nil,h=>h
 |_,_,_,_,.cons a r,h=>.cons a (cc r h)
theorem vt{H:Hp}{us:List V}{js:List Nat}{g:Nat->List Nat}{k:Nat}{v:V}(h:BeL H us (js.map fun n=>(g n,n)))(hv:us[k]?=some v):∃n,js[k]?=some n/\∃p,v=.ref p/\H p=some (.tup [.str (txt (g n)),.int ((n:Nat):Int)]):=by
 obtain⟨y,hy,p,e,hp⟩:=dQ h hv;rw[Br] at hy;obtain⟨n,hn,rfl⟩:=Ce.mp hy;exact⟨n,hn,p,e,hp⟩
theorem pJ{os:List Nat}{k:Nat}{v:V}(h:(iv os)[k]?=some v):∃n,os[k]?=some n/\v=.int ((n:Nat):Int):=by
 rw[Br,Br] at h;obtain⟨i,h1,rfl⟩:=Ce.mp h;obtain⟨n,h2,rfl⟩:=Ce.mp h1;exact⟨n,h2,rfl⟩
def LD:Sp:=fun vs H Q _=>∃l ws x v f,vs=[.ref l,.str (txt x),v]/\H l=some (.lst (av ws))/\Wds ws/\GH H v f/\Trk ws x f/\Sfx ws x/\f.1<=100000/\∀p us ss H',EJ H H'->H' p=some (.lst us)->SsL H' us ss->ss.length<=64->(∀s∈ss,Trk ws s.1 s.2/\Sfx ws s.1/\f.1<=s.2.1/\s.2.1<=f.1+40) ->
 (∀k y,k<ws.length->x=ws.getD k []++y->∃s∈ss,s.1=y/\s.2.1=f.1)->(∀k y,k<ws.length->ws.getD k []=x++y->∃s∈ss,s.1=y/\s.2.1=f.1+y.length)->Q (.ref p) H'
theorem vF{dw db d:DD}(yW:(dg "words_within" 39 ["words","text"] dw 1 JM))(yV:(dg "words_beyond" 40 ["words","text"] db 1 JS))(D:Def K mg "next_steps" (top 46) ["words","left","found"] d)(wo:mg "len"=none):(fk 2 d ["words","left","found"] LD):=by
 exists["words","left","found","length","ahead","behind","within","beyond"]
 obtain⟨l,ws,x,v,f,rfl,hl,hw,hf,ht,hsx,hfb,q⟩:=h;have h8:=hw.n8;refine⟨_,(ah (fK (2) (fq (aB (ad 3) (aB (ad 4) (aB (ad 5) (EV _)))))) (ah (cH 6 (aq (ts:=["number"]) (cap:=["words","left","length","ahead","behind"]) (js:=[0,1,3,4,5]) rfl rfl rfl rfl rfl rfl (by decide +kernel)) (aZ (aU yW.1 yW.2 (EF (0) (aA (1) ay) ay))) (au 0 (nd ["number","words","left","length","ahead","behind"]) (.inr rfl)) (@aX _) (aO (EF (aW Fj (2) (bh (ba EL wo (aP (show IxR _ (fo K) from EI) (1) (0)) (by rfl))) (ET _)) (aA (aO (EF (3) (EF (4) (aA (aC FG (5) (aV (aA (0) ay))) (by rfl)) ay) ay)) (by rfl)) (by rfl)))) (ah (cH 7 (aq (ts:=["number"]) (cap:=["words","left"]) (js:=[0,1]) rfl rfl rfl rfl rfl rfl (by decide +kernel)) (aZ (aU yV.1 yV.2 (EF (0) (aA (1) ay) ay))) (au 0 (nd ["number","words","left"]) (.inr rfl)) (@aX _) (aO (EF (aW Fj (aP (show IxR _ (fo K) from EI) (1) (0)) (bh (ba EL wo (2) ay)) (ET _)) (aA (0) ay) (by rfl)))) (aj (aF (aC FG (6) (bo (aq (ts:=["over","number"]) (cap:=["length","ahead","behind"]) (js:=[3,4,5]) rfl rfl rfl rfl rfl rfl (by decide +kernel)) (aZ (7)) (@bT _ _ _ _ _ 2 K rfl hc (aB (au 0 (nd ["over","number","length","ahead","behind"]) (.inr rfl)) (aB (au 1 (nd ["over","number","length","ahead","behind"]) (.inr rfl)) (EV _))) (by rfl) (by rfl)) (@aX _) (aO (EF (0) (aA (aO (EF (aC EU (2) (ba EL wo (0) ay)) (EF (aC FG (4) (aV (aA (1) ay))) (aA (3) ay) (by rfl)) (by rfl))) (by rfl)) ay))))))))),?_⟩
 walk_at "d"
 obtain⟨pf,la,lb,rfl,gf,ga,gb⟩:=hf;have hbl:=qU hw ht;have xl:x.length<=40:=rR hw hsx;obtain⟨n0,a,b⟩:=f;have hfb:n0<=100000:=hfb;have hbl:a.length<=n0/\b.length<=n0:=hbl;have ga:H la=some (.lst (iv a)):=ga;have gb:H lb=some (.lst (iv b)):=gb;refine⟨_,rfl,pf,_,rfl,SqT.of gf,rfl,_,_,rfl,_,_,rfl,_,_,rfl,rfl,?_⟩;refine⟨_,rfl,_,rfl,l,ws,x,rfl,hl,hw,fun p1 is H1 S1 g1 n1 hi1=>⟨p1,rfl,⟨_,SqL.of g1⟩,?_⟩⟩;refine cq (K:=K) (a:=p1) (xs:=iv is) (fun k ys' H'=>EJ H1 H'/\ys'.length<=k/\SsL H' ys' ((is.take k).map (wiS ws x n0 a b))) ⟨EJ.refl _,AW _,.nil⟩ (fun k ys' H' hk z=>z.2.1) (ar (by rw[cR];lia)) (fun k ys' H' hk z=>SqL.of (z.1 _ _ g1)) (fun k v ys' H' hv z=>?_) (fun ys2 H2 z p2 hp2=>?_)
 ·obtain⟨z1,z2,z3⟩:=z;have hk:k<(iv is).length:=(Be.mp hv).1;obtain⟨n,en,rfl⟩:=pJ hv;obtain⟨hn,y,ey⟩:=(hi1 n).mp (Bp en);have et:is.take (k+1)=is.take k++[n]:=by rw[Bz,en];rfl
  have gl:=z1 _ _ (S1 _ _ hl);have ln:=hw.l40 _ (bj hn);refine⟨_,rfl,_,rfl,_,rfl,l,_,_,_,rfl,rfl,SqL.of gl,bw hn,txt (ws.getD n []),rfl,ar (by show(ws.getD n []).length<=1000000;lia),_,rfl,txt x,rfl,ar (by show x.length<=1000000;lia),?_⟩;rw[show Txt.slice (txt x) (some (((txt (ws.getD n [])).length:Nat):Int)) none=txt (x.drop (ws.getD n []).length) from cJ _ _];refine⟨_,rfl,_,rfl,_,rfl,_,rfl,ar (by show 1<=1000000;decide),fun l1 nl1=>?_⟩;have S2:=af nl1 (.lst [.int (n:Int)]);refine⟨lb,l1,_,_,rfl,rfl,S2 _ _ (z1 _ _ (S1 _ _ gb)),ae,ar (by rw[cR];show b.length+1<=1000000;lia),fun l2 nl2=>⟨ar (by show 3<=1000000;decide),fun p3 np3=>⟨ar (by show 2<=1000000;decide),fun p4 np4=>?_⟩⟩⟩;rw[fM] at np3 np4 ⊢;have S3:=af nl2 (.lst (iv (b++[n])));have S4:=af np3 (.tup [.int ((n0:Nat):Int),.ref la,.ref l2]);have S5:=af np4 (.tup [.str (txt (x.drop (ws.getD n []).length)),.ref p3]);have SS:=S2.trans (S3.trans (S4.trans S5));refine Nx.mk hk ⟨z1.trans SS,by rw[Ba];exact Ew z2,?_⟩;rw[et,Bk];exact Paired.snoc (SsL.mono SS z3) ⟨p4,.ref p3,rfl,ae,p3,la,l2,rfl,S5 _ _ ae,SS _ _ (z1 _ _ (S1 _ _ ga)),S5 _ _ (S4 _ _ ae)⟩
 obtain⟨z1,z2,z3⟩:=z;rw[cR,Bs (AW _)] at z3;have S2:=af hp2 (.lst ys2);have g2:upd H2 p2 (.lst ys2) p2=some (.lst ys2):=ae;have hs2:=SsL.mono S2 z3;have SA:=S1.trans (z1.trans S2);generalize upd H2 p2 (.lst ys2)=H3 at g2 hs2 SA ⊢;clear z1 z2 z3 S2 hp2;refine⟨_,rfl,_,rfl,l,ws,x,rfl,SA _ _ hl,hw,fun q1 js H4 S4 gq nq hj1=>⟨q1,rfl,⟨_,SqL.of gq⟩,?_⟩⟩;refine cq (K:=K) (a:=q1) (xs:=iv js) (fun k ys' H'=>EJ H4 H'/\ys'.length<=k/\BeL H' ys' ((js.take k).map fun n=>((ws.getD n []).drop x.length,n))) ⟨EJ.refl _,AW _,.nil⟩ (fun k ys' H' hk z=>z.2.1) (ar (by rw[cR];lia)) (fun k ys' H' hk z=>SqL.of (z.1 _ _ gq)) (fun k v ys' H' hv z=>?_) (fun ys5 H5 z p5 hp5=>?_)
 ·obtain⟨z1,z2,z3⟩:=z;have hk:k<(iv js).length:=(Be.mp hv).1;obtain⟨n,en,rfl⟩:=pJ hv;obtain⟨hn,y,ey⟩:=(hj1 n).mp (Bp en);have et:js.take (k+1)=js.take k++[n]:=by rw[Bz,en];rfl
  have gl:=z1 _ _ (S4 _ _ (SA _ _ hl));have ln:=hw.l40 _ (bj hn);refine⟨_,rfl,_,rfl,l,_,_,_,rfl,rfl,SqL.of gl,bw hn,_,rfl,txt x,rfl,ar (by show x.length<=1000000;lia),_,rfl,txt (ws.getD n []),rfl,ar (by show(ws.getD n []).length<=1000000;lia),?_⟩;rw[show Txt.slice (txt (ws.getD n [])) (some (((txt x).length:Nat):Int)) none=txt ((ws.getD n []).drop x.length) from cJ _ _];refine⟨_,rfl,ar (by show 2<=1000000;decide),fun p4 np4=>?_⟩;have S5:=af np4 (.tup [.str (txt ((ws.getD n []).drop x.length)),.int (n:Int)]);refine Nx.mk hk ⟨z1.trans S5,by rw[Ba];exact Ew z2,?_⟩;rw[et,Bk];exact Paired.snoc (BeL.mono S5 z3) ⟨p4,rfl,ae⟩
 obtain⟨z1,z2,z3⟩:=z;rw[cR,Bs (AW _)] at z3;have S5:=af hp5 (.lst ys5);have g5:upd H5 p5 (.lst ys5) p5=some (.lst ys5):=ae;have hs5:=BeL.mono S5 z3;have SB:=S4.trans (z1.trans S5);generalize upd H5 p5 (.lst ys5)=H6 at g5 hs5 SB ⊢;clear z1 z2 z3 S5 hp5;have yl5:=Paired.length hs5;rw[AX] at yl5;refine⟨_,rfl,_,rfl,p5,rfl,⟨_,SqL.of g5⟩,?_⟩;refine cq (K:=K) (a:=p5) (xs:=ys5) (fun k ys' H'=>EJ H6 H'/\ys'.length<=k/\SsL H' ys' ((js.take k).map (beS ws x n0 a b))) ⟨EJ.refl _,AW _,.nil⟩ (fun k ys' H' hk z=>z.2.1) (ar (by lia)) (fun k ys' H' hk z=>SqL.of (z.1 _ _ g5)) (fun k v ys' H' hv z=>?_) (fun ys7 H7 z p7 hp7=>?_)
 ·obtain⟨z1,z2,z3⟩:=z;have hk:k<ys5.length:=(Be.mp hv).1;obtain⟨n,en,pe,rfl,hpe⟩:=vt hs5 hv;obtain⟨hn,y,ey⟩:=(hj1 n).mp (Bp en);have et:js.take (k+1)=js.take k++[n]:=by rw[Bz,en];rfl
  have ln:=hw.l40 _ (bj hn);have ld:((ws.getD n []).drop x.length).length<=40:=by rw[BJ];lia
  refine⟨pe,_,rfl,SqT.of (z1 _ _ hpe),rfl,_,_,rfl,_,_,rfl,rfl,?_⟩;refine⟨_,rfl,_,rfl,_,rfl,txt ((ws.getD n []).drop x.length),rfl,ar (by show((ws.getD n []).drop x.length).length<=1000000;lia),_,_,rfl,rfl,?_⟩;refine⟨_,rfl,_,rfl,ar (by show 1<=1000000;decide),fun l1 nl1=>?_⟩;have S2:=af nl1 (.lst [.int (n:Int)]);refine⟨lb,l1,_,_,rfl,rfl,S2 _ _ (z1 _ _ (SB _ _ (SA _ _ gb))),ae,ar (by rw[cR];show b.length+1<=1000000;lia),fun l2 nl2=>⟨_,rfl,ar (by show 3<=1000000;decide),fun p3 np3=>⟨ar (by show 2<=1000000;decide),fun p4 np4=>?_⟩⟩⟩;rw[fM] at np3 np4 ⊢;have S3:=af nl2 (.lst (iv (b++[n])));have S4:=af np3 (.tup [.int (((n0:Nat):Int)+(((txt ((ws.getD n []).drop x.length)).length:Nat):Int)),.ref l2,.ref la]);have S5:=af np4 (.tup [.str (txt ((ws.getD n []).drop x.length)),.ref p3]);have SS:=S2.trans (S3.trans (S4.trans S5));refine Nx.mk hk ⟨z1.trans SS,by rw[Ba];exact Ew z2,?_⟩;rw[et,Bk];exact Paired.snoc (SsL.mono SS z3) ⟨p4,.ref p3,rfl,ae,p3,l2,la,rfl,S5 _ _ ae,S5 _ _ (S4 _ _ ae),SS _ _ (z1 _ _ (SB _ _ (SA _ _ ga)))⟩
 obtain⟨z1,z2,z3⟩:=z;rw[yl5,Bs (AW _)] at z3;have S7:=af hp7 (.lst ys7);have hs7:=SsL.mono S7 z3;have hs2':=SsL.mono (SB.trans (z1.trans S7)) hs2;have l2:=Paired.length hs2;have l7:=Paired.length z3;rw[AX] at l2 l7;refine⟨p2,p7,_,_,rfl,rfl,S7 _ _ (z1 _ _ (SB _ _ g2)),ae,ar (by lia),fun p np=>?_⟩;have S8:=af np (.lst (ys2++ys7));refine q p _ _ _ (SA.trans (SB.trans (z1.trans (S7.trans S8)))) ae (SsL.mono S8 (cc hs2' hs7)) (by rw[Ba,AX,AX];lia) (fun s hs=>?_) (fun n y hn e=>?_) fun n y hn e=>?_
 ·rcases Bb.mp hs with hs|hs
  ·obtain⟨n,hm,rfl⟩:=Bh.mp hs;obtain⟨hn,y,e⟩:=(hi1 n).mp hm;have ez:x.drop (ws.getD n []).length=y:=by rw[e];exact Cy
   obtain⟨t1,t2⟩:=kW ht hsx hn e;have t1:Trk ws y (n0,a,b++[n]):=t1;refine⟨?_,?_,AW _,Du _ _⟩
   ·show Trk ws (x.drop (ws.getD n []).length) _;rw[ez];exact t1
   ·show Sfx ws (x.drop (ws.getD n []).length);rw[ez];exact t2
  ·obtain⟨n,hm,rfl⟩:=Bh.mp hs;obtain⟨hn,y,e⟩:=(hj1 n).mp hm;have ez:(ws.getD n []).drop x.length=y:=by rw[e];exact Cy
   obtain⟨t1,t2⟩:=kK ht hn e;have t1:Trk ws y (n0+y.length,b++[n],a):=t1;have ln:=hw.l40 _ (bj hn);have ly:y.length<=40:=by rw[e,Ba] at ln;lia
   refine⟨?_,?_,?_,?_⟩
   ·show Trk ws ((ws.getD n []).drop x.length) (n0+((ws.getD n []).drop x.length).length,_,_);rw[ez];exact t1
   ·show Sfx ws ((ws.getD n []).drop x.length);rw[ez];exact t2
   ·exact Du _ _
   ·show n0+((ws.getD n []).drop x.length).length<=n0+40;rw[ez];lia
 ·refine⟨wiS ws x n0 a b n,Bn _ (Bh.mpr ⟨n,(hi1 n).mpr ⟨hn,y,e⟩,rfl⟩),?_,rfl⟩;show x.drop (ws.getD n []).length=y;rw[e];exact Cy
 ·have ez:(ws.getD n []).drop x.length=y:=by rw[e];exact Cy
  refine⟨beS ws x n0 a b n,AY _ (Bh.mpr ⟨n,(hj1 n).mpr ⟨hn,y,e⟩,rfl⟩),ez,?_⟩;show n0+((ws.getD n []).drop x.length).length=n0+y.length;rw[ez]
open KM
abbrev Ff(H:Hp)(kvs:List (Key×V))(E:KM.Ent):Prop:=Paired (fun kv e=>(kv:Key×V).1=.inr (txt (e:List Nat×Fd).1)/\GH H kv.2 e.2) kvs E
theorem Ff.mono{H H':Hp}(S:EJ H H'){kvs:List (Key×V)}{E:KM.Ent}(h:Ff H kvs E):Ff H' kvs E:=Paired.Gy h fun kv e z=>⟨z.1,z.2.mono S⟩
theorem FD{x y:List Nat}:(Sum.inr (txt x):Key)=.inr (txt y)↔x=y:=⟨fun h=>gc (Sum.inr.inj h),fun h=>by rw[h]⟩
theorem jN{H:Hp}{x:List Nat}:∀{kvs:List (Key×V)}{E:KM.Ent},Ff H kvs E->gU E x=none->fV kvs (.inr (txt x))=none
 |_,_,.nil,_=>rfl
 |_,_,.cons (l₁:=kvs) (a:=kv) (b:=e) ⟨h1,h2⟩ r,h=>by
  have ne:e.1≠x:=ie h e Bj;rw[cK (by rw[h1];exact fun z=>ne (FD.mp z))];refine jN r ?_;unfold gU at h ⊢;rw[Cc,Eb ne] at h;exact h
theorem eI{H:Hp}{x:List Nat}{f:Fd}:∀{kvs:List (Key×V)}{E:KM.Ent},Ff H kvs E->gU E x=some f->∃v,fV kvs (.inr (txt x))=some v/\GH H v f
 |_,_,.nil,h=>by cases h
 |_,_,.cons (a:=kv) (b:=e) ⟨h1,h2⟩ r,h=>by
  by_cases ne:e.1=x
  ·rw[dM (by rw[h1,ne])];unfold gU at h;rw[Cc,Ea ne] at h;have:e.2=f:=Eh h;rw[<- this];exact⟨_,rfl,h2⟩
  ·rw[cK (by rw[h1];exact fun z=>ne (FD.mp z))];refine eI r ?_;unfold gU at h ⊢;rw[Cc,Eb ne] at h;exact h
theorem mG{H:Hp}{x:List Nat}:∀{kvs:List (Key×V)}{E:KM.Ent},Ff H kvs E->(kvs.any fun kv=>decide (kv.1=.inr (txt x)))=(E.any fun e=>decide (e.1=x))
 |_,_,.nil=>rfl
 |_,_,.cons ⟨h1,h2⟩ r=>by
  rw[CC,CC,mG r,h1]
  congr 1
  exact decide_eq_decide.mpr FD
theorem nk{H:Hp}{x:List Nat}{v:V}{f:Fd}(hv:GH H v f):∀{kvs:List (Key×V)}{E:KM.Ent},Ff H kvs E->Ff H (kvs.map fun kv=>if kv.1=.inr (txt x) then (kv.1,v) else kv) (E.map fun e=>if e.1=x then (e.1,f) else e)
 |_,_,.nil=>.nil
 |_,_,.cons (a:=kv) (b:=e) ⟨h1,h2⟩ r=>by
  refine .cons ?_ (nk hv r);show(if kv.1=.inr (txt x) then (kv.1,v) else kv).1=.inr (txt (if e.1=x then (e.1,f) else e).1)/\GH H (if kv.1=.inr (txt x) then (kv.1,v) else kv).2 (if e.1=x then (e.1,f) else e).2;by_cases c:e.1=x
  ·rw[DZ c,DZ (by rw[h1,c])];exact⟨h1,hv⟩
  ·rw[DY c,DY (by rw[h1];exact fun z=>c (FD.mp z))];exact⟨h1,h2⟩
theorem mJ{H:Hp}{x:List Nat}{v:V}{f:Fd}{kvs:List (Key×V)}{E:KM.Ent}(h:Ff H kvs E)(hv:GH H v f):Ff H (eD kvs (.inr (txt x)) v) (ki E x f):=by
 unfold eD ki;rw[mG h];split
 ·exact nk hv h
 ·exact cc h (.cons ⟨rfl,hv⟩ .nil)
theorem kg{H:Hp}{x:List Nat}:∀{kvs:List (Key×V)}{E:KM.Ent},Ff H kvs E->Ff H (cB kvs (.inr (txt x))) (dY E x)
 |_,_,.nil=>.nil
 |_,_,.cons (a:=kv) (b:=e) ⟨h1,h2⟩ r=>by
  have ih:=kg (x:=x) r;unfold cB dY at ih ⊢;rw[BQ,BQ];by_cases c:e.1=x
  ·rw[Eb (fun z=>z (by rw[h1,c])),Eb (fun z=>z c)];exact ih
  ·rw[Ea (show kv.1≠_ by rw[h1];exact fun z=>c (FD.mp z)),Ea c];exact .cons ⟨h1,h2⟩ ih
def dnK (dn:List (List Nat)):List (Key×V):=dn.map fun x=>(.inr (txt x),.bl true)
theorem iE(x:List Nat):∀dn:List (List Nat),(fV (dnK dn) (.inr (txt x))).isSome=decide (x∈dn)
 |[]=>by rfl
 |y::r=>by
  have ih:=iE x r;show(fV ((.inr (txt y),.bl true)::dnK r) (.inr (txt x))).isSome=_;by_cases c:y=x
  ·rw[dM (by rw[c]),c];simp
  ·rw[cK (fun z=>c (FD.mp z)),ih];refine decide_eq_decide.mpr ⟨fun z=>By _ z,fun z=>(Bl.mp z).elim (fun q=>absurd q.symm c) id⟩
theorem ny{x:List Nat}{dn:List (List Nat)}(h:x∉dn):eD (dnK dn) (.inr (txt x)) (.bl true)=dnK (dn++[x]):=by
 have e:((dnK dn).any fun kv=>decide (kv.1=.inr (txt x)))=false:=by
  rw[List.any_eq_false];intro kv hk;obtain⟨y,hy,rfl⟩:=Bh.mp hk;intro z;have:y=x:=FD.mp (Ef z);rw[this] at hy;exact h hy
 unfold eD;rw[e];show dnK dn++[_]=_;unfold dnK;rw[Bk];rfl
theorem GH.upd{H:Hp}{a:Addr}{kvs:List (Key×V)}{o:HO}(ha:H a=some (.dK kvs)){v:V}{f:Fd}(h:GH H v f):GH (L2.upd H a o) v f:=by
 obtain⟨p,la,lb,h1,h2,h3,h4⟩:=h;have n:∀b u,H b=some u->u≠.dK kvs->b≠a:=fun b u e ne z=>by rw[z,ha] at e;exact ne (Eh e).symm
 exact⟨p,la,lb,h1,by rw[ao (n _ _ h2 (fun z=>by cases z))];exact h2,by rw[ao (n _ _ h3 (fun z=>by cases z))];exact h3,by rw[ao (n _ _ h4 (fun z=>by cases z))];exact h4⟩
theorem SsL.upd{H:Hp}{a:Addr}{kvs:List (Key×V)}{o:HO}(ha:H a=some (.dK kvs)){us:List V}{ss:List (List Nat×Fd)}(h:SsL H us ss):SsL (L2.upd H a o) us ss:=Paired.Gy h fun v s ⟨p,u,h1,h2,h3⟩=>
 ⟨p,u,h1,by rw[ao (fun z=>by rw[z,ha] at h2;cases h2)];exact h2,h3.upd ha⟩
theorem Ff.upd{H:Hp}{a:Addr}{kvs0:List (Key×V)}{o:HO}(ha:H a=some (.dK kvs0)){kvs:List (Key×V)}{E:KM.Ent}(h:Ff H kvs E):Ff (L2.upd H a o) kvs E:=Paired.Gy h fun kv e z=>⟨z.1,z.2.upd ha⟩
theorem sO{H:Hp}{a:Addr}{o:HO}(h:H a=some o):L2.upd H a o=H:=by
 funext b
 by_cases e:b=a
 ·rw[e,ae,h]
 ·rw[ao e]
theorem ke{dn:List (List Nat)}:∀(ss:List (List Nat×Fd))(E:KM.Ent),(ss.foldl (bG dn) E).length<=E.length+ss.length
 |[],E=>AW _
 |s::r,E=>by
  have h1:=ke (dn:=dn) r (bG dn E s);have h2:(bG dn E s).length<=E.length+1:=by
   rcases bP dn E s with ⟨_,e⟩|⟨_,_,e⟩|⟨_,_,e⟩
   ·rw[e];lia
   ·rw[e];lia
   ·rw[e];unfold ki;split
    ·rw[AX];lia
    ·rw[Ba];exact AW _
  rw[CD,BA];lia
def LI:Sp:=fun vs H Q _=>∃a b l kvs E dn us ss,vs=[.ref a,.ref b,.ref l]/\H a=some (.dK kvs)/\Ff H kvs E/\a≠b/\H b=some (.dK (dnK dn))/\H l=some (.lst us)/\SsL H us ss/\E.length+ss.length<=1000 /\
 ∀kvs' H',H'=upd H a (.dK kvs')->Ff H' kvs' (ss.foldl (bG dn) E)->Q .non H'
theorem vK{d:DD}(D:Def K mg "keep_shorter" (top 47) ["waiting","done","steps"] d):(fk 1 d ["waiting","done","steps"] LI):=by
 exists["waiting","done","steps","left","found"]
 obtain⟨a,b,l,kvs,E',dn,us,ss,rfl,ha,hE,nab,hb,hl,hS,hz,q⟩:=h;refine⟨_,(aj (dC (aZ (2)) (fq (aB (au 3 nd (by walk_at "i")) (aB (au 4 nd (by walk_at "i")) (EV _)))) (aj (br (@PW.pt _ _ _ (qE (mR (fk (fm hr) (3) (1)) (by first|exact cj _ (by decide) (by decide)|rfl)) (mH (@PW.pt _ _ _ (kA (mR (fk (fm hr) (3) (0)) (by first|exact cj _ (by decide) (by decide)|rfl)) (ft (aG IM (aP FN (4) (ag _)) (aP FN (ju (fm hr) (0) (3)) (ag _)) (aI _)))))))) (aj (jf (fm hr) (0) (3) (4))) (EO _))))),?_⟩
 walk_at "d"
 have yl:=Paired.length hS;refine⟨_,rfl,l,rfl,⟨_,SqL.of hl⟩,?_⟩;have nla:l≠a:=bZ hl ha (fun z=>by cases z);refine jP (K:=K) (a:=l) (xs:=us) (fun i σ H'=>∃e3 e4 kvs',σ=[some (.ref a),some (.ref b),some (.ref l),e3,e4]/\H'=upd H a (.dK kvs')/\Ff H' kvs' ((ss.take i).foldl (bG dn) E')) ⟨_,_,kvs,rfl,(sO ha).symm,hE⟩ (fun i σ H' hi z=>?_) (fun i v σ H' hv z=>?_) (fun σ H' z=>?_)
 ·obtain⟨_,_,kvs',_,rfl,_⟩:=z;exact SqL.of (by rw[ao nla];exact hl)
 ·obtain⟨e3,e4,kvs',rfl,eH,hE'⟩:=z;have hi:i<us.length:=(Be.mp hv).1;obtain⟨s0,es,p,u,rfl,hp,hu⟩:=dQ (by rw[eH];exact SsL.upd ha hS:SsL H' us ss) hv;have ha':H' a=some (.dK kvs'):=by rw[eH];exact ae
  have hb':H' b=some (.dK (dnK dn)):=by rw[eH,ao (Er nab)];exact hb
  have et:(ss.take (i+1)).foldl (bG dn) E'=bG dn ((ss.take i).foldl (bG dn) E') s0:=by rw[Bz,es,List.foldl_append];rfl
  have few:kvs'.length<sizeLine:=by
   rw[Paired.length hE'];have:=ke (dn:=dn) (ss.take i) E';rw[Bq] at this;exact Cn (show _<=1000 by lia) (by decide)
  generalize (ss.take i).foldl (bG dn) E'=Ec at hE' et;refine⟨p,_,rfl,SqT.of hp,rfl,_,_,rfl,_,_,rfl,rfl,?_⟩;refine⟨_,rfl,_,rfl,b,_,rfl,Hh.k (k:=.inr (txt s0.1)) hb',_,rfl,?_⟩;rw[iE];by_cases hd:s0.1∈dn
  ·rw[Ea hd];refine⟨_,_,kvs',rfl,eH,?_⟩;rw[et];unfold bG;rw[DZ hd];exact hE'
  rw[Eb hd];refine⟨_,rfl,_,rfl,a,_,rfl,Hh.k (k:=.inr (txt s0.1)) ha',_,rfl,?_⟩;cases hg:gU Ec s0.1 with
  |none=>
   rw[jN hE' hg];refine⟨_,rfl,_,rfl,_,rfl,a,_,rfl,Jz.k (k:=.inr (txt s0.1)) ha' few,?_⟩;refine⟨_,_,_,rfl,by rw[eH,me],?_⟩;rw[et];unfold bG;rw[DY hd,hg];exact Ff.upd ha' (mJ hE' hu)
  |some f=>
   obtain⟨v',hv',hf⟩:=eI hE' hg;rw[hv'];obtain⟨p1,la1,lb1,eu,g1,_,_⟩:=id hu;obtain⟨p2,la2,lb2,ev,g2,_,_⟩:=id hf;have hv2:Hh H' a (.str (txt s0.1)) (some v'):=by rw[<- hv'];exact Hh.k (k:=.inr (txt s0.1)) ha'
   refine⟨_,rfl,p1,_,0,_,eu,rfl,SqT.of g1,rfl,_,rfl,_,rfl,a,v',rfl,hv2,p2,_,0,_,ev,rfl,SqT.of g2,rfl,_,_,rfl,rfl,decide (s0.2.1<f.1),?_,?_⟩
   ·show V.bl (decide (((s0.2.1:Nat):Int)<((f.1:Nat):Int)))=_
    congr 1
    exact decide_eq_decide.mpr ⟨fun h=>by lia,fun h=>by lia⟩
   by_cases hlt:s0.2.1<f.1
   ·rw[Ea hlt];refine⟨_,rfl,_,rfl,_,rfl,a,_,rfl,Jz.k (k:=.inr (txt s0.1)) ha' few,?_⟩;refine⟨_,_,_,rfl,by rw[eH,me],?_⟩;rw[et];unfold bG;rw[DY hd,hg];simp only[DZ hlt];exact Ff.upd ha' (mJ hE' hu)
   ·rw[Eb hlt];refine⟨_,_,kvs',rfl,eH,?_⟩;rw[et];unfold bG;rw[DY hd,hg];simp only[DY hlt];exact hE'
 ·obtain⟨e3,e4,kvs',rfl,eH,hE'⟩:=z;rw[yl,Bs (AW _)] at hE';exact q kvs' H' eH hE'
open KM
def GQ:Str:="twins_of.<locals>.<lambda>"
def GJ:Pos:=⟨156,32,156,61⟩
def wj (T:Addr):Sp:=fun vs H Q _=>∃l ws,vs=[.ref l]/\H l=some (.lst (av ws))/\Wds ws/\Fq GJ GQ T H/\(∀dn H',Dij ws dn []->SmB T H H'->Fq GJ GQ T H'->Q .non H') /\
 ∀p la lb a b dn E f H',Dij ws dn E->([],f)∈E->(∀e∈E,f.1<=e.2.1)->(f.2=(a,b)\/f.2=(b,a))->a.headD 0<b.headD 0->H' p=some (.tup [.ref la,.ref lb])->H' la=some (.lst (iv a))->H' lb=some (.lst (iv b))->SmB T H H'->Fq GJ GQ T H'->Q (.ref p) H'
theorem GH.smb{H H':Hp}{T:Addr}{ps:Array Value}(hT:H T=some (.tbl ps))(S:SmB T H H'){v:V}{f:Fd}(h:GH H v f):GH H' v f:=by
 obtain⟨p,la,lb,h1,h2,h3,h4⟩:=h;have n:∀b u,H b=some u->u≠.tbl ps->b≠T:=fun b u e ne z=>by rw[z,hT] at e;exact ne (Eh e).symm
 exact⟨p,la,lb,h1,S _ _ (n _ _ h2 (fun z=>by cases z)) h2,S _ _ (n _ _ h3 (fun z=>by cases z)) h3,S _ _ (n _ _ h4 (fun z=>by cases z)) h4⟩
theorem Ff.smb{H H':Hp}{T:Addr}{ps:Array Value}(hT:H T=some (.tbl ps))(S:SmB T H H'){kvs:List (Key×V)}{E:KM.Ent}(h:Ff H kvs E):Ff H' kvs E:=Paired.Gy h fun kv e z=>⟨z.1,z.2.smb hT S⟩
theorem Fq.upd{pos:Pos}{q:Str}{T a:Addr}{H:Hp}{kvs:List (Key×V)}{o:HO}(h:Fq pos q T H)(ha:H a=some (.dK kvs)):Fq pos q T (L2.upd H a o):=by
 obtain⟨ps,h1,h2,h3⟩:=h.ex;refine⟨ps,by rw[ao (fun z=>by rw[z,ha] at h1;cases h1)];exact h1,h2,?_⟩;rcases h3 with h3|⟨c,h3,h4⟩
 ·exact .inl h3
 ·exact .inr ⟨c,h3,by rw[ao (fun z=>by rw[z,ha] at h4;cases h4)];exact h4⟩
theorem cV{dn:List (List Nat)}:∀(ss:List (List Nat×Fd)){E:KM.Ent}{e:List Nat×Fd},e∈ss.foldl (bG dn) E->e∈E\/e∈ss
 |[],E,e,h=>.inl h
 |s::r,E,e,h=>by
  rw[CD] at h;rcases cV r h with h|h
  ·rcases bP dn E s with ⟨_,z⟩|⟨_,_,z⟩|⟨_,_,z⟩
   ·rw[z] at h;exact .inl h
   ·rw[z] at h;exact .inl h
   ·rw[z] at h;rcases eG h with h|⟨h,_⟩
    ·exact .inr (by rw[h];exact Bj)
    ·exact .inl h
  ·exact .inr (By _ h)
structure Tst(T:Addr)(ws:List (List Nat))(H0:Hp)(Da Wa:Addr)(dn:List (List Nat×Nat))(E:KM.Ent)(kvs:List (Key×V))(H:Hp):Prop where
 sm:SmB T H0 H
 gD:H Da=some (.dK (dnK (dn.map (·.1))))
 gW:H Wa=some (.dK kvs)
 nD:H0 Da=none
 nW:H0 Wa=none
 ne:Da≠Wa
 en:Ff H kvs E
 lt:Fq GJ GQ T H
 dj:Dij ws dn E
 bd:∀e∈E,e.2.1<=40*(dn.length+1)
theorem jI{H:Hp}:∀{kvs:List (Key×V)}{E:KM.Ent},Ff H kvs E->kvs.map (·.1)=(E.map fun e=>txt e.1).map Sum.inr
 |_,_,.nil=>rfl
 |_,_,.cons ⟨h1,_⟩ r=>by rw[Bv,Bv,Bv,jI r,h1]
def uL (E:KM.Ent)(k:Str):Int:=((gU E k.cps.toList).map fun f=>((f.1:Nat):Int)).getD 0
theorem iY{E:KM.Ent}(nd:(E.map (·.1)).Nodup){x:List Nat}{f:Fd}(h:(x,f)∈E):uL E (txt x)=((f.1:Nat):Int):=by
 unfold uL;rw[show(txt x).cps.toList=x from rfl,gg nd h];rfl
theorem Km:EG ["words","done","waiting","left","found","length","one","other"] ["words"] (ak (top 48)):=by walk_at "s"
theorem vA{dfs dks dns d:DD}{cd T:Addr}(LK:KW K mg cd T)(hcode:d.fd.code=.ref cd)(D_fs:(dg "first_steps" 45 ["words"] dfs 2 Lx))(D_ks:(dg "keep_shorter" 47 ["waiting","done","steps"] dks 1 LI))(D_ns:(dg "next_steps" 46 ["words","left","found"] dns 2 LD))(D:Def K mg "twins_of" (top 48) ["words"] d)(yB:mg "min"=none):(fk 4 d ["words"] (wj T)):=by
 refine D.fn.okC hcode Km (fun vs H Q E h=>?_) (fun A outer s H vs Q E hr h=>?_)
 ·obtain⟨l,ws,rfl,_⟩:=h;rfl
 obtain⟨l,ws,rfl,hl,hw,hT,qN,qS⟩:=h;have hc:=hr.calm;have nd:=Km.nd;have hdp:=Cn (Bm (Du _ _) (Du _ _)) hr.dp;have hu2:A.units+3+1+3+1<cLine:=by have:=hr.un;simp only[Around.deeper] at this;lia
 refine⟨_,(ah (aw 1 (Or.inl rfl) (@GB _ _)) (ah (aw 2 (Or.inr rfl) (@GB _ _)) (ah (bg (aU D_ks.1 D_ks.2 (EF (2) (EF (1) (aA (bW D_fs.1 D_fs.2 (0) ay) cQ) ay) ay))) (ah (gE (gj (2)) (ah (aw 3 (Or.inl rfl) (nH (cd) (T) (GQ) ("text") (["waiting"]) ([2]) LK (aq (ts:=["text"]) (cap:=["waiting"]) (js:=[2]) rfl rfl rfl rfl rfl rfl (by decide +kernel)) (fun _ _ _ _ _=>rfl) hdp (aP (show IxR _ (vV K) from FN) (ju hu2 (1) (0)) (ag _)) yB Hz (2))) (ah (aw 4 (Or.inl rfl) (@oR _ _ _ _ _ _ _ (2) (3) ⟨rfl,rfl,rfl,rfl⟩)) (ah (fK (4) (fq (aB (au 5 nd (by walk_at "i")) (aB (au 6 nd (by walk_at "i")) (aB (au 7 nd (by walk_at "i")) (EV _)))))) (ah (br (aG Fn (3) (aQ _) (aI _)) (aj (aF (jQ (aG IM (aP EI (6) (ag _)) (aP EI (7) (ag _)) (aI _)) (aO (EF (6) (aA (7) ay) ay)) (aO (EF (7) (aA (6) ay) ay))))) (EO _)) (ah (jf (fm hr) (1) (3) (iI _)) (aj (bg (aU D_ks.1 D_ks.2 (EF (2) (EF (1) (aA (aU D_ns.1 D_ns.2 (EF (0) (EF (3) (aA (4) ay) ay) ay)) cQ) ay) ay)))))))))) (aj (aF (fJ _))))))),?_⟩
 walk_at "d"
 have h8:=hw.n8;refine fun Da nDa Wa nWa=>?_;have nDa':H Da=none:=nDa;have neDW:Da≠Wa:=fun z=>by rw[<- z,ae] at nWa;cases nWa
 have nWa':H Wa=none:=by rw[ao (Er neDW)] at nWa;exact nWa
 have S1:EJ H (upd (upd H Da (.dK [])) Wa (.dK [])):=(af nDa _).trans (af nWa _);have gD1:upd (upd H Da (.dK [])) Wa (.dK []) Da=some (.dK []):=by rw[ao neDW];exact ae
 have gW1:upd (upd H Da (.dK [])) Wa (.dK []) Wa=some (.dK []):=ae;generalize upd (upd H Da (.dK [])) Wa (.dK [])=H1 at S1 gD1 gW1;refine⟨_,rfl,_,rfl,_,rfl,l,ws,rfl,S1 _ _ hl,hw,fun p1 us1 ss1 H2 S2 gp1 hss1 ls1 hs1 hf1=>?_⟩;refine⟨Wa,Da,p1,[],[],[],us1,ss1,rfl,S2 _ _ gW1,.nil,Er neDW,S2 _ _ gD1,gp1,hss1,by show 0+ss1.length<=1000;lia,fun kvs1 H3 eH3 hE3=>?_⟩;have gW2:=S2 _ _ gW1;have t0:Tst T ws H Da Wa [] (ss1.foldl (bG []) []) kvs1 H3:=by
  refine⟨fun b o nT e=>?_,?_,by rw[eH3];exact ae,nDa',nWa',neDW,hE3,?_,Dij.start (fun s hs=>⟨(hs1 s hs).1,(hs1 s hs).2.1⟩) hf1,fun e he=>?_⟩
  ·have:=S2 _ _ (S1 _ _ e);rw[eH3,ao (az e nWa')];exact this
  ·rw[eH3,ao neDW];exact S2 _ _ gD1
  ·rw[eH3];exact Fq.upd ((hT.same S1).same S2) gW2
  ·rcases cV _ he with he|he
   ·cases he
   ·have:=(hs1 e he).2.2;show _<=40*(0+1);lia
 clear hE3 hs1 hf1 hss1 gp1;refine⟨fun m σ H'=>∃(dn:List (List Nat×Nat))(E:KM.Ent)(kvs:List (Key×V))(e3 e4 e5 e6 e7:Option V),σ=[some (.ref l),some (.ref Da),some (.ref Wa),e3,e4,e5,e6,e7]/\Tst T ws H Da Wa dn E kvs H'/\m=1000-dn.length,⟨1000,[],_,kvs1,_,_,_,_,_,rfl,t0,rfl⟩,?_⟩;rintro m σ H4 ⟨dn,E',kvs,e3,e4,e5,e6,e7,rfl,t,rfl⟩;have gW:=t.gW;have lE:E'.length<=328:=by
  have:=jr h8 hw.l40 t.dj.wt.ndE (fun x hx=>by obtain⟨e,he,rfl⟩:=Bh.mp hx;exact(t.dj.wt.trk e he).2);rw[AX] at this;exact this
 have lD:dn.length<=328:=by
  have:=jr h8 hw.l40 t.dj.ndD (fun x hx=>by obtain⟨e,he,rfl⟩:=Bh.mp hx;exact(t.dj.nil e he).2);rw[AX] at this;exact this
 have lk:=Paired.length t.en;obtain⟨psT,gT,_⟩:=t.lt.ex;refine⟨_,rfl,!kvs.isEmpty,.inr (.inr ⟨kvs,gW,rfl⟩),?_⟩;cases hke:kvs.isEmpty with
 |true=>
  have ek:kvs=[]:=List.isEmpty_iff.mp hke;have eE:E'=[]:=by
   rw[ek] at lk;exact Cs.mp lk.symm
  have dj:=t.dj;rw[eE] at dj;exact qN dn H4 dj t.sm t.lt
 |false=>
  have hne:E'≠[]:=fun z=>by
   rw[z] at lk;rw[Cs.mp lk] at hke;cases hke
  refine⟨_,fun σ' H' z=>z,?_⟩;refine⟨_,rfl,t.lt,Wa,kvs,E'.map (fun e=>txt e.1),uL E',rfl,gW,jI t.en,(fun z=>hne (List.map_eq_nil_iff.mp z)),fun H5 o k0 S5 hk=>?_,fun k0 H5 hk hmin S5 L5=>?_⟩
  ·obtain⟨⟨x,f⟩,he,rfl⟩:=Bh.mp hk;obtain⟨v,hv,hf⟩:=eI t.en (gg t.dj.wt.ndE he);obtain⟨pf,la,lb,rfl,gf,_,_⟩:=hf.smb gT S5;have gW5:H5 Wa=some (.dK kvs):=S5 _ _ (bZ gW gT (fun z=>by cases z)) gW;have npf:pf≠Wa:=bZ gf gW5 (fun z=>by cases z);refine⟨_,rfl,_,rfl,Wa,_,rfl,.inl ⟨kvs,.inr (txt x),.inr ⟨o,ae⟩,rfl,hv.symm⟩,pf,_,0,_,rfl,rfl,SqT.of (by rw[ao npf];exact gf),rfl,?_,rfl⟩;show V.int ((f.1:Nat):Int)=V.int (uL E' (txt x));rw[iY t.dj.wt.ndE he]
  obtain⟨⟨x,f⟩,he,rfl⟩:=Bh.mp hk;have hmin':∀e∈E',f.1<=e.2.1:=fun e hm=>by
   have:=hmin (txt e.1) (Bh.mpr ⟨e,hm,rfl⟩);rw[iY t.dj.wt.ndE he,iY t.dj.wt.ndE hm] at this;lia
  have gW5:H5 Wa=some (.dK kvs):=S5 _ _ (bZ gW gT (fun z=>by cases z)) gW;have gD5:H5 Da=some (.dK (dnK (dn.map (·.1)))):=S5 _ _ (bZ t.gD gT (fun z=>by cases z)) t.gD;have en5:=t.en.smb gT S5;obtain⟨v,hv,hf⟩:=eI en5 (gg t.dj.wt.ndE he);obtain⟨htrk,hsfx⟩:=t.dj.wt.trk _ he;have hfb:=t.bd _ he;refine⟨_,rfl,Wa,rfl,.inl ⟨kvs,.inl gW5⟩,_,rfl,kvs,.inr (txt x),v,gW5,rfl,hv,?_⟩;have hf6:GH (upd H5 Wa (.dK (cB kvs (.inr (txt x))))) v f:=hf.upd gW5;have en6:Ff (upd H5 Wa (.dK (cB kvs (.inr (txt x))))) (cB kvs (.inr (txt x))) (dY E' x):=Ff.upd gW5 (kg en5);have gW6:upd H5 Wa (.dK (cB kvs (.inr (txt x)))) Wa=some (.dK (cB kvs (.inr (txt x)))):=ae;have gD6:upd H5 Wa (.dK (cB kvs (.inr (txt x)))) Da=some (.dK (dnK (dn.map (·.1)))):=by rw[ao neDW];exact gD5
  have L6:Fq GJ GQ T (upd H5 Wa (.dK (cB kvs (.inr (txt x))))):=Fq.upd L5 gW5;have sm6:SmB T H (upd H5 Wa (.dK (cB kvs (.inr (txt x))))):=fun b o nT e=>by
   rw[ao (az e nWa')];exact S5 b o nT (t.sm b o nT e)
  generalize upd H5 Wa (.dK (cB kvs (.inr (txt x))))=H6 at hf6 en6 gW6 gD6 L6 sm6;obtain⟨pf,la,lb,rfl,gf,ga,gb⟩:=id hf6;refine⟨_,rfl,pf,_,rfl,SqT.of gf,rfl,_,_,rfl,_,_,rfl,_,_,rfl,rfl,?_⟩;refine⟨_,rfl,rfl,decide (x=[]),?_,?_⟩
  ·show V.bl (decide (V.str (txt x)=V.str ""))=_
   congr 1
   refine decide_eq_decide.mpr ⟨fun z=>?_,fun z=>by rw[z];rfl⟩;have z1:txt x="":=by injection z
   have z2:(txt x).cps.toList=("":Str).cps.toList:=by rw[z1]
   exact z2
  by_cases hx:x=[]
  ·rw[Ea hx];subst hx;obtain⟨i,j,s1,s2,ea,eb,nij⟩:=htrk.ne;have aa:atI (iv f.2.1) 0=some (.int ((i:Nat):Int)):=by rw[ea];show atI (iv (i::s1)) ((0:Nat):Int)=_;exact bD rfl
   have ab:atI (iv f.2.2) 0=some (.int ((j:Nat):Int)):=by rw[eb];show atI (iv (j::s2)) ((0:Nat):Int)=_;exact bD rfl
   refine⟨_,rfl,la,_,0,_,rfl,rfl,SqL.of ga,aa,_,rfl,lb,_,0,_,rfl,rfl,SqL.of gb,ab,_,_,rfl,rfl,decide (i<j),?_,?_⟩
   ·show V.bl (decide (((i:Nat):Int)<((j:Nat):Int)))=_
    congr 1
    exact decide_eq_decide.mpr ⟨fun h=>by lia,fun h=>by lia⟩
   by_cases hij:i<j
   ·rw[Ea hij];refine⟨_,rfl,_,rfl,ar (by show 2<=1000000;decide),fun p np=>?_⟩;have S7:=af np (.tup [.ref la,.ref lb]);exact qS p la lb f.2.1 f.2.2 dn E' f _ t.dj he hmin' (.inl rfl) (by rw[ea,eb];exact hij) ae (S7 _ _ ga) (S7 _ _ gb) (sm6.trans (SmB.of S7)) (L6.same S7)
   ·rw[Eb hij];refine⟨_,rfl,_,rfl,ar (by show 2<=1000000;decide),fun p np=>?_⟩;have S7:=af np (.tup [.ref lb,.ref la]);exact qS p lb la f.2.2 f.2.1 dn E' f _ t.dj he hmin' (.inr rfl) (by rw[ea,eb];show j<i;lia) ae (S7 _ _ gb) (S7 _ _ ga) (sm6.trans (SmB.of S7)) (L6.same S7)
  ·rw[Eb hx];have nxd:x∉dn.map (·.1):=fun z=>by
    obtain⟨p,hp,e⟩:=Bh.mp z;exact t.dj.wt.dis _ he p hp e.symm
   refine⟨_,rfl,_,rfl,Da,_,rfl,Jz.k (k:=.inr (txt x)) gD6 (Cn (show _<=1000 by unfold dnK;rw[AX,AX];lia) (by decide)),?_⟩;rw[ny nxd];have gD7:upd H6 Da (.dK (dnK (dn.map (·.1)++[x]))) Da=some (.dK (dnK (dn.map (·.1)++[x]))):=ae;have gW7:upd H6 Da (.dK (dnK (dn.map (·.1)++[x]))) Wa=some (.dK (cB kvs (.inr (txt x)))):=by rw[ao (Er neDW)];exact gW6
   have hf7:GH (upd H6 Da (.dK (dnK (dn.map (·.1)++[x])))) (.ref pf) f:=hf6.upd gD6;have en7:Ff (upd H6 Da (.dK (dnK (dn.map (·.1)++[x])))) (cB kvs (.inr (txt x))) (dY E' x):=Ff.upd gD6 en6;have L7:Fq GJ GQ T (upd H6 Da (.dK (dnK (dn.map (·.1)++[x])))):=Fq.upd L6 gD6;have sm7:SmB T H (upd H6 Da (.dK (dnK (dn.map (·.1)++[x])))):=fun b o nT e=>by
    rw[ao (az e nDa')];exact sm6 b o nT e
   generalize upd H6 Da (.dK (dnK (dn.map (·.1)++[x])))=H7 at gD7 gW7 hf7 en7 L7 sm7;have hlT:l≠T:=by
    obtain⟨ps0,g0,_⟩:=hT.ex;exact bZ hl g0 (fun z=>by cases z)
   refine⟨_,rfl,_,rfl,_,rfl,_,rfl,_,rfl,l,ws,x,.ref pf,f,rfl,sm7 _ _ hlT hl,hw,hf7,htrk,hsfx,by show f.1<=100000;have:f.1<=40*(dn.length+1):=hfb;lia,fun p8 us8 ss8 H8 S8 gp8 hss8 ls8 h81 h82 h83=>?_⟩;have ldr:(dY E' x).length<=328:=Bm (Cp _ _) lE;refine⟨Wa,Da,p8,_,dY E' x,dn.map (·.1)++[x],us8,ss8,rfl,S8 _ _ gW7,en7.mono S8,Er neDW,S8 _ _ gD7,gp8,hss8,by lia,fun kvs9 H9 eH9 hE9=>?_⟩;refine⟨1000-(dn.length+1),by lia,dn++[(x,f.1)],ss8.foldl (bG (dn.map (·.1)++[x])) (dY E' x),kvs9,_,_,_,_,_,rfl,?_,by rw[Ba];rfl⟩;have gW8:=S8 _ _ gW7;refine⟨fun b o nT e=>?_,?_,by rw[eH9];exact ae,nDa',nWa',neDW,hE9,?_,Dij.step t.dj he hmin' hx (fun s hs=>⟨(h81 s hs).1,(h81 s hs).2.1,(h81 s hs).2.2.1⟩) h82 h83,fun e hem=>?_⟩
   ·rw[eH9,ao (az e nWa')];exact S8 _ _ (sm7 b o nT e)
   ·rw[eH9,ao neDW,Bk];exact S8 _ _ gD7
   ·rw[eH9];exact Fq.upd (L7.same S8) gW8
   ·rw[Ba];show e.2.1<=40*(dn.length+1+1);rcases cV _ hem with hm|hm
    ·have:=t.bd e (Fv.mp hm).1;lia
    ·have h1:=(h81 e hm).2.2.2;have:f.1<=40*(dn.length+1):=hfb;lia
open KM
theorem cu(zs:List (List Nat))(x:List Nat):av zs++[V.str (txt x)]=av (zs++[x]):=by
 show _=(zs++[x]).map _;rw[Bk];rfl
theorem ik(a b:List (List Nat)):av a++av b=av (a++b):=by
 show _=(a++b).map _;rw[Bk]
theorem dB{α:Type}{ps:List α}{k:Nat}{s:α}(es:ps[k]?=some s):ps.take (k+1)=ps.take k++[s]:=by rw[Bz,es];rfl
theorem cU(x:List Nat)(z:Str):Txt.slice (txt x) (some ((z.length:Nat):Int)) none=txt (x.drop z.length):=cJ _ _
theorem eQ{H H':Hp}(S:EJ H H'){p:Addr}(h:H' p=none):H p=none:=by
 cases e:H p with
 |none=>rfl
 |some o=>rw[S _ _ e] at h;cases h
theorem Fy{x y z:List Nat}:(∃u,x=y++u)/\z=x.drop y.length↔x=y++z:=by
 constructor
 ·rintro⟨⟨u,rfl⟩,rfl⟩;rw[Cy]
 ·rintro rfl;exact⟨⟨z,rfl⟩,by rw[Cy]⟩
def KZ:Sp:=fun vs H Q _=>∃l ws,vs=[.ref l]/\H l=some (.lst (av ws))/\Wds ws/\∀p zs H',EJ H H'->H p=none->H' p=some (.lst (av zs))->zs.length<=64->(∀z,z∈zs↔Fst ws z)->Q (.ref p) H'
theorem vH{df d:DD}(D_fp:(dg "first_pairs" 37 ["words"] df 1 Lb))(D:Def K mg "first_lefts" (top 38) ["words"] d)(wo:mg "len"=none):(fk 2 d ["words"] KZ):=by
 exists["words"]
 obtain⟨l,ws,rfl,hl,hw,q⟩:=h;refine⟨_,(aj (aF (bo (aq (ts:=["longer","shorter"]) (cap:=["words"]) (js:=[0]) rfl rfl rfl rfl rfl rfl (by decide +kernel)) (aZ (bW D_fp.1 D_fp.2 (0) ay)) (@bT _ _ _ _ _ 2 K rfl hc (aB (au 0 (nd ["longer","shorter","words"]) (.inr rfl)) (aB (au 1 (nd ["longer","shorter","words"]) (.inr rfl)) (EV _))) (by rfl) (by rfl)) (@aX _) (aW Fj (aP (show IxR _ (fo K) from EI) (2) (0)) (bh (ba EL wo (aP (show IxR _ (fo K) from EI) (2) (1)) (by rfl))) (ET _))))),?_⟩
 walk_at "d"
 refine⟨_,rfl,l,ws,rfl,hl,hw,fun p0 us0 ps H1 S1 g0 hs0 hl0 hp0=>⟨p0,rfl,⟨_,SqL.of g0⟩,?_⟩⟩;have yl:=Paired.length hs0;refine cq (K:=K) (a:=p0) (xs:=us0) (fun k ys' H'=>H'=H1/\ys'.length<=k/\ys'=av ((ps.take k).map fun s=>(ws.getD s.1 []).drop (ws.getD s.2 []).length)) ⟨rfl,AW _,rfl⟩ (fun k ys' H' hk z=>z.2.1) (ar (by lia)) (fun k ys' H' hk z=>by rw[z.1];exact SqL.of g0) (fun k v ys' H' hv z=>?_) (fun ys' H' z p hp=>?_)
 ·obtain⟨rfl,z2,rfl⟩:=z;have hk:k<us0.length:=(Be.mp hv).1;obtain⟨⟨i,j⟩,a,es,rfl,ha⟩:=Stp.at hs0 hv;obtain⟨hi,hj,_⟩:=(hp0 i j).mp (Bp es);have gl:=S1 _ _ hl;have li:=hw.l40 _ (bj hi);have lj:=hw.l40 _ (bj hj);refine⟨a,_,rfl,SqT.of ha,rfl,_,_,rfl,_,_,rfl,rfl,?_⟩;refine⟨_,rfl,_,rfl,l,_,_,_,rfl,rfl,SqL.of gl,bw hi,_,rfl,_,rfl,l,_,_,_,rfl,rfl,SqL.of gl,bw hj,txt (ws.getD j []),rfl,ar (by show(ws.getD j []).length<=1000000;lia),_,rfl,txt (ws.getD i []),rfl,ar (by show(ws.getD i []).length<=1000000;lia),?_⟩;rw[cU,show(txt (ws.getD j [])).length=(ws.getD j []).length from rfl];refine Nx.mk hk ⟨rfl,by rw[Ba];exact Ew z2,?_⟩;rw[cu,dB es,Bk];rfl
 ·obtain⟨rfl,z2,rfl⟩:=z;rw[yl,BX];refine q p _ _ (S1.trans (af hp _)) (eQ S1 hp) ae (by rw[AX];exact hl0) fun z=>?_;rw[Bh];constructor
  ·rintro⟨⟨i,j⟩,hs,e⟩;obtain⟨hi,hj,ne,h⟩:=(hp0 i j).mp hs;exact⟨i,j,hi,hj,ne,Fy.mp ⟨h,e.symm⟩⟩
  ·rintro⟨i,j,hi,hj,ne,e⟩;obtain⟨h,e'⟩:=Fy.mpr e;exact⟨(i,j),(hp0 i j).mpr ⟨hi,hj,ne,h⟩,e'.symm⟩
def Ln:Sp:=fun vs H Q _=>∃l ws x,vs=[.ref l,.str (txt x)]/\H l=some (.lst (av ws))/\Wds ws/\x.length<=1000/\∀p zs H',EJ H H'->H' p=some (.lst (av zs))->zs.length<=16->(∀z,z∈zs↔Nxt ws x z)->Q (.ref p) H'
theorem vM{df dg d:DD}(yW:(dg "words_within" 39 ["words","text"] df 1 JM))(yV:(dg "words_beyond" 40 ["words","text"] dg 1 JS))(D:Def K mg "next_lefts" (top 41) ["words","text"] d)(wo:mg "len"=none):(fk 2 d ["words","text"] Ln):=by
 exists["words","text","of_text"]
 obtain⟨l,ws,x,rfl,hl,hw,hx,q⟩:=h;refine⟨_,(ah (cH 2 (aq (ts:=["number"]) (cap:=["words","text"]) (js:=[0,1]) rfl rfl rfl rfl rfl rfl (by decide +kernel)) (aZ (aU yW.1 yW.2 (EF (0) (aA (1) ay) ay))) (au 0 (nd ["number","words","text"]) (.inr rfl)) (@aX _) (aW Fj (2) (bh (ba EL wo (aP (show IxR _ (fo K) from EI) (1) (0)) (by rfl))) (ET _))) (aj (aF (aC FG (2) (bo (aq (ts:=["number"]) (cap:=["words","text"]) (js:=[0,1]) rfl rfl rfl rfl rfl rfl (by decide +kernel)) (aZ (aU yV.1 yV.2 (EF (0) (aA (1) ay) ay))) (au 0 (nd ["number","words","text"]) (.inr rfl)) (@aX _) (aW Fj (aP (show IxR _ (fo K) from EI) (1) (0)) (bh (ba EL wo (2) ay)) (ET _))))))),?_⟩
 walk_at "d"
 refine⟨_,rfl,_,rfl,l,ws,x,rfl,hl,hw,fun p0 is H1 S1 g0 hl0 hp0=>⟨p0,rfl,⟨_,SqL.of g0⟩,?_⟩⟩;have el:=cR is;refine cq (K:=K) (a:=p0) (xs:=iv is) (fun k ys' H'=>H'=H1/\ys'.length<=k/\ys'=av ((is.take k).map fun i=>x.drop (ws.getD i []).length)) ⟨rfl,AW _,rfl⟩ (fun k ys' H' hk z=>z.2.1) (ar (by lia)) (fun k ys' H' hk z=>by rw[z.1];exact SqL.of g0) (fun k v ys' H' hv z=>?_) (fun ys' H' z p hp=>?_)
 ·obtain⟨rfl,z2,rfl⟩:=z;have hk:k<(iv is).length:=(Be.mp hv).1;obtain⟨i,ei,rfl⟩:=pJ hv;obtain⟨hi,_⟩:=(hp0 i).mp (Bp ei);have gl:=S1 _ _ hl;have li:=hw.l40 _ (bj hi);refine⟨_,rfl,_,rfl,_,rfl,l,_,_,_,rfl,rfl,SqL.of gl,bw hi,txt (ws.getD i []),rfl,ar (by show(ws.getD i []).length<=1000000;lia),_,rfl,txt x,rfl,ar (by show x.length<=1000000;lia),?_⟩;rw[cU,show(txt (ws.getD i [])).length=(ws.getD i []).length from rfl];refine Nx.mk hk ⟨rfl,by rw[Ba];exact Ew z2,?_⟩;rw[cu,dB ei,Bk];rfl
 obtain⟨rfl,z2,rfl⟩:=z;rw[el,BX];have S2:=af hp (.lst (av (is.map fun i=>x.drop (ws.getD i []).length)));have gA:upd H' p (.lst (av (is.map fun i=>x.drop (ws.getD i []).length))) p=some (.lst (av (is.map fun i=>x.drop (ws.getD i []).length))):=ae;have mA:∀z,z∈is.map (fun i=>x.drop (ws.getD i []).length)↔∃i,i<ws.length/\x=ws.getD i []++z:=fun z=>by
  rw[Bh];constructor
  ·rintro⟨i,hi,e⟩;obtain⟨hi,h⟩:=(hp0 i).mp hi;exact⟨i,hi,Fy.mp ⟨h,e.symm⟩⟩
  ·rintro⟨i,hi,e⟩;obtain⟨h,e'⟩:=Fy.mpr e;exact⟨i,(hp0 i).mpr ⟨hi,h⟩,e'.symm⟩
 have lA:(is.map fun i=>x.drop (ws.getD i []).length).length<=8:=by rw[AX];exact hl0
 generalize (is.map fun i=>x.drop (ws.getD i []).length)=as at S2 gA mA lA ⊢;generalize upd H' p (.lst (av as))=H2 at S2 gA ⊢;refine⟨_,rfl,_,rfl,_,rfl,l,ws,x,rfl,S2 _ _ (S1 _ _ hl),hw,fun p1 js H3 S3 g1 hl1 hp1=>⟨p1,rfl,⟨_,SqL.of g1⟩,?_⟩⟩;have el:=cR js;refine cq (K:=K) (a:=p1) (xs:=iv js) (fun k ys' H'=>H'=H3/\ys'.length<=k/\ys'=av ((js.take k).map fun i=>(ws.getD i []).drop x.length)) ⟨rfl,AW _,rfl⟩ (fun k ys' H' hk z=>z.2.1) (ar (by lia)) (fun k ys' H' hk z=>by rw[z.1];exact SqL.of g1) (fun k v ys' H' hv z=>?_) (fun ys' H' z p2 hp2=>?_)
 ·obtain⟨rfl,z2,rfl⟩:=z;have hk:k<(iv js).length:=(Be.mp hv).1;obtain⟨i,ei,rfl⟩:=pJ hv;obtain⟨hi,_⟩:=(hp1 i).mp (Bp ei);have gl:=S3 _ _ (S2 _ _ (S1 _ _ hl));have li:=hw.l40 _ (bj hi);refine⟨_,rfl,_,rfl,l,_,_,_,rfl,rfl,SqL.of gl,bw hi,_,rfl,txt x,rfl,ar (by show x.length<=1000000;lia),_,rfl,txt (ws.getD i []),rfl,ar (by show(ws.getD i []).length<=1000000;lia),?_⟩;rw[cU,show(txt x).length=x.length from rfl];refine Nx.mk hk ⟨rfl,by rw[Ba];exact Ew z2,?_⟩;rw[cu,dB ei,Bk];rfl
 obtain⟨rfl,z2,rfl⟩:=z;rw[el,BX];refine⟨p,p2,av as,_,rfl,rfl,?_,ae,ar (by rw[bp,bp,AX];lia),fun p3 np3=>?_⟩
 ·exact af hp2 _ _ _ (S3 _ _ gA)
 rw[ik];refine q p3 _ _ (S1.trans (S2.trans (S3.trans ((af hp2 _).trans (af np3 _))))) ae (by rw[Ba,AX];lia) fun z=>?_;rw[Bb,mA,Bh];constructor
 ·rintro (⟨i,hi,e⟩|⟨i,hi,e⟩)
  ·exact⟨i,hi,.inl e⟩
  ·obtain⟨hi,h⟩:=(hp1 i).mp hi;exact⟨i,hi,.inr (Fy.mp ⟨h,e.symm⟩)⟩
 ·rintro⟨i,hi,e|e⟩
  ·exact .inl ⟨i,hi,e⟩
  ·obtain⟨h,e'⟩:=Fy.mpr e;exact .inr ⟨i,(hp1 i).mpr ⟨hi,h⟩,e'.symm⟩
open KM
theorem pP{zs:List Str}{dn:List (List Nat)}(h:zs.Perm (dn.map txt)):∃os:List (List Nat),zs=os.map txt/\os.Perm dn:=by
 refine⟨zs.map fun z=>z.cps.toList,?_,?_⟩
 ·rw[Ct];exact(List.map_id' zs).symm
 ·have:=h.map fun z:Str=>z.cps.toList;rw[Ct] at this;have e:(dn.map ((fun z:Str=>z.cps.toList) ∘ txt))=dn:=by
   refine(Dk (g:=id) fun x _=>?_).trans (List.map_id _);rfl
  rwa [e] at this
theorem rN(os:List (List Nat)):(os.map txt).map V.str=av os:=by rw[Ct];rfl
theorem oj(dn:List (List Nat)):(dnK dn).map (·.1)=(dn.map txt).map fun z=>(Sum.inr z:Key):=by
 unfold dnK;rw[Ct,Ct];rfl
theorem oz(wt:List (List Nat))(x:List Nat):(av (wt++[x]))[(av (wt++[x])).length-1]?=some (.str (txt x))/\(av (wt++[x])).dropLast=av wt:=by
 rw[<- cu];refine⟨?_,List.dropLast_concat⟩;rw[Ba];show(av wt++[_])[(av wt).length]?=_;rw[BV (AW _)];simp
open KM
def lrb (c:Nat):Bool:=c==108||c==114
theorem vg(c:Nat):("lr":Str).cps.contains c=lrb c:=by
 show(#[108,114]:Array Nat).contains c=_;unfold lrb;simp;rfl
theorem rd{p:Nat->Bool}{c:Nat}(hc:p c=false)(l:List Nat):((l++[c]).takeWhile p).length<=l.length:=by
 induction l with
 |nil=>rw[CQ,Dv,hc];exact AW _
 |cons a l ih=>
  rw[List.cons_append,Dv];cases p a with
  |false=>exact Bo _
  |true=>exact Ew ih
theorem qc{p:Nat->Bool}:∀(l:List Nat),l.all p=true->l.takeWhile p=l
 |[],_=>rfl
 |a::l,h=>by
  rw[Df,BM] at h;rw[Dv,h.1,DZ rfl,qc l h.2]
theorem mL{p:Nat->Bool}:∀(l:List Nat),l.all p=false->∃c r,l.drop (l.takeWhile p).length=c::r/\p c=false
 |[],h=>by cases h
 |a::l,h=>by
  rw[Df] at h;rw[Dv];cases hp:p a with
  |false=>exact⟨a,l,rfl,hp⟩
  |true=>
   rw[hp,Bool.true_and] at h;exact mL l h
theorem pS(cs:List Nat):decide (V.str (Txt.stripChars (txt cs) "lr")=V.str "")=cs.all lrb:=by
 have hg:(fun c=>("lr":Str).cps.contains c)=lrb:=funext vg;unfold Txt.stripChars Txt.stripBy;rw[show("lr":Str).cps.contains=lrb from hg];have hL:(txt cs).cps.toList=cs:=rfl;have hn:(txt cs).length=cs.length:=by show cs.toArray.size=_;simp
 have lo:stripLo lrb true (txt cs)=(cs.takeWhile lrb).length:=rfl;have hi:stripHi lrb true (txt cs) (cs.takeWhile lrb).length=cs.length-((cs.drop (cs.takeWhile lrb).length).reverse.takeWhile lrb).length:=by
  unfold stripHi;rw[DZ rfl,hn];rfl
 unfold stripSame stripped;rw[lo,hi,hn];cases h:cs.all lrb with
 |true=>
  have tw:cs.takeWhile lrb=cs:=by
   exact qc cs h
  rw[tw,List.drop_length];refine Ea (congrArg V.str ?_);split
  ·rename_i z;rw[BM,ED] at z;have:cs=[]:=Cs.mp z.1;subst this;rfl
  ·apply eX;show((txt cs).cps.extract cs.length (cs.length-0)).toList=[]
   rw[CW];simp
 |false=>
  obtain⟨c,r,e,hc⟩:=mL cs h;have hlen:=congrArg List.length e;rw[BJ,BA] at hlen;have tl:((cs.drop (cs.takeWhile lrb).length).reverse.takeWhile lrb).length<=r.length:=by
   rw[e,List.reverse_cons];have:=rd hc r.reverse;rw[List.length_reverse] at this;exact this
  refine Eb fun z=>?_;injection z with z;have z2:=congrArg (fun s=>s.cps.toList.length) z
  revert z2
  split
  ·show cs.toArray.toList.length=0->False;intro z2;have:cs.length=0:=by simpa using z2
   lia
  ·show((txt cs).cps.extract _ _).toList.length=0->False;intro z2;have:min (cs.length-((cs.drop (cs.takeWhile lrb).length).reverse.takeWhile lrb).length) cs.length-(cs.takeWhile lrb).length=0:=by
    have hs:(txt cs).cps.size=cs.length:=hn;rw[Bu,DJ,hs] at z2;exact z2
   lia
theorem rK(x:List Nat):x.all lrb=true↔∀c∈x,c=108\/c=114:=by
 rw[BR];refine forall_congr' fun c=>forall_congr' fun _=>?_;unfold lrb;rw[Bool.or_eq_true,ED,ED]
theorem lZ(xs:List (List Nat))(f:List Nat->Bool):((xs.map f).all id=true)↔∀x∈xs,f x=true:=by
 rw[List.all_map,BR];rfl
theorem eR{ws:List (List Nat)}{i:Nat}{v:V}(h:(av ws)[i]?=some v):∃x,ws[i]?=some x/\v=.str (txt x):=by
 rw[Br] at h;obtain⟨x,e,rfl⟩:=Ce.mp h;exact⟨x,e,rfl⟩
theorem gK{ps:List (List Nat)}{i:Nat}{x:List Nat}(f:List Nat->Bool)(ex:ps[i]?=some x):((ps.take i).map f).map V.bl++[V.bl (f x)]=((ps.take (i+1)).map f).map V.bl:=by
 rw[dB ex,Bk,Bk];rfl
theorem ph(bs:List Bool)(b:Bool):bs.map V.bl++[V.bl b]=(bs++[b]).map V.bl:=by rw[Bk];rfl
def Lv:Sp:=fun vs H Q _=>∃l ps,vs=[.ref l]/\H l=some (.lst (av ps))/\ps.length<=2000/\(∀x∈ps,x.length<=1000)/\∀b H',EJ H H'->(b=true↔∀x∈ps,∀c∈x,c=108\/c=114)->Q (.bl b) H'
theorem vd{d:DD}(D:Def K mg "is_paper" (top 43) ["texts"] d)(wm:mg "isinstance"=none)(xF:mg "list"=none)(AF:mg "str"=none)(yD:mg "all"=none):(fk 1 d ["texts"] Lv):=by
 exists["texts"]
 obtain⟨l,ps,rfl,hl,hn,hx,q⟩:=h;refine⟨_,(ah (br (@PW.pt _ _ _ (kA (dv (cb (aE Fz wm EH (EF (0) (aA (cX (.ty "list") xF Hn) ay) ay)))) (ft (dv (cb (aE (dN hc) yD GU (aA (bo (aq (ts:=["text"]) (cap:=[]) (js:=[]) rfl rfl rfl rfl rfl rfl (by decide +kernel)) (aZ (0)) (au 0 (nd ["text"]) (.inr rfl)) (@aX _) (aE (show cy _ _ (vT K) from Fz) wm EH (EF (0) (aA (cX (.ty "str") AF KC) ay) ay))) (by rfl)))))))) (aj (aF (iI _))) (EO _)) (aj (aF (aE (dN hc) yD GU (aA (bo (aq (ts:=["text"]) (cap:=[]) (js:=[]) rfl rfl rfl rfl rfl rfl (by decide +kernel)) (aZ (0)) (au 0 (nd ["text"]) (.inr rfl)) (@aX _) (ck Fn (gZ Ej PySem.F.slot_str_strip PySem.F.type_str_strip IX (0) (aA (aQ _) aL)) (aQ _) (aI _))) (by rfl)))))),?_⟩
 walk_at "d"
 refine⟨_,rfl,.ref l,.ty "list",.type "list",.type "list",true,rfl,rfl,.lst hl,rfl,true,rfl,?_⟩;refine⟨_,rfl,l,rfl,⟨_,SqL.of hl⟩,?_⟩;have el:=bp ps;refine cq (K:=K) (a:=l) (xs:=av ps) (fun i ys H'=>H'=H/\ys=((ps.take i).map fun _=>true).map V.bl) ⟨rfl,rfl⟩ (fun i ys H' hi z=>by rw[z.2,AX,AX,Bq];lia) (ar (by lia)) (fun i ys H' hi z=>by rw[z.1];exact SqL.of hl) (fun i v ys H' hv z=>?_) (fun ys H' z p hp=>?_)
 ·obtain⟨rfl,rfl⟩:=z;have hi:i<(av ps).length:=(Be.mp hv).1;obtain⟨x,ex,rfl⟩:=eR hv;refine⟨_,rfl,.str (txt x),.ty "str",.type "str",.type "str",true,rfl,rfl,.str _,rfl,Nx.mk hi ⟨rfl,?_⟩⟩;exact gK (fun _=>true) ex
 obtain⟨rfl,rfl⟩:=z;rw[el,BX];have S1:=af hp (.lst ((ps.map fun _=>true).map V.bl));have gp:upd H' p (.lst ((ps.map fun _=>true).map V.bl)) p=some (.lst ((ps.map fun _=>true).map V.bl)):=ae;generalize upd H' p (.lst ((ps.map fun _=>true).map V.bl))=H2 at S1 gp ⊢;refine⟨p,_,rfl,SqL.of gp,true,?_,?_⟩
 ·rw[(lZ ps fun _=>true).mpr fun _ _=>rfl]
 refine⟨_,rfl,l,rfl,⟨_,SqL.of (S1 _ _ hl)⟩,?_⟩;refine cq (K:=K) (a:=l) (xs:=av ps) (fun i ys H'=>H'=H2/\ys=((ps.take i).map fun x=>x.all lrb).map V.bl) ⟨rfl,rfl⟩ (fun i ys H' hi z=>by rw[z.2,AX,AX,Bq];lia) (ar (by lia)) (fun i ys H' hi z=>by rw[z.1];exact SqL.of (S1 _ _ hl)) (fun i v ys H' hv z=>?_) (fun ys H' z p3 hp3=>?_)
 ·obtain⟨rfl,rfl⟩:=z;have hi:i<(av ps).length:=(Be.mp hv).1;obtain⟨x,ex,rfl⟩:=eR hv;have hx':=hx x (Bp ex);refine⟨_,rfl,rfl,txt x,"lr",rfl,rfl,ar (by show x.length<=1000000;lia),?_⟩;refine⟨rfl,Nx.mk hi ⟨rfl,?_⟩⟩;show _++[V.bl (decide (V.str (Txt.stripChars (txt x) "lr")=V.str ""))]=_;rw[pS];exact gK (fun x=>x.all lrb) ex
 obtain⟨rfl,rfl⟩:=z;rw[el,BX];refine⟨p3,_,rfl,SqL.of ae,q _ _ (S1.trans (af hp3 _)) ?_⟩;rw[lZ];exact forall_congr' fun x=>forall_congr' fun _=>rK x
open KM
theorem qK(x:List Nat)(r:List (List Nat)):inV (.str (txt x)) (av r)=decide (x∈r):=by
 unfold inV;rw[Eu,CM,decide_eq_true_iff];constructor
 ·rintro⟨v,hv,e⟩;obtain⟨y,hy,rfl⟩:=Bh.mp hv;have e':decide (txt y=txt x)=true:=e;rw[<- gc (Ef e')];exact hy
 ·intro h;exact⟨_,Bh.mpr ⟨x,h,rfl⟩,(show decide (txt x=txt x)=true from Ea rfl)⟩
theorem kG(r:List (List Nat)):(av r).all Ga=true:=BR.mpr fun v hv=>by
 obtain⟨y,_,rfl⟩:=Bh.mp hv;rfl
theorem AI:("":Str)=txt []:=by decide +kernel
theorem oS{x:List Nat}{dn:List (List Nat)}(h:x∈dn):eD (dnK dn) (.inr (txt x)) (.bl true)=dnK dn:=by
 unfold eD;have e:((dnK dn).any fun kv=>decide (kv.1=.inr (txt x)))=true:=CM.mpr ⟨_,Bh.mpr ⟨x,h,rfl⟩,Ea rfl⟩;rw[DZ e];refine(Dk (g:=id) fun kv hk=>?_).trans (List.map_id _);obtain⟨y,hy,rfl⟩:=Bh.mp hk;show(if _ then _ else _)=_;split<;>rfl
theorem lO(dn:List (List Nat)):(dnK dn).length=dn.length:=AX _
theorem sU{dn:List (List Nat)}{i:Nat}{z:Str}{v:V}(h:(dnK dn)[i]?=some (Sum.inr z,v)):∃x,dn[i]?=some x/\z=txt x:=by
 unfold dnK at h;rw[Br] at h;obtain⟨x,e,h⟩:=Ce.mp h;cases h;exact⟨x,e,rfl⟩
theorem qM(dn:List (List Nat)):∀p∈dnK dn,∃z,p.1=Sum.inr z:=fun p hp=>by
 obtain⟨x,_,rfl⟩:=Bh.mp hp;exact⟨_,rfl⟩
def oC (C1 C2:Addr):Sp:=fun vs H Q E=>∃v t n,vs=[v]/\T4o H v t/\Bd n t/\n<=1048576 /\
 (∀cs,(∀c∈cs,Fs c)->wt cs=t->cs.length<=400->∀H',EJ H H'->Q (.str (txt cs)) H')/\(∀cs,(∀c∈cs,Fs c)->wt cs=t->400<cs.length->∀H',EJ H H'->E (.ref C2) none H')/\(¬Plain t->∀H',EJ H H'->E (.ref C1) none H')
theorem Jn:EG ["table","word"] ["table"] (ak (top 22)):=by walk_at "s"
theorem tO{dp dw d:DD}{C1 C2:Addr}{lt:Tok}(m_lw:mg "LONGEST_WORD"=some (.int 400 lt))(wV:(dg "is_plain" 20 ["table"] dp 3 Hl))(D_ww:(dg "word_within" 21 ["table","most"] dw 1 Lk))(wJ:mg "NoPlain"=some (.ref C1))(k_NoPlain:W.excIn K C1 HR "ValueError.__new__"=true)(wK:mg "TooLong"=some (.ref C2))(k_TooLong:W.excIn K C2 HR "ValueError.__new__"=true)(D:Def K mg "word_of" (top 22) ["table"] d):EK P w K mg base (CXe P w) 4 d.f d.fd ["table"] (oC C1 C2):=by
 refine D.fn.okE Jn (fun vs H Q E h=>?_) (fun cdv A outer s H vs Q E hr h=>?_)
 ·obtain⟨v,t,n,rfl,_⟩:=h;rfl
 obtain⟨v,t,n,rfl,h4,hb,hn,q1,q2,q3⟩:=h;have hc:=hr.calm;have nd:=Jn.nd;refine⟨_,(ah (br (dv (cb (bW wV.1 wV.2 (0) ay))) (aj (dH wJ k_NoPlain (aA (aQ _) aL) bq)) (EO _)) (ah (aw 1 (Or.inl rfl) (aU D_ww.1 D_ww.2 (EF (0) (aA (bA (.int 400) m_lw ⟨_,rfl⟩) ay) ay))) (ah (br (aG Jf (1) (fJ _) (aI _)) (aj (dH wK k_TooLong (aA (aQ _) aL) bq)) (EO _)) (aj (aF (1)))))),?_⟩
 walk_at "d"
 refine⟨_,rfl,v,t,n,rfl,h4,hb,hn,fun H1 S1=>⟨cw t,rfl,?_⟩⟩;cases hp:cw t with
 |false=>exact⟨ar (by show 1<=1000000;decide),q3 (fun z=>by rw[Fc.mpr z] at hp;cases hp) H1 S1⟩
 |true=>
  obtain⟨cs,hlr,ew⟩:=(Fc.mp hp).word;refine⟨_,rfl,v,cs,400,rfl,by decide,hlr,(by rw[ew];exact h4.mono S1),fun hl H2 S2=>?_,fun hl H2 S2=>?_⟩
  ·refine⟨_,rfl,rfl,false,rfl,?_⟩;exact⟨_,rfl,q1 cs hlr ew hl H2 (S1.trans S2)⟩
  ·refine⟨_,rfl,rfl,true,rfl,?_⟩;exact⟨ar (by show 1<=1000000;decide),q2 cs hlr ew hl H2 (S1.trans S2)⟩
def rP (t:Tb):Prop:=¬Plain t\/∃cs,(∀c∈cs,Fs c)/\wt cs=t/\(cs.length=0\/40<cs.length)
def tL (C:Addr):Sp:=fun vs H Q E=>∃v t n,vs=[v]/\T4o H v t/\Bd n t/\n<=1048576/\(∀cs,(∀c∈cs,Fs c)->wt cs=t->1<=cs.length->cs.length<=40->∀H',EJ H H'->Q (.str (txt cs)) H')/\(rP t->∀H',EJ H H'->E (.ref C) none H')
theorem Jq:EG ["maker","word"] ["maker"] (ak (top 26)):=by walk_at "s"
theorem ur{dp dw d:DD}{C:Addr}{lt:Tok}(m_lm:mg "LONGEST_MAKER"=some (.int 40 lt))(wV:(dg "is_plain" 20 ["table"] dp 3 Hl))(D_ww:(dg "word_within" 21 ["table","most"] dw 1 Lk))(wB:mg "NoMakers"=some (.ref C))(k_NoMakers:W.excIn K C HR "ValueError.__new__"=true)(D:Def K mg "maker_word" (top 26) ["maker"] d):EK P w K mg base (CXe P w) 4 d.f d.fd ["maker"] (tL C):=by
 refine D.fn.okE Jq (fun vs H Q E h=>?_) (fun cdv A outer s H vs Q E hr h=>?_)
 ·obtain⟨v,t,n,rfl,_⟩:=h;rfl
 obtain⟨v,t,n,rfl,h4,hb,hn,q1,q2⟩:=h;have hc:=hr.calm;have nd:=Jq.nd;refine⟨_,(ah (br (dv (cb (bW wV.1 wV.2 (0) ay))) (aj (dH wB k_NoMakers (aA (aQ _) aL) bq)) (EO _)) (ah (aw 1 (Or.inl rfl) (aU D_ww.1 D_ww.2 (EF (0) (aA (bA (.int 40) m_lm ⟨_,rfl⟩) ay) ay))) (ah (br (@PW.pt _ _ _ (kA (aG Jf (1) (fJ _) (aI _)) (ft (aG Fn (1) (aQ _) (aI _))))) (aj (dH wB k_NoMakers (aA (aQ _) aL) bq)) (EO _)) (aj (aF (1)))))),?_⟩
 walk_at "d"
 refine⟨_,rfl,v,t,n,rfl,h4,hb,hn,fun H1 S1=>⟨cw t,rfl,?_⟩⟩;have z1:1<=sizeLine:=ar (by show 1<=1000000;decide);cases hp:cw t with
 |false=>exact⟨z1,q2 (.inl fun z=>by rw[Fc.mpr z] at hp;cases hp) H1 S1⟩
 |true=>
  obtain⟨cs,hlr,ew⟩:=(Fc.mp hp).word;refine⟨_,rfl,v,cs,40,rfl,by decide,hlr,(by rw[ew];exact h4.mono S1),fun hl H2 S2=>?_,fun hl H2 S2=>?_⟩
  ·refine⟨_,rfl,rfl,false,rfl,?_⟩;by_cases h1:1<=cs.length
   ·refine⟨_,rfl,rfl,false,?_,?_⟩
    ·show V.bl (decide (V.str (txt cs)=V.str ""))=_;rw[Eb (fun z=>tj h1 (by injection z))]
    exact⟨_,rfl,q1 cs hlr ew h1 hl H2 (S1.trans S2)⟩
   ·have e0:cs=[]:=Cs.mp (by lia);subst e0;exact⟨_,rfl,rfl,true,rfl,z1,q2 (.inr ⟨[],hlr,ew,.inl rfl⟩) H2 (S1.trans S2)⟩
  ·exact⟨_,rfl,rfl,true,rfl,z1,q2 (.inr ⟨cs,hlr,ew,.inr hl⟩) H2 (S1.trans S2)⟩
structure GI(H:Hp)(l:Addr)(us:List V)(ts:List Tb):Prop where
 g:H l=some (.lst us)
 ps:Paired (fun v t=>T4o H v t) us ts
 bd:∀t∈ts,Bd 1000 t
 n:us.length<=100
theorem GI.same{H H':Hp}{l:Addr}{us:List V}{ts:List Tb}(m:GI H l us ts)(S:EJ H H'):GI H' l us ts:=⟨S _ _ m.g,Paired.Gy m.ps fun _ _ h=>h.mono S,m.bd,m.n⟩
def Bad (ts:List Tb):Prop:=ts.length=0\/8<ts.length\/∃t∈ts,rP t
def cS (C:Addr):Sp:=fun vs H Q E=>∃l us ts,vs=[.ref l]/\GI H l us ts/\(∀ws,Wds ws->ts=ws.map wt->∀p H',EJ H H'->H' p=some (.lst (av ws))->Q (.ref p) H')/\(Bad ts->∀H',EJ H H'->E (.ref C) none H')
theorem Jo:EG ["makers"] ["makers"] (ak (top 27)):=by walk_at "s"
theorem iD{α β:Type}{R:α->β->Prop}:∀{as:List α}{bs:List β}{i:Nat}{a:α},Paired R as bs->as[i]?=some a->∃b,bs[i]?=some b/\R a b
 |_,_,_,_,.nil,e=>by simp at e
 |_,_,0,_,.cons h _,e=>by simp at e;subst e;exact⟨_,rfl,h⟩
 |_,_,i+1,a,.cons _ r,e=>by
  obtain⟨b,h1,h2⟩:=iD (i:=i) (a:=a) r (by simpa using e);exact⟨b,by simpa using h1,h2⟩
theorem sM{dm d:DD}{C:Addr}{lt:Tok}(m_mm:mg "MOST_MAKERS"=some (.int 8 lt))(zr:Def K mg "maker_word" (top 26) ["maker"] dm)(Ai:EK P w K mg base (CXe P w) 4 dm.f dm.fd ["maker"] (tL C))(wB:mg "NoMakers"=some (.ref C))(k_NoMakers:W.excIn K C HR "ValueError.__new__"=true)(D:Def K mg "maker_words" (top 27) ["makers"] d)(wm:mg "isinstance"=none)(xF:mg "list"=none)(wo:mg "len"=none):EK P w K mg base (CXe P w) 5 d.f d.fd ["makers"] (cS C):=by
 refine D.fn.okE Jo (fun vs H Q E h=>?_) (fun cdv A outer s H vs Q E hr h=>?_)
 ·obtain⟨l,us,ts,rfl,_⟩:=h;rfl
 obtain⟨l,us,ts,rfl,M,q1,q2⟩:=h;have hc:=hr.calm;have nd:=Jo.nd;have hl:=M.g;have el:=Paired.length M.ps;have u100:=M.n;have z1:1<=sizeLine:=ar (by show 1<=1000000;decide);refine⟨_,(ah (br (@PW.pt _ _ _ (kA (dv (cb (aE Fz wm EH (EF (0) (aA (cX (.ty "list") xF Hn) ay) ay)))) (ft (dv (ko Iw Iw (ag _) (ba EM wo (0) ay) (bA (.int 8) m_mm ⟨_,rfl⟩) (by with_unfolding_all rfl)))))) (aj (dH wB k_NoMakers (aA (aQ _) aL) bq)) (EO _)) (aj (aF (ou pY (aq (ts:=["maker"]) (cap:=[]) (js:=[]) rfl rfl rfl rfl rfl rfl (by decide +kernel)) (aZ (0)) (au 0 (nd ["maker"]) (.inr rfl)) (@aX _) (fun _ _ _ _ _ _=>(aN (Ai.mono (by decide)) zr.m zr.fn.kp zr.b bX (aA (0) ay))))))),?_⟩
 walk_at "d"
 refine⟨_,rfl,.ref l,.ty "list",.type "list",.type "list",true,rfl,rfl,.lst hl,rfl,true,rfl,?_⟩;refine⟨_,rfl,l,us,rfl,.inl (SqL.of hl),_,_,rfl,rfl,decide ((1:Int)<=(us.length:Int)),rfl,?_⟩;by_cases h1:us.length=0
 ·rw[Eb (by lia)];exact⟨false,rfl,z1,q2 (.inl (by lia)) H (EJ.refl _)⟩
 rw[Ea (by lia)];refine⟨_,_,rfl,rfl,decide ((us.length:Int)<=8),rfl,?_⟩;by_cases h8:8<us.length
 ·rw[Eb (by lia)];exact⟨z1,q2 (.inr (.inl (by lia))) H (EJ.refl _)⟩
 rw[Ea (by lia)];refine⟨_,rfl,l,rfl,⟨_,SqL.of hl⟩,?_⟩;refine cq (K:=K) (a:=l) (xs:=us) (fun i ys H'=>EJ H H'/\∃ws,ys=av ws/\ws.length=i/\ts.take i=ws.map wt/\∀cs∈ws,(∀c∈cs,Fs c)/\1<=cs.length/\cs.length<=40) ⟨EJ.refl H,[],rfl,rfl,rfl,fun cs h=>absurd h (by simp)⟩ (fun i ys H' hi z=>?_) (ar (by lia)) (fun i ys H' hi z=>SqL.of (z.1 _ _ hl)) (fun i x ys H' hx z=>?_) (fun ys H' z p hp=>?_)
 ·obtain⟨_,ws,rfl,e,_⟩:=z;rw[AX];lia
 ·obtain⟨z1,ws,rfl,e1,e2,e3⟩:=z;have hi:i<us.length:=(Be.mp hx).1;obtain⟨t,et,h4⟩:=iD M.ps hx;have mt:=Bp et;refine⟨_,rfl,x,t,1000,rfl,h4.mono z1,M.bd t mt,by decide,fun cs lr ew l1 l40 H2 S2=>Nx.mk hi ⟨z1.trans S2,ws++[cs],?_,by rw[Ba,e1];rfl,?_,fun c hc'=>?_⟩,fun bt H2 S2 D ys' nD=>q2 (.inr (.inr ⟨t,mt,bt⟩)) _ (z1.trans (S2.trans (af nD _)))⟩
  ·simp[av]
  ·rw[Bz,et,e2,Bk,<- ew];rfl
  ·rcases Bb.mp hc' with h|h
   ·exact e3 c h
   ·rw[Bg.mp h];exact⟨lr,l1,l40⟩
 ·obtain⟨z1,ws,rfl,e1,e2,e3⟩:=z;rw[Bs (by lia)] at e2;exact q1 ws ⟨by lia,by lia,fun cs h=>(e3 cs h).1,fun cs h=>(e3 cs h).2.1,fun cs h=>(e3 cs h).2.2⟩ e2 p _ (z1.trans (af hp _)) ae
open KM
theorem Gk:∀{x y:List Nat},(∀c∈x,Fs c)->(∀c∈y,Fs c)->wt x=wt y->x=y
 |[],y,_,hy,e=>(nS hy e.symm).symm
 |c::r,[],hx,_,e=>nS hx e
 |c::r,d::s,hx,hy,e=>by
  have hr:=fun c' h=>hx c' (By c h);have hs:=fun c' h=>hy c' (By d h);have pr:=Fh hr;have ps:=Fh hs;have e':(cC c).mul (wt r)=(cC d).mul (wt s):=e;rcases hx c Bj with rfl|rfl<;>rcases hy d Bj with rfl|rfl
  ·rw[jk,jk] at e';injection e' with e1 e2 e3 e4;rw[Gk hr hs (Tb.ext' e1 e2 (by lia) (by lia))]
  ·exact absurd (e'▸jC pr) (jw ps)
  ·exact absurd (e'.symm▸jC ps) (jw pr)
  ·rw[iA,iA] at e';injection e' with e1 e2 e3 e4;rw[Gk hr hs (Tb.ext' (by lia) (by lia) e3 e4)]
theorem FU:∀{vs ws:List (List Nat)},(∀cs∈vs,∀c∈cs,Fs c)->(∀cs∈ws,∀c∈cs,Fs c)->vs.map wt=ws.map wt->vs=ws
 |[],[],_,_,_=>rfl
 |[],_::_,_,_,e=>by cases e
 |_::_,[],_,_,e=>by cases e
 |a::r,b::s,ha,hb,e=>by
  rw[Bv,Bv] at e;injection e with e1 e2;rw[Gk (ha a Bj) (hb b Bj) e1,FU (fun cs h=>ha cs (By _ h)) (fun cs h=>hb cs (By _ h)) e2]
theorem kY{vs ws:List (List Nat)}(hv:Wds vs)(hw:Wds ws)(e:vs.map wt=ws.map wt):vs=ws:=FU hv.lr hw.lr e
theorem qA{ws:List (List Nat)}{v:List Nat}(_:Wok ws)(h:v∈nW ws):v∈ws:=by
 obtain⟨k,hk,rfl⟩:=Bh.mp h;exact bj (mf hk)
def sj (C C1 C2:Addr):Sp:=fun vs H Q E=>∃l us ts v t,vs=[.ref l,v]/\GI H l us ts/\T4o H v t/\Bd 1000 t /\
 (∀ws,Wds ws->ts=ws.map wt->(∀cs,(∀c∈cs,Fs c)->wt cs=t->cs.length<=400->∀u H',EJ H H'->Q u H')/\(∀cs,(∀c∈cs,Fs c)->wt cs=t->400<cs.length->∀H',EJ H H'->E (.ref C2) none H')/\(¬Plain t->∀H',EJ H H'->E (.ref C1) none H'))/\(Bad ts->∀H',EJ H H'->E (.ref C) none H')
def sq (T C:Addr):Sp:=fun vs H Q E=>∃l us ts,vs=[.ref l]/\GI H l us ts/\Fq GJ GQ T H/\(∀ws,Wds ws->ts=ws.map wt->∀u H',SmB T H H'->Fq GJ GQ T H'->Q u H')/\(Bad ts->∀H',EJ H H'->E (.ref C) none H')
def vZ (C:Addr):Sp:=fun vs H Q E=>∃l us ts t ps,vs=[.ref l,.ref t]/\GI H l us ts/\H t=some (.lst (av ps))/\ps.length<=2000/\(∀x∈ps,x.length<=1000)/\(∀ws,Wds ws->ts=ws.map wt->∀u H',EJ H H'->Q u H')/\(Bad ts->∀H',EJ H H'->E (.ref C) none H')
def vP (C:Addr):Sp:=fun vs H Q E=>∃l us ts m us2 ts2,vs=[.ref l,.ref m]/\GI H l us ts/\GI H m us2 ts2/\(∀ws os,Wds ws->ts=ws.map wt->Wds os->ts2=os.map wt->∀u H',EJ H H'->Q u H')/\(Bad ts->∀H',EJ H H'->E (.ref C) none H')/\(Bad ts2->∀H',EJ H H'->E (.ref C) none H')
theorem KQ:EG ["makers","table","words","text"] ["makers","table"] (ak (top 33)):=by walk_at "s"
theorem uT{dm dw dx d:DD}{C C1 C2:Addr}(wA:Def K mg "maker_words" (top 27) ["makers"] dm)(wC:EK P w K mg base (CXe P w) 5 dm.f dm.fd ["makers"] (cS C))(wR:Def K mg "word_of" (top 22) ["table"] dw)(yK:EK P w K mg base (CXe P w) 4 dw.f dw.fd ["table"] (oC C1 C2))(zU:(dg "least_to_places" 31 ["words","text"] dx 3 Kc))(D:Def K mg "least_row" (top 33) ["makers","table"] d)(wo:mg "len"=none):EK P w K mg base (CXe P w) 6 d.f d.fd ["makers","table"] (sj C C1 C2):=by
 refine D.fn.okE KQ (fun vs H Q E h=>?_) (fun cdv A outer s H vs Q E hr h=>?_)
 ·obtain⟨l,us,ts,v,t,rfl,_⟩:=h;rfl
 obtain⟨l,us,ts,v,t,rfl,M,h4,hb,qG,qB⟩:=h;have hc:=hr.calm;have nd:=KQ.nd;refine⟨_,(ah (aw 2 (Or.inl rfl) (aN (wC.mono (by decide)) wA.m wA.fn.kp wA.b bq (aA (0) ay))) (ah (aw 3 (Or.inl rfl) (aN (yK.mono (by decide)) wR.m wR.fn.kp wR.b bq (aA (1) ay))) (aj (aF (aP EI (aU zU.1 zU.2 (EF (2) (aA (3) ay) ay)) (ba EL wo (3) ay)))))),?_⟩
 walk_at "d"
 refine⟨_,rfl,l,us,ts,rfl,M,fun ws hw ew p1 H1 S1 g1=>?_,qB⟩;obtain⟨q,q2,q1⟩:=qG ws hw ew;refine⟨_,rfl,v,t,1000,rfl,h4.mono S1,hb,by decide,fun x hlr ex h400 H2 S2=>?_,fun x hlr ex h H2 S2=>q2 x hlr ex h H2 (S1.trans S2),fun h H2 S2=>q1 h H2 (S1.trans S2)⟩;refine⟨_,rfl,_,rfl,p1,ws,x,rfl,S2 _ _ g1,hw.ok,h400,fun p us' L H3 S3 g3 hR hL=>?_⟩;obtain⟨u,eu,ru⟩:=hR.at (i:=x.length) (by rw[hL.len];lia);refine⟨_,rfl,txt x,rfl,ar (by show x.length<=1000000;lia),p,us',_,u,rfl,rfl,SqL.of g3,bD eu,?_⟩;exact q x hlr ex h400 u H3 (S1.trans (S2.trans S3))
theorem Kg:EG ["makers","table","words","text"] ["makers","table"] (ak (top 34)):=by walk_at "s"
theorem va{dm dw dx d:DD}{C C1 C2:Addr}(wA:Def K mg "maker_words" (top 27) ["makers"] dm)(wC:EK P w K mg base (CXe P w) 5 dm.f dm.fd ["makers"] (cS C))(wR:Def K mg "word_of" (top 22) ["table"] dw)(yK:EK P w K mg base (CXe P w) 4 dw.f dw.fd ["table"] (oC C1 C2))(wU:(dg "ways_to_places" 29 ["words","text"] dx 2 HH))(D:Def K mg "many_rows" (top 34) ["makers","table"] d)(wo:mg "len"=none):EK P w K mg base (CXe P w) 6 d.f d.fd ["makers","table"] (sj C C1 C2):=by
 refine D.fn.okE Kg (fun vs H Q E h=>?_) (fun cdv A outer s H vs Q E hr h=>?_)
 ·obtain⟨l,us,ts,v,t,rfl,_⟩:=h;rfl
 obtain⟨l,us,ts,v,t,rfl,M,h4,hb,qG,qB⟩:=h;have hc:=hr.calm;have nd:=Kg.nd;refine⟨_,(ah (aw 2 (Or.inl rfl) (aN (wC.mono (by decide)) wA.m wA.fn.kp wA.b bq (aA (0) ay))) (ah (aw 3 (Or.inl rfl) (aN (yK.mono (by decide)) wR.m wR.fn.kp wR.b bq (aA (1) ay))) (aj (aF (aP EI (aU wU.1 wU.2 (EF (2) (aA (3) ay) ay)) (ba EL wo (3) ay)))))),?_⟩
 walk_at "d"
 refine⟨_,rfl,l,us,ts,rfl,M,fun ws hw ew p1 H1 S1 g1=>?_,qB⟩;obtain⟨q,q2,q1⟩:=qG ws hw ew;refine⟨_,rfl,v,t,1000,rfl,h4.mono S1,hb,by decide,fun x hlr ex h400 H2 S2=>?_,fun x hlr ex h H2 S2=>q2 x hlr ex h H2 (S1.trans S2),fun h H2 S2=>q1 h H2 (S1.trans S2)⟩;refine⟨_,rfl,_,rfl,p1,ws,x,rfl,S2 _ _ g1,hw.ok,h400,fun p H3 S3 n3 g3=>?_⟩;refine⟨_,rfl,txt x,rfl,ar (by show x.length<=1000000;lia),p,_,_,_,rfl,rfl,SqL.of g3,fW (j:=x.length) (by rw[cG];lia),?_⟩;exact q x hlr ex h400 _ H3 (S1.trans (S2.trans S3))
theorem Kt:EG ["makers","table","words"] ["makers","table"] (ak (top 35)):=by walk_at "s"
theorem uU{dm dw dx d:DD}{C C1 C2:Addr}(wA:Def K mg "maker_words" (top 27) ["makers"] dm)(wC:EK P w K mg base (CXe P w) 5 dm.f dm.fd ["makers"] (cS C))(wR:Def K mg "word_of" (top 22) ["table"] dw)(yK:EK P w K mg base (CXe P w) 4 dw.f dw.fd ["table"] (oC C1 C2))(D_rp:(dg "reached_places" 32 ["words","text"] dx 3 LC))(D:Def K mg "reached" (top 35) ["makers","table"] d):EK P w K mg base (CXe P w) 6 d.f d.fd ["makers","table"] (sj C C1 C2):=by
 refine D.fn.okE Kt (fun vs H Q E h=>?_) (fun cdv A outer s H vs Q E hr h=>?_)
 ·obtain⟨l,us,ts,v,t,rfl,_⟩:=h;rfl
 obtain⟨l,us,ts,v,t,rfl,M,h4,hb,qG,qB⟩:=h;have hc:=hr.calm;have nd:=Kt.nd;refine⟨_,(ah (aw 2 (Or.inl rfl) (aN (wC.mono (by decide)) wA.m wA.fn.kp wA.b bq (aA (0) ay))) (aj (aF (aU D_rp.1 D_rp.2 (EF (2) (aA (aN (yK.mono (by decide)) wR.m wR.fn.kp wR.b bq (aA (1) ay)) cQ) ay))))),?_⟩
 walk_at "d"
 refine⟨_,rfl,l,us,ts,rfl,M,fun ws hw ew p1 H1 S1 g1=>?_,qB⟩;obtain⟨q,q2,q1⟩:=qG ws hw ew;refine⟨_,rfl,_,rfl,v,t,1000,rfl,h4.mono S1,hb,by decide,fun x hlr ex h400 H2 S2=>?_,fun x hlr ex h H2 S2=>q2 x hlr ex h H2 (S1.trans S2),fun h H2 S2=>q1 h H2 (S1.trans S2)⟩;exact⟨p1,ws,x,rfl,S2 _ _ g1,hw.ok,h400,fun p H3 S3 n3 g3=>q x hlr ex h400 _ H3 (S1.trans (S2.trans S3))⟩
theorem Jd:EG ["makers"] ["makers"] (ak (top 49)):=by walk_at "s"
theorem tD{dm dt d:DD}{T C:Addr}(wA:Def K mg "maker_words" (top 27) ["makers"] dm)(wC:EK P w K mg base (CXe P w) 5 dm.f dm.fd ["makers"] (cS C))(D_to:(dg "twins_of" 48 ["words"] dt 4 (wj T)))(D:Def K mg "twins" (top 49) ["makers"] d):EK P w K mg base (CXe P w) 6 d.f d.fd ["makers"] (sq T C):=by
 refine D.fn.okE Jd (fun vs H Q E h=>?_) (fun cdv A outer s H vs Q E hr h=>?_)
 ·obtain⟨l,us,ts,rfl,_⟩:=h;rfl
 obtain⟨l,us,ts,rfl,M,hT,qG,qB⟩:=h;have hc:=hr.calm;have nd:=Jd.nd;refine⟨_,(aj (aF (bW D_to.1 D_to.2 (aN (wC.mono (by decide)) wA.m wA.fn.kp wA.b bq (aA (0) ay)) cQ))),?_⟩
 walk_at "d"
 refine⟨_,rfl,l,us,ts,rfl,M,fun ws hw ew p H1 S1 gp=>?_,qB⟩;exact⟨p,ws,rfl,gp,hw,hT.same S1,fun dn H' h1 h2 h3=>qG ws hw ew _ H' ((SmB.of S1).trans h2) h3,fun p la lb a b dn E f H' h1 h2 h3 h4 h5 h6 h7 h8 h9 h10=>qG ws hw ew _ H' ((SmB.of S1).trans h9) h10⟩
theorem Jk:EG ["makers"] ["makers"] (ak (top 52)):=by walk_at "s"
theorem uB{dm dn d:DD}{T C:Addr}(wA:Def K mg "maker_words" (top 27) ["makers"] dm)(wC:EK P w K mg base (CXe P w) 5 dm.f dm.fd ["makers"] (cS C))(yT:(dg "needed_of" 51 ["words"] dn 4 JA))(D:Def K mg "needed" (top 52) ["makers"] d):EK P w K mg base (CXe P w) 6 d.f d.fd ["makers"] (sq T C):=by
 refine D.fn.okE Jk (fun vs H Q E h=>?_) (fun cdv A outer s H vs Q E hr h=>?_)
 ·obtain⟨l,us,ts,rfl,_⟩:=h;rfl
 obtain⟨l,us,ts,rfl,M,hT,qG,qB⟩:=h;have hc:=hr.calm;have nd:=Jk.nd;refine⟨_,(aj (aF (bW yT.1 yT.2 (aN (wC.mono (by decide)) wA.m wA.fn.kp wA.b bq (aA (0) ay)) cQ))),?_⟩
 walk_at "d"
 refine⟨_,rfl,l,us,ts,rfl,M,fun ws hw ew p1 H1 S1 g1=>?_,qB⟩;exact⟨p1,ws,rfl,g1,hw.ok,fun p H2 S2 n2 g2=>qG ws hw ew _ H2 (SmB.of (S1.trans S2)) (hT.same (S1.trans S2))⟩
theorem EK.dry{P:Program}{w:World}{K:W.Frag}{mg:Str->Option Value}{base:Heap}{k:Nat}{f:Addr}{fd:FuncData}{ps:List Str}{sp sp':Sp}(F:EK P w K mg base (CXe P w) k f fd ps sp)(h:∀vs H Q E,sp' vs H Q E->sp vs H Q fun _ _ _=>False):EK P w K mg base CX0 k f fd ps sp':=
 ⟨fun vs H Q E z=>F.len _ _ _ _ (h vs H Q E z),fun A outer s H args us vs Q E hr he hb hv z=>codeAny_mono (F.run A outer s H args us vs Q _ hr he hb hv (h vs H Q E z)) fun r s' c=>by
  cases r with
  |ok v=>cases v<;>exact c
  |error e=>
   obtain⟨_,_,_,_,_,_,_,_,_,z⟩:=c
   exact z⟩
theorem EK.wet{P:Program}{w:World}{K:W.Frag}{mg:Str->Option Value}{base:Heap}{k:Nat}{f:Addr}{fd:FuncData}{ps:List Str}{sp:Sp}(F:EK P w K mg base CX0 k f fd ps sp):EK P w K mg base (CXe P w) k f fd ps sp:=
 ⟨F.len,fun A outer s H args us vs Q E hr he hb hv z=>codeAny_mono (F.run A outer s H args us vs Q E hr he hb hv z) fun r s' c=>by
  cases r with
  |ok v=>cases v<;>exact c
  |error e=>exact c.elim⟩
theorem EK.or{P:Program}{w:World}{K:W.Frag}{mg:Str->Option Value}{base:Heap}{CX:CXT}{k:Nat}{f:Addr}{fd:FuncData}{ps:List Str}{s1 s2:Sp}(F:EK P w K mg base CX k f fd ps s1)(G:EK P w K mg base CX k f fd ps s2):EK P w K mg base CX k f fd ps (fun vs H Q E=>s1 vs H Q E\/s2 vs H Q E):=
 ⟨fun vs H Q E h=>h.elim (F.len vs H Q E) (G.len vs H Q E),fun A outer s H args us vs Q E hr he hb hv h=>h.elim (F.run A outer s H args us vs Q E hr he hb hv) (G.run A outer s H args us vs Q E hr he hb hv)⟩
theorem Iq:∀{ts:List Tb},(∀t∈ts,¬rP t)->∃ws:List (List Nat),ts=ws.map wt/\∀cs∈ws,(∀c∈cs,Fs c)/\1<=cs.length/\cs.length<=40
 |[],_=>⟨[],rfl,fun cs h=>absurd h (by simp)⟩
 |t::r,h=>by
  obtain⟨ws,rfl,hw⟩:=Iq (ts:=r) fun u hu=>h u (By _ hu);have nb:=h t Bj;by_cases hp:Plain t
  ·obtain⟨cs,lr,rfl⟩:=hp.word;refine⟨cs::ws,rfl,fun c hc=>?_⟩;rcases Bl.mp hc with rfl|hc
   ·refine⟨lr,Dy fun z=>nb (.inr ⟨c,lr,rfl,.inl (by lia)⟩),Dy fun z=>nb (.inr ⟨c,lr,rfl,.inr z⟩)⟩
   ·exact hw c hc
  ·exact absurd (.inl hp) nb
theorem iZ(ts:List Tb):(∃ws,Wds ws/\ts=ws.map wt)\/Bad ts:=by
 by_cases h:Bad ts
 ·exact .inr h
 ·obtain⟨ws,rfl,hw⟩:=Iq (ts:=ts) fun t ht z=>h (.inr (.inr ⟨t,ht,z⟩));unfold Bad at h;rw[AX] at h;exact .inl ⟨ws,⟨by lia,by lia,fun cs hc=>(hw cs hc).1,fun cs hc=>(hw cs hc).2.1,fun cs hc=>(hw cs hc).2.2⟩,rfl⟩
def Jb:Sp:=fun vs H Q _=>∃l us ts ws,vs=[.ref l]/\GI H l us ts/\Wds ws/\ts=ws.map wt/\∀p H',EJ H H'->H' p=some (.lst (av ws))->Q (.ref p) H'
theorem fF{ws:List (List Nat)}(hw:Wds ws):¬Bad (ws.map wt):=fun h=>by
 have h1:=hw.n1;have h8:=hw.n8;unfold Bad at h;rw[AX] at h;rcases h with h|h|⟨t,ht,h⟩
 ·lia
 ·lia
 ·obtain⟨cs,hc,rfl⟩:=Bh.mp ht;rcases h with h|⟨x,lr,e,h⟩
  ·exact h (Fh (hw.lr cs hc))
  ·rw[Gk lr (hw.lr cs hc) e] at h;have:=hw.l1 cs hc;have:=hw.l40 cs hc;lia
theorem rJ{C:Addr}{d:DD}(G:EK P w K mg base (CXe P w) 5 d.f d.fd ["makers"] (cS C)):(fk 5 d ["makers"] Jb):=EK.dry G fun vs H Q E ⟨l,us,ts,ws,e,M,hw,ew,q⟩=>⟨l,us,ts,e,M,fun vs hv ev p H' S g=>by
 have ee:vs.map wt=ws.map wt:=ev.symm.trans ew;have:vs=ws:=kY hv hw ee;rw[this] at g
 exact q p H' S g,fun b=>absurd (ew▸b) (fF hw)⟩
def JW:Sp:=fun vs H Q _=>∃l us ts ws,vs=[.ref l]/\GI H l us ts/\Wds ws/\ts=ws.map wt/\∀u H',EJ H H'->Q u H'
def tF (C:Addr):Sp:=fun vs H Q E=>∃l us ts,vs=[.ref l]/\GI H l us ts/\Bad ts/\∀H',EJ H H'->E (.ref C) none H'
theorem IE:EG ["makers","words","found","waiting","text"] ["makers"] (ak (top 42)):=by walk_at "s"
theorem sI{dm df dn d:DD}(wA:Def K mg "maker_words" (top 27) ["makers"] dm)(D_fl:(dg "first_lefts" 38 ["words"] df 2 KZ))(D_nl:(dg "next_lefts" 41 ["words","text"] dn 2 Ln))(D:Def K mg "leftovers" (top 42) ["makers"] d)(wH:mg "sorted"=none)(wC:(fk 5 dm ["makers"] Jb)):(fk 6 d ["makers"] JW):=by
 exists["makers","words","found","waiting","text"]
 obtain⟨l,us,ts,ws,rfl,M,hw,ew,q⟩:=h;have h8:=hw.n8;refine⟨_,(ah (aw 1 (Or.inl rfl) (bW wA wC (0) ay)) (ah (aw 2 (Or.inl rfl) (@GB _ _)) (ah (aw 3 (Or.inl rfl) (bW D_fl.1 D_fl.2 (1) ay)) (ah (gE (gj (3)) (ah (aw 4 (Or.inl rfl) (sr Ei PySem.F.slot_list_pop PySem.F.type_list_pop KP (3))) (aj (br (mR (fk (fm hr) (4) (2)) (by first|exact cj _ (by decide) (by decide)|rfl)) (ah (jf (fm hr) (2) (4) (iI _)) (aj (bg (jn Ei PySem.F.slot_list_extend PySem.F.type_list_extend Iv (3) (aA (@qi _ _ _ (jQ (gj (4)) (aU D_nl.1 D_nl.2 (EF (1) (aA (4) ay) ay)) (aV (@Fe _)))) (by rfl)))))) (EO _))))) (aj (aF (aE (kz hc) wH FT (aA (2) ay)))))))),?_⟩
 walk_at "d"
 refine⟨_,rfl,l,us,ts,ws,rfl,M,hw,ew,fun W0 H1 S1 gW=>?_⟩;intro F nF;have S2:=af nF (.dK []);have gF:upd H1 F (.dK []) F=some (.dK (dnK [])):=ae;have nF0:H F=none:=eQ S1 nF;have neF:W0≠F:=az gW nF;have gW2:=S2 _ _ gW;have S12:=S1.trans S2;generalize upd H1 F (.dK [])=H2 at S2 gF gW2 S12 ⊢;refine⟨_,rfl,W0,ws,rfl,gW2,hw,fun A0 zs H3 S3 nA gA lA mA=>?_⟩;have nA0:H A0=none:=eQ S12 nA;have neA:W0≠A0:=az gW2 nA;have neFA:F≠A0:=az gF nA;refine⟨fun m σ H'=>∃dn wt e4,σ=[some (.ref l),some (.ref W0),some (.ref F),some (.ref A0),e4]/\EJ H H'/\H' W0=some (.lst (av ws))/\H' F=some (.dK (dnK dn))/\H' A0=some (.lst (av wt))/\Way ws dn wt/\wt.length<=64+16*dn.length/\m=(400-dn.length)*20+wt.length,⟨_,[],zs,_,rfl,S12.trans S3,S3 _ _ gW2,S3 _ _ gF,gA,Way.start mA,by show zs.length<=64+16*0;lia,rfl⟩,?_⟩;rintro m σ H4 ⟨dn,wt,e4,rfl,S4,gW4,gF4,gA4,way,lw,rfl⟩;have ld:=way.few h8 hw.l40;refine⟨_,rfl,!(av wt).isEmpty,.inl ⟨_,SqL.of gA4,rfl⟩,?_⟩;cases hwt:(av wt).isEmpty with
 |true=>
  have e0:wt=[]:=List.map_eq_nil_iff.mp (List.isEmpty_iff.mp hwt);subst e0;refine⟨_,rfl,F,dn.map txt,rfl,.inr ⟨_,gF4,oj dn⟩,fun p zs' hp hs np=>?_⟩;obtain⟨os,rfl,pm⟩:=pP hp;rw[rN];exact q _ _ (S4.trans (af np _))
 |false=>
  obtain⟨wt,x,rfl⟩:∃wt' x,wt=wt'++[x]:=by
   rcases List.eq_nil_or_concat wt with h|⟨a,b,h⟩
   ·rw[h] at hwt;cases hwt
   ·exact⟨a,b,by rw[h,List.concat_eq_append]⟩
  obtain⟨e1,e2⟩:=oz wt x;have lx:x.length<=40:=by
   obtain⟨w0,hw0,y,e⟩:=(way.low x (AY _ (Bg.mpr rfl))).sfx;have:=hw.l40 _ hw0;rw[e,Ba] at this;lia
  rw[Ba] at lw ⊢;refine⟨_,fun σ' H' z=>z,?_⟩;refine⟨_,rfl,.inl ⟨rfl,_,SqL.of gA4⟩,A0,_,_,rfl,rfl,gA4,e1,?_⟩;rw[e2];have S5:EJ H (upd H4 A0 (.lst (av wt))):=fun b o e=>by rw[ao (az e nA0)];exact S4 _ _ e
  have gW5:upd H4 A0 (.lst (av wt)) W0=some (.lst (av ws)):=by rw[ao neA];exact gW4
  have gF5:upd H4 A0 (.lst (av wt)) F=some (.dK (dnK dn)):=by rw[ao neFA];exact gF4
  have gA5:upd H4 A0 (.lst (av wt)) A0=some (.lst (av wt)):=ae;generalize upd H4 A0 (.lst (av wt))=H5 at S5 gW5 gF5 gA5 ⊢;refine⟨_,rfl,_,rfl,F,_,rfl,Hh.k (k:=.inr (txt x)) gF5,?_⟩;refine⟨_,rfl,?_⟩;rw[iE x dn];by_cases hx:x∈dn
  ·rw[Ea hx];exact⟨_,by show(400-dn.length)*20+wt.length<_+(wt.length+1);lia,dn,wt,_,rfl,S5,gW5,gF5,gA5,way.skip hx,by have:[x].length=1:=rfl;lia,rfl⟩
  rw[Eb hx];refine⟨_,rfl,_,rfl,F,_,rfl,.inl ⟨_,.inr (txt x),gF5,rfl,Bc (show(dnK dn).length<1000000 by unfold dnK;rw[AX];lia) (ar (AW _)),rfl⟩,?_⟩;rw[ny hx];have S6:EJ H (upd H5 F (.dK (dnK (dn++[x])))):=fun b o e=>by rw[ao (az e nF0)];exact S5 _ _ e
  have gW6:upd H5 F (.dK (dnK (dn++[x]))) W0=some (.lst (av ws)):=by rw[ao neF];exact gW5
  have gF6:upd H5 F (.dK (dnK (dn++[x]))) F=some (.dK (dnK (dn++[x]))):=ae;have gA6:upd H5 F (.dK (dnK (dn++[x]))) A0=some (.lst (av wt)):=by rw[ao (Er neFA)];exact gA5
  generalize upd H5 F (.dK (dnK (dn++[x])))=H6 at S6 gW6 gF6 gA6 ⊢;refine⟨_,rfl,.inl ⟨rfl,_,SqL.of gA6⟩,fun v H'=>∃B zs,v=.ref B/\EJ H6 H'/\H' B=some (.lst (av zs))/\zs.length<=16/\∀z,z∈zs↔x≠[]/\Nxt ws x z,?_,fun v H7 z=>?_⟩
  ·refine⟨_,rfl,_,⟨ar (by show x.length<=1000000;lia),rfl⟩,?_⟩;rw[show(txt x).length=x.length from rfl];cases x with
   |nil=>exact⟨Bo _,fun B nB=>⟨B,[],rfl,af nB _,ae,Bo _,fun z=>⟨fun h=>absurd h (by simp),fun h=>absurd rfl h.1⟩⟩⟩
   |cons c r=>
    have e:((((c::r).length:Nat):Int) != 0)=true:=by rw[bne_iff_ne];show((r.length+1:Nat):Int)≠0;lia
    rw[e];exact⟨_,rfl,_,rfl,W0,ws,c::r,rfl,gW6,hw,by lia,fun B zs H7 S7 gB lz mz=>⟨B,zs,rfl,S7,gB,lz,fun z=>(mz z).trans ⟨fun h=>⟨by simp,h⟩,fun h=>h.2⟩⟩⟩
  obtain⟨B,zs,rfl,S7,gB,lz,mz⟩:=z;have gA7:=S7 _ _ gA6;refine⟨A0,B,av wt,av zs,rfl,rfl,gA7,gB,ar (by rw[bp,bp];lia),?_⟩;rw[ik];have ln:(dn++[x]).length=dn.length+1:=by rw[Ba];rfl
  have wy:=way.take hx mz;have l2:=wy.few h8 hw.l40;refine⟨_,?_,dn++[x],wt++zs,_,rfl,fun b o e=>?_,?_,?_,ae,wy,?_,rfl⟩
  ·rw[ln,Ba];show(400-(dn.length+1))*20+(wt.length+zs.length)<(400-dn.length)*20+(wt.length+1)
   lia
  ·rw[ao (az e nA0)];exact S7 _ _ (S6 _ _ e)
  ·rw[ao neA];exact S7 _ _ gW6
  ·rw[ao neFA];exact S7 _ _ gF6
  ·rw[ln,Ba];have:[x].length=1:=rfl;lia
theorem sD{dm d:DD}{C:Addr}(wA:Def K mg "maker_words" (top 27) ["makers"] dm)(wC:EK P w K mg base (CXe P w) 5 dm.f dm.fd ["makers"] (cS C))(D:Def K mg "leftovers" (top 42) ["makers"] d):EK P w K mg base (CXe P w) 6 d.f d.fd ["makers"] (tF C):=by
 refine D.fn.okE IE (fun vs H Q E h=>?_) (fun cdv A outer s H vs Q E hr h=>?_)
 ·obtain⟨l,us,ts,rfl,_⟩:=h;rfl
 obtain⟨l,us,ts,rfl,M,b,q⟩:=h;have hc:=hr.calm;have nd:=IE.nd;refine⟨_,(ah (aw 1 (Or.inl rfl) (aN (wC.mono (by decide)) wA.m wA.fn.kp wA.b bq (aA (0) ay))) (@nO _ _)),?_⟩
 walk_at "d"
 exact⟨_,rfl,l,us,ts,rfl,M,fun ws hw ew=>absurd (ew▸b) (fF hw),fun _=>q⟩
theorem vJ{d:DD}{T C:Addr}(G:(fk 6 d ["makers"] JW))(B:EK P w K mg base (CXe P w) 6 d.f d.fd ["makers"] (tF C)):EK P w K mg base (CXe P w) 6 d.f d.fd ["makers"] (sq T C):=EK.imp (EK.or (EK.wet G) B) fun vs H Q E hq119=>by
 obtain⟨l,us,ts,e,M,hT,qG,qB⟩:=hq119;rcases iZ ts with ⟨ws,hw,ew⟩|b
 ·exact .inl ⟨l,us,ts,ws,e,M,hw,ew,fun u H' S=>qG ws hw ew u H' (SmB.of S) (hT.same S)⟩
 ·exact .inr ⟨l,us,ts,e,M,b,qB b⟩
theorem Kj:EG ["makers","texts","words","held"] ["makers","texts"] (ak (top 44)):=by walk_at "s"
theorem vb{dm di df dn d:DD}{C:Addr}(wA:Def K mg "maker_words" (top 27) ["makers"] dm)(wC:EK P w K mg base (CXe P w) 5 dm.f dm.fd ["makers"] (cS C))(D_ip:(dg "is_paper" 43 ["texts"] di 1 Lv))(D_fl:(dg "first_lefts" 38 ["words"] df 2 KZ))(D_nl:(dg "next_lefts" 41 ["words","text"] dn 2 Ln))(D:Def K mg "let_by" (top 44) ["makers","texts"] d)(yD:mg "all"=none):EK P w K mg base (CXe P w) 6 d.f d.fd ["makers","texts"] (vZ C):=by
 refine D.fn.okE Kj (fun vs H Q E h=>?_) (fun cdv A outer s H vs Q E hr h=>?_)
 ·obtain⟨l,us,ts,t,ps,rfl,_⟩:=h;rfl
 obtain⟨l,us,ts,t,ps,rfl,M,ht,hn,hx,qG,qB⟩:=h;have hc:=hr.calm;have nd:=Kj.nd;refine⟨_,(ah (aw 2 (Or.inr rfl) (aN (wC.mono (by decide)) wA.m wA.fn.kp wA.b bq (aA (0) ay))) (ah (br (@PW.pt _ _ _ (kA (dv (cb (bW D_ip.1 D_ip.2 (1) ay))) (ft (aG Ii (aQ _) (1) rfl)))) (aj (aF (iI _))) (EO _)) (ah (aw 3 (Or.inr rfl) (qa (aq (ts:=["text"]) (cap:=[]) (js:=[]) rfl rfl rfl rfl rfl rfl (by decide +kernel)) (aZ (1)) (au 0 (nd ["text"]) (.inr rfl)) (@aX _) (0) (iI _))) (ah (br (dv (cb (aE (dN hc) yD GU (aA (bo (aq (ts:=["left"]) (cap:=["held"]) (js:=[3]) rfl rfl rfl rfl rfl rfl (by decide +kernel)) (aZ (bW D_fl.1 D_fl.2 (2) ay)) (au 0 (nd ["left","held"]) (.inr rfl)) (@aX _) (qz (qH (fm hr) (0) (1)) (by first|exact cj _ (by decide) (by decide)|rfl))) (by rfl))))) (aj (aF (iI _))) (EO _)) (aj (aF (aE (dN hc) yD GU (aA (oE (aq (ts:=["text","left"]) (cap:=["words","held"]) (js:=[2,3]) rfl rfl rfl rfl rfl rfl (by decide +kernel)) (@oa _ _ _ _ (3)) (au 0 (nd ["text","left","words","held"]) (.inr rfl)) (@aX _) (@oo _ _ _ _ K rfl (aU D_nl.1 D_nl.2 (EF (2) (aA (0) ay) ay))) (au 1 (nd ["text","left","words","held"]) (.inr rfl)) (@aX _) (qz (qH (fm hr) (1) (3)) (by first|exact cj _ (by decide) (by decide)|rfl)) (by intro _ _;rfl)) (by rfl))))))))),?_⟩
 walk_at "d"
 refine⟨_,rfl,l,us,ts,rfl,M,fun ws hw ew W0 H1 S1 gW=>?_,qB⟩;have q:=qG ws hw ew;refine⟨_,rfl,t,ps,rfl,S1 _ _ ht,hn,hx,fun b0 H2 S2 hb0=>?_⟩;have S12:=S1.trans S2;refine⟨b0,rfl,?_⟩;cases b0 with
 |false=>exact q _ H2 S12
 |true=>
 have hlr:=hb0.mp rfl;have gt:=S12 _ _ ht;have gW2:=S2 _ _ gW;refine⟨_,rfl,t,av ps,rfl,.inl (SqL.of gt),rfl,kG ps,_,rfl,?_⟩;rw[AI,show(if false=true then !inV (V.str (txt [])) (av ps) else inV (V.str (txt [])) (av ps))=decide ([]∈ps) from qK [] ps];by_cases h0:[]∈ps
 ·rw[Ea h0];exact q _ H2 S12
 rw[Eb h0];refine⟨_,rfl,t,rfl,⟨_,SqL.of gt⟩,?_⟩;have el:=bp ps;refine sZ (K:=K) (a:=t) (xs:=av ps) (fun i ys H'=>H'=H2/\∃dn,ys=dnK dn/\dn.length<=i/\∀z,z∈dn↔z∈ps.take i) ⟨rfl,[],rfl,AW _,fun z=>Iff.rfl⟩ (fun i ys H' hi z=>?_) (by lia) (fun i ys H' hi z=>by rw[z.1];exact SqL.of gt) (fun i v ys H' hv z=>?_) (fun ys H' z=>?_)
 ·obtain⟨_,dn,rfl,h,_⟩:=z;rw[lO];exact h
 ·obtain⟨rfl,dn,rfl,ld,md⟩:=z;have hi:i<(av ps).length:=(Be.mp hv).1;obtain⟨x,ex,rfl⟩:=eR hv;refine⟨_,rfl,.inr (txt x),rfl,?_⟩;unfold tC;refine NxD.mk hi ⟨rfl,?_⟩;have e1:∀z,z∈ps.take (i+1)↔z∈dn\/z=x:=fun z=>by rw[dB ex,Bb,Bg,md]
  by_cases hxd:x∈dn
  ·exact⟨dn,oS hxd,by lia,fun z=>by rw[e1];exact⟨.inl,fun h=>h.elim id fun h=>h▸hxd⟩⟩
  ·exact⟨dn++[x],ny hxd,by rw[Ba];exact Ew ld,fun z=>by rw[e1,Bb,Bg]⟩
 obtain⟨rfl,dn,rfl,ld,md⟩:=z;rw[el] at ld;rw[el,BX] at md;intro D0 nD;have S3:=af nD (.dK (dnK dn));have gD:upd H' D0 (.dK (dnK dn)) D0=some (.dK (dnK dn)):=ae;have nD0:H D0=none:=eQ S12 nD;have gW3:=S3 _ _ gW2;have SA:=S12.trans S3;generalize upd H' D0 (.dK (dnK dn))=H3 at S3 gD gW3 SA ⊢;refine⟨_,rfl,W0,ws,rfl,gW3,hw,fun A0 zs H4 S4 nA gA lA mA=>⟨A0,rfl,⟨_,SqL.of gA⟩,?_⟩⟩;have gD4:=S4 _ _ gD;have gW4:=S4 _ _ gW3;have SB:=SA.trans S4;have ez:=bp zs;refine cq (K:=K) (a:=A0) (xs:=av zs) (fun i ys H'=>H'=H4/\ys=((zs.take i).map fun x=>decide (x∈dn)).map V.bl) ⟨rfl,rfl⟩ (fun i ys H' hi z=>by rw[z.2,AX,AX,Bq];lia) (ar (by lia)) (fun i ys H' hi z=>by rw[z.1];exact SqL.of gA) (fun i v ys H' hv z=>?_) (fun ys H' z p hp=>?_)
 ·obtain⟨rfl,rfl⟩:=z;have hi:i<(av zs).length:=(Be.mp hv).1;obtain⟨x,ex,rfl⟩:=eR hv;refine⟨_,rfl,_,rfl,D0,_,rfl,Hh.k (k:=.inr (txt x)) gD4,Nx.mk hi ⟨rfl,?_⟩⟩;rw[iE];exact gK (fun x=>decide (x∈dn)) ex
 obtain⟨rfl,rfl⟩:=z;rw[ez,BX];have S5:=af hp (.lst ((zs.map fun x=>decide (x∈dn)).map V.bl));have gp:upd H' p (.lst ((zs.map fun x=>decide (x∈dn)).map V.bl)) p=some (.lst ((zs.map fun x=>decide (x∈dn)).map V.bl)):=ae;have gD5:=S5 _ _ gD4;have gW5:=S5 _ _ gW4;have SC:=SB.trans S5;generalize upd H' p (.lst ((zs.map fun x=>decide (x∈dn)).map V.bl))=H5 at S5 gp gD5 gW5 SC ⊢;refine⟨p,_,rfl,SqL.of gp,_,rfl,?_⟩;have ai:=lZ zs fun x=>decide (x∈dn);generalize ((zs.map fun x=>decide (x∈dn)).all id)=c at ai ⊢;cases c with
 |false=>exact q _ H5 SC
 |true=>
 refine⟨_,rfl,D0,dnK dn,rfl,gD5,fun o=>?_⟩;have SD:EJ H (upd H5 D0 (.frz o (.dK (dnK dn)))):=fun b u e=>by rw[ao (az e nD0)];exact SC _ _ e
 have gD6:upd H5 D0 (.frz o (.dK (dnK dn))) D0=some (.frz o (.dK (dnK dn))):=ae;have gW6:upd H5 D0 (.frz o (.dK (dnK dn))) W0=some (.lst (av ws)):=by rw[ao (bZ gW5 gD5 (fun z=>nomatch z))];exact gW5
 generalize upd H5 D0 (.frz o (.dK (dnK dn)))=H6 at SD gD6 gW6 ⊢;have ek:=lO dn;refine tU (qM dn) (fun i ys H'=>EJ H6 H'/\∃bs,ys=bs.map V.bl/\bs.length<=16*i) ⟨EJ.refl _,[],rfl,AW _⟩ (fun i ys H' hi z=>?_) (fun i ys H' hi z=>z.1 _ _ gD6) (fun i z v ys H' hv hz=>?_) (fun ys H' z p hp=>?_)
 ·obtain⟨_,bs,rfl,h⟩:=z;exact ar (by rw[AX];lia)
 ·obtain⟨S7,bs,rfl,lb⟩:=hz;have hi:i<(dnK dn).length:=(Be.mp hv).1;obtain⟨x,ex,rfl⟩:=sU hv;have hxl:=hx x ((md x).mp (Bp ex));refine⟨_,rfl,_,rfl,W0,ws,x,rfl,S7 _ _ gW6,hw,hxl,fun B zs2 H8 S8 gB lz mz=>⟨B,rfl,⟨_,SqL.of gB⟩,?_⟩⟩;have e2:=bp zs2;have S78:=S7.trans S8;refine uy (K:=K) (a:=B) (xs:=av zs2) (fun j σ ys H'=>H'=H8/\(∃e1,σ=[some (.str (txt x)),e1,some (.ref W0),some (.ref D0)])/\∃bs',ys=bs'.map V.bl/\bs'.length<=16*i+j) ⟨rfl,⟨_,rfl⟩,bs,rfl,by lia⟩ (fun j σ ys H' hj z=>?_) (fun j σ ys H' hj z=>by rw[z.1];exact SqL.of gB) (fun j σ ys H' v hv z=>?_) (fun σ ys H' z=>?_)
  ·obtain⟨_,_,bs',rfl,h⟩:=z;exact Bc (show(bs'.map V.bl).length<1000000 by rw[AX];lia) (ar (AW _))
  ·obtain⟨rfl,⟨e1,rfl⟩,bs',rfl,lb'⟩:=z;have hj:j<(av zs2).length:=(Be.mp hv).1;obtain⟨y,ey,rfl⟩:=eR hv;refine⟨_,rfl,_,rfl,D0,_,rfl,.inl ⟨_,.inr (txt y),.inr ⟨o,S78 _ _ gD6⟩,rfl,rfl⟩,NxV.mk hj ⟨rfl,⟨_,rfl⟩,bs'++[decide (y∈dn)],?_,by rw[Ba];show bs'.length+1<=_;lia⟩⟩;rw[iE,ph]
  ·obtain⟨rfl,_,bs',rfl,lb'⟩:=z;exact Nx.mk hi ⟨S78,bs',rfl,by lia⟩
 obtain⟨S7,bs,rfl,lb⟩:=z;exact⟨p,bs,rfl,SqL.of ae,q _ _ (SD.trans (S7.trans (af hp _)))⟩
theorem Iz:EG ["makers","others","words","other_words","first"] ["makers","others"] (ak (top 53)):=by walk_at "s"
theorem sf{dm dn d:DD}{C:Addr}(wA:Def K mg "maker_words" (top 27) ["makers"] dm)(wC:EK P w K mg base (CXe P w) 5 dm.f dm.fd ["makers"] (cS C))(yT:(dg "needed_of" 51 ["words"] dn 4 JA))(D:Def K mg "same" (top 53) ["makers","others"] d)(wH:mg "sorted"=none):EK P w K mg base (CXe P w) 6 d.f d.fd ["makers","others"] (vP C):=by
 refine D.fn.okE Iz (fun vs H Q E h=>?_) (fun cdv A outer s H vs Q E hr h=>?_)
 ·obtain⟨l,us,ts,m,us2,ts2,rfl,_⟩:=h;rfl
 obtain⟨l,us,ts,m,us2,ts2,rfl,M,M2,qG,qB,qB2⟩:=h;have hc:=hr.calm;have nd:=Iz.nd;refine⟨_,(ah (aw 2 (Or.inr rfl) (aN (wC.mono (by decide)) wA.m wA.fn.kp wA.b bq (aA (0) ay))) (ah (aw 3 (Or.inr rfl) (aN (wC.mono (by decide)) wA.m wA.fn.kp wA.b bq (aA (1) ay))) (ah (aw 4 (Or.inl rfl) (aE Gn wH FT (aA (bo (aq (ts:=["number"]) (cap:=["words"]) (js:=[2]) rfl rfl rfl rfl rfl rfl (by decide +kernel)) (aZ (bW yT.1 yT.2 (2) ay)) (au 0 (nd ["number","words"]) (.inr rfl)) (@aX _) (aP (show IxR _ (fo K) from EI) (1) (0))) (by rfl)))) (aj (aF (ck (sE hr.units) (4) (aE Gn wH FT (aA (bo (aq (ts:=["number"]) (cap:=["other_words"]) (js:=[3]) rfl rfl rfl rfl rfl rfl (by decide +kernel)) (aZ (bW yT.1 yT.2 (3) ay)) (au 0 (nd ["number","other_words"]) (.inr rfl)) (@aX _) (aP (show IxR _ (fo K) from EI) (1) (0))) (by rfl))) (aI _))))))),?_⟩
 walk_at "d"
 refine⟨_,rfl,l,us,ts,rfl,M,fun ws hw1 ew p1 H1 S1 g1=>?_,qB⟩;refine⟨_,rfl,m,us2,ts2,rfl,M2.same S1,fun os hw2 eo p2 H2' S2 g2=>?_,fun b H2 S2=>qB2 b H2 (S1.trans S2)⟩;have g1':=S2 _ _ g1;refine⟨_,rfl,p1,ws,rfl,g1',hw1.ok,fun pn1 Hn1 Sn1 nn1 gn1=>?_⟩;refine⟨pn1,rfl,⟨_,SqL.of gn1⟩,?_⟩;have ln1:(nvs (nIx ws)).length<=8:=by
  rw[AX];have:=jo ws;have:=hw1.n8;lia
 refine cq (K:=K) (a:=pn1) (xs:=nvs (nIx ws)) (fun k ys H2=>H2=Hn1/\ys.length<=k/\ys=av (((nIx ws).take k).map fun j=>ws.getD j [])) ⟨rfl,AW _,rfl⟩ (fun k ys H2 hk z=>z.2.1) (ar (by lia)) (fun k ys H2 hk z=>by rw[z.1];exact SqL.of gn1) (fun k v ys H2 hv z=>?_) (fun ys H2 z pc1 hpc1=>?_)
 ·obtain⟨rfl,z2,rfl⟩:=z;have hk:k<(nvs (nIx ws)).length:=(Be.mp hv).1;have hk':k<(nIx ws).length:=by rwa [AX] at hk
  have ev:v=.int (((nIx ws)[k]:Nat):Int):=by
   rw[Br,Bf hk'] at hv;exact(Eh hv).symm
  subst ev;have hj:=mf (BE hk');refine⟨_,rfl,_,rfl,p1,_,_,_,rfl,rfl,SqL.of (Sn1 _ _ g1'),fj hj,Nx.mk hk ⟨rfl,by rw[Ba];exact Ew z2,?_⟩⟩;rw[eS hk',Bk,<- jG hj];exact(iu _ _).symm
 obtain⟨rfl,z2,rfl⟩:=z;rw[show(nIx ws).take (nvs (nIx ws)).length=nIx ws from Bs (by rw[AX];exact AW _),show(nIx ws).map (fun j=>ws.getD j [])=nW ws from rfl];have lw1:(nW ws).length<=8:=Bm (qF _) hw1.n8;have Sc1:=af hpc1 (.lst (av (nW ws)));refine⟨pc1,rn (nW ws),rfl,SqL.of (by rw[<- ef];exact ae),by rw[AX];lia,fun ps1 zs1 pz1 sz1 hps1=>?_⟩;have Ss1:=Sn1.trans (Sc1.trans (af hps1 (.lst (zs1.map V.str))));have gs1:upd (upd H2 pc1 (.lst (av (nW ws)))) ps1 (.lst (zs1.map V.str)) ps1=some (.lst (zs1.map V.str)):=ae;have g2':=Ss1 _ _ g2;generalize upd (upd H2 pc1 (.lst (av (nW ws)))) ps1 (.lst (zs1.map V.str))=H5 at Ss1 gs1 g2';refine⟨_,rfl,?_⟩;refine⟨_,rfl,p2,os,rfl,g2',hw2.ok,fun pn2 Hn2 Sn2 nn2 gn2=>?_⟩;refine⟨pn2,rfl,⟨_,SqL.of gn2⟩,?_⟩;have ln2:(nvs (nIx os)).length<=8:=by
  rw[AX];have:=jo os;have:=hw2.n8;lia
 refine cq (K:=K) (a:=pn2) (xs:=nvs (nIx os)) (fun k ys H2=>H2=Hn2/\ys.length<=k/\ys=av (((nIx os).take k).map fun j=>os.getD j [])) ⟨rfl,AW _,rfl⟩ (fun k ys H2 hk z=>z.2.1) (ar (by lia)) (fun k ys H2 hk z=>by rw[z.1];exact SqL.of gn2) (fun k v ys H2 hv z=>?_) (fun ys H2 z pc2 hpc2=>?_)
 ·obtain⟨rfl,z2,rfl⟩:=z;have hk:k<(nvs (nIx os)).length:=(Be.mp hv).1;have hk':k<(nIx os).length:=by rwa [AX] at hk
  have ev:v=.int (((nIx os)[k]:Nat):Int):=by
   rw[Br,Bf hk'] at hv;exact(Eh hv).symm
  subst ev;have hj:=mf (BE hk');refine⟨_,rfl,_,rfl,p2,_,_,_,rfl,rfl,SqL.of (Sn2 _ _ g2'),fj hj,Nx.mk hk ⟨rfl,by rw[Ba];exact Ew z2,?_⟩⟩;rw[eS hk',Bk,<- jG hj];exact(iu _ _).symm
 obtain⟨rfl,z2,rfl⟩:=z;rw[show(nIx os).take (nvs (nIx os)).length=nIx os from Bs (by rw[AX];exact AW _),show(nIx os).map (fun j=>os.getD j [])=nW os from rfl];have lw2:(nW os).length<=8:=Bm (qF _) hw2.n8;have Sc2:=af hpc2 (.lst (av (nW os)));refine⟨pc2,rn (nW os),rfl,SqL.of (by rw[<- ef];exact ae),by rw[AX];lia,fun ps2 zs2 pz2 sz2 hps2=>?_⟩;have Ss2:=Sn2.trans (Sc2.trans (af hps2 (.lst (zs2.map V.str))));refine⟨_,_,.lst (SqL.of (Ss2 _ _ gs1)) (DatAll.strs _),.lst (SqL.of ae) (DatAll.strs _),jL pz1 (fun cs h=>hw1.lr cs (qA hw1.ok h)),jL pz2 (fun cs h=>hw2.lr cs (qA hw2.ok h)),da _,?_⟩;exact qG ws os hw1 ew hw2 eo _ _ (S1.trans (S2.trans (Ss1.trans Ss2)))
structure LF(mg:Str->Option Value)(cl:List Addr):Prop where
 zW:mg "NoBack"=some (.ref (cl.getD 0 0))
 zL:mg "NoCount"=some (.ref (cl.getD 1 0))
 wB:mg "NoMakers"=some (.ref (cl.getD 2 0))
 zY:mg "NoName"=some (.ref (cl.getD 3 0))
 wJ:mg "NoPlain"=some (.ref (cl.getD 4 0))
 AJ:mg "NoRow"=some (.ref (cl.getD 5 0))
 zZ:mg "NoText"=some (.ref (cl.getD 6 0))
 Aa:mg "NoWide"=some (.ref (cl.getD 7 0))
 Ab:mg "NoWord"=some (.ref (cl.getD 8 0))
 wK:mg "TooLong"=some (.ref (cl.getD 9 0))
 zX:mg "NoMill"=some (.ref (cl.getD 10 0))
 wm:mg "isinstance"=none
 wq:mg "range"=none
 wI:mg "ValueError"=none
def pk:List Str->List Bool->List Str
 |n::ns,true::bs=>n::pk ns bs
 |_::ns,false::bs=>pk ns bs
 |_,_=>[]
theorem jz(n:Str)(b:Bool):∀(ns:List Str)(bs:List Bool),ns.length=bs.length->pk (ns++[n]) (bs++[b])=pk ns bs++(if b=true then [n] else [])
 |[],[],_=>by cases b<;>rfl
 |x::ns,true::bs,h=>by show x::pk (ns++[n]) (bs++[b])=_;rw[jz n b ns bs (by simpa using h)];rfl
 |x::ns,false::bs,h=>by show pk (ns++[n]) (bs++[b])=_;rw[jz n b ns bs (by simpa using h)];rfl
 |[],_::_,h=>by cases h
 |_::_,[],h=>by cases h
theorem HC:∀(ns:List Str)(bs:List Bool),((pk ns bs).map (·.length)).sum<=(ns.map (·.length)).sum/\(pk ns bs).length<=ns.length
 |[],bs=>by cases bs<;>exact⟨AW _,AW _⟩
 |x::ns,[]=>⟨Bo _,Bo _⟩
 |x::ns,true::bs=>by
  have:=HC ns bs;show(x.length+((pk ns bs).map (·.length)).sum)<=x.length+(ns.map (·.length)).sum/\(pk ns bs).length+1<=ns.length+1;lia
 |x::ns,false::bs=>by
  have:=HC ns bs;show((pk ns bs).map (·.length)).sum<=x.length+(ns.map (·.length)).sum/\(pk ns bs).length<=ns.length+1;lia
abbrev EZ:List Str:=["NoBack","NoCount","NoMakers","NoName","NoPlain","NoRow","NoText","NoWide","NoWord","TooLong","NoMill","+"]
def ql (K:W.Frag)(cl:List Addr):Addr->List V->Hp->VK->Prop:=fun x vs H Q=>∃C b0 b1 b2 b3 b4 b5 b6 b7 b8 b9 b10 b11,vs=[.ref x]/\H x=some (qY x (.ref C))/\JU K C /\
 W.kitOne K (.ref C) (.ref (cl.getD 0 0))=some b0/\W.kitOne K (.ref C) (.ref (cl.getD 1 0))=some b1/\W.kitOne K (.ref C) (.ref (cl.getD 2 0))=some b2/\W.kitOne K (.ref C) (.ref (cl.getD 3 0))=some b3/\W.kitOne K (.ref C) (.ref (cl.getD 4 0))=some b4/\W.kitOne K (.ref C) (.ref (cl.getD 5 0))=some b5/\W.kitOne K (.ref C) (.ref (cl.getD 6 0))=some b6/\W.kitOne K (.ref C) (.ref (cl.getD 7 0))=some b7/\W.kitOne K (.ref C) (.ref (cl.getD 8 0))=some b8/\W.kitOne K (.ref C) (.ref (cl.getD 9 0))=some b9/\W.kitOne K (.ref C) (.ref (cl.getD 10 0))=some b10/\W.kitOne K (.ref C) (.type "ValueError")=some b11/\∀H',EJ H H'->Q (.str (Txt.join "" (pk EZ [b0,b1,b2,b3,b4,b5,b6,b7,b8,b9,b10,b11]))) H'
theorem nG{x C p4 p7:Addr}{H Hc:Hp}{Q:VK}{b0 b1 b2 b3 b4 b5 b6 b7 b8 b9 b10 b11:Bool}(hx:H x=some (qY x (.ref C)))(x8:Hc x=some (qY x (.ref C)))(gB:Hc p4=some (.lst ([b0,b1,b2,b3,b4,b5,b6,b7,b8,b9,b10,b11].map V.bl)))(gN:Hc p7=some (.lst (EZ.map V.str)))
  (all:EJ H Hc)(q:∀H',EJ H H'->Q (.str (Txt.join "" (pk EZ [b0,b1,b2,b3,b4,b5,b6,b7,b8,b9,b10,b11]))) H') :
  gw (Itx x (.ref C) 12) 1 [1,2] (lY 0) (tB (tOp (fo K) (rm 1) (rm 0))) (tOp (fo K) (rm 2) (rm 0)) [some (.ref x),some (.ref p4),some (.ref p7)] Hc (fun v H1=>ID [some (.ref x),some (.ref p4),some (.ref p7)] H1 fun xs H2=>rY K (.str "") (v::xs) H2 Q):=by
 generalize hbs:[b0,b1,b2,b3,b4,b5,b6,b7,b8,b9,b10,b11]=bs at gB q;have lb:bs.length=12:=by rw[<- hbs];rfl
 refine dX (n:=12) (fun i ys H'=>H'=Hc/\ys=(pk (EZ.take i) (bs.take i)).map V.str) ⟨rfl,rfl⟩ (fun i ys H' hi z=>?_) (ar (by decide)) (fun i ys H' hi z=>hi) (fun ys H' z=>⟨AW _,by rw[z.1];exact x8⟩) (fun i ys H' v H'' hi z y=>?_) (fun ys H' z p hp=>?_)
 ·rw[z.2,AX];have:=(HC (EZ.take i) (bs.take i)).2;rw[Bq] at this;lia
 ·obtain⟨rfl,rfl⟩:=z;obtain⟨rfl,rfl⟩:=y;have hib:i<bs.length:=by lia
  have hin:i<EZ.length:=hi;have ab:atI (bs.map V.bl) (i:Int)=some (.bl bs[i]):=bD (by rw[Br,Bf hib];rfl);have an:atI (EZ.map V.str) (i:Int)=some (.str EZ[i]):=bD (by rw[Br,Bf hin];rfl);have sn:pk (EZ.take (i+1)) (bs.take (i+1))=pk (EZ.take i) (bs.take i)++(if bs[i]=true then [EZ[i]] else []):=by
   rw[Bz,Bz,Bf hib,Bf hin];exact jz _ _ _ _ (by rw[Bq,Bq];lia)
  refine⟨_,rfl,_,rfl,p4,_,_,_,rfl,rfl,SqL.of gB,ab,_,rfl,qO (fun hb=>?_) (fun hb=>?_)⟩
  ·refine⟨_,rfl,_,rfl,p7,_,_,_,rfl,rfl,SqL.of gN,an,Nx.mk hi ⟨rfl,?_⟩⟩;rw[sn,DZ hb,Bk];rfl
  ·refine Nx.mk hi ⟨rfl,?_⟩;rw[sn,DY hb,BD]
 ·obtain⟨rfl,rfl⟩:=z;refine⟨"",p,pk EZ bs,rfl,rfl,?_,?_,q _ (all.trans (af hp _))⟩
  ·have e1:EZ.take 12=EZ:=rfl;have e2:bs.take 12=bs:=Bs (by lia);rw[e1,e2];exact SqL.of ae
  ·have:=(HC EZ bs).1;have z:(EZ.map (·.length)).sum<=100:=by decide +kernel
   have z2:("":Str).length=0:=rfl;rw[z2];lia
theorem Ib:EG ["e","some","names"] ["e"] (ak (top 55)):=by walk_at "s"
theorem sd{d:DD}{cl:List Addr}(M:LF mg cl)(D:Def K mg "_law_kind" (top 55) ["e"] d):FnX P w K mg base 1 d.f d.fd ["e"] (ql K cl):=by
 refine D.fn.okX Ib (fun x vs H Q h=>?_) (fun x cdv A outer s H vs Q hr h=>?_)
 ·obtain⟨C,b0,b1,b2,b3,b4,b5,b6,b7,b8,b9,b10,b11,rfl,_⟩:=h;rfl
 obtain⟨C,b0,b1,b2,b3,b4,b5,b6,b7,b8,b9,b10,b11,rfl,hx,Z,e0,e1,e2,e3,e4,e5,e6,e7,e8,e9,e10,e11,q⟩:=h;have nd:=Ib.nd;refine⟨_,(ah (aw 1 (Or.inr rfl) (aV (EF (aE bC M.wm EH (EF (0) (aA (bA (.ref (cl.getD 0 0)) (M.zW) rfl) ay) ay)) (EF (aE bC M.wm EH (EF (0) (aA (bA (.ref (cl.getD 1 0)) (M.zL) rfl) ay) ay)) (EF (aE bC M.wm EH (EF (0) (aA (bA (.ref (cl.getD 2 0)) (M.wB) rfl) ay) ay)) (aA (aE bC M.wm EH (EF (0) (aA (bA (.ref (cl.getD 3 0)) (M.zY) rfl) ay) ay)) cQ) cQ) cQ) cQ))) (ah (aw 1 (Or.inr rfl) (aC FG (1) (aV (EF (aE bC M.wm EH (EF (0) (aA (bA (.ref (cl.getD 4 0)) (M.wJ) rfl) ay) ay)) (EF (aE bC M.wm EH (EF (0) (aA (bA (.ref (cl.getD 5 0)) (M.AJ) rfl) ay) ay)) (EF (aE bC M.wm EH (EF (0) (aA (bA (.ref (cl.getD 6 0)) (M.zZ) rfl) ay) ay)) (aA (aE bC M.wm EH (EF (0) (aA (bA (.ref (cl.getD 7 0)) (M.Aa) rfl) ay) ay)) cQ) cQ) cQ) cQ)))) (ah (aw 1 (Or.inr rfl) (aC FG (1) (aV (EF (aE bC M.wm EH (EF (0) (aA (bA (.ref (cl.getD 8 0)) (M.Ab) rfl) ay) ay)) (EF (aE bC M.wm EH (EF (0) (aA (bA (.ref (cl.getD 9 0)) (M.wK) rfl) ay) ay)) (EF (aE bC M.wm EH (EF (0) (aA (bA (.ref (cl.getD 10 0)) (M.zX) rfl) ay) ay)) (aA (aE bC M.wm EH (EF (0) (aA (cX (.ty "ValueError") M.wI Gx) ay) ay)) cQ) cQ) cQ) cQ)))) (ah (aw 2 (Or.inr rfl) (aV (@my _ _ (["NoBack","NoCount","NoMakers","NoName","NoPlain","NoRow","NoText","NoWide","NoWord","TooLong"]) rfl))) (ah (aw 2 (Or.inr rfl) (aC FG (2) (aV (EF (aQ _) (aA (aQ _) aL) aL)))) (aj (aF (jB (oV hr.hd (aq (ts:=["k"]) (cap:=["some","names"]) (js:=[1,2]) rfl rfl rfl rfl rfl rfl (by decide +kernel)) M.wq (aA (ag _) aL) (au 0 (nd ["k","some","names"]) (.inr rfl)) (@bY _ _ _ (cb (aP (show IxR _ (fo K) from EI) (1) (0)))) (aP (show IxR _ (fo K) from EI) (2) (0))) (by rfl))))))))),?_⟩
 walk_at "d"
 refine⟨_,rfl,x,_,C,_,b0,rfl,rfl,hx,Z,e0,_,rfl,x,_,C,_,b1,rfl,rfl,hx,Z,e1,_,rfl,x,_,C,_,b2,rfl,rfl,hx,Z,e2,_,rfl,x,_,C,_,b3,rfl,rfl,hx,Z,e3,ar (by show 4<=1000000;decide),fun p0 hp0=>?_⟩;have T1:=af hp0 (.lst [.bl b0,.bl b1,.bl b2,.bl b3]);have x1:=T1 _ _ hx;refine⟨_,rfl,_,rfl,x,_,C,_,b4,rfl,rfl,x1,Z,e4,_,rfl,x,_,C,_,b5,rfl,rfl,x1,Z,e5,_,rfl,x,_,C,_,b6,rfl,rfl,x1,Z,e6,_,rfl,x,_,C,_,b7,rfl,rfl,x1,Z,e7,ar (by show 4<=1000000;decide),fun p1 hp1=>?_⟩;have T2:=af hp1 (.lst [.bl b4,.bl b5,.bl b6,.bl b7]);refine⟨p0,p1,_,_,rfl,rfl,T2 _ _ ae,ae,ar (by show 8<=1000000;decide),fun p2 hp2=>?_⟩;have T3:=af hp2 (.lst ([.bl b0,.bl b1,.bl b2,.bl b3]++[.bl b4,.bl b5,.bl b6,.bl b7]));have x3:=T3 _ _ (T2 _ _ x1);refine⟨_,rfl,_,rfl,x,_,C,_,b8,rfl,rfl,x3,Z,e8,_,rfl,x,_,C,_,b9,rfl,rfl,x3,Z,e9,_,rfl,x,_,C,_,b10,rfl,rfl,x3,Z,e10,_,rfl,x,_,C,_,b11,rfl,rfl,x3,Z,e11,ar (by show 4<=1000000;decide),fun p3 hp3=>?_⟩;have T4:=af hp3 (.lst [.bl b8,.bl b9,.bl b10,.bl b11]);refine⟨p2,p3,_,_,rfl,rfl,T4 _ _ ae,ae,ar (by show 12<=1000000;decide),fun p4 hp4=>?_⟩;have T5:=af hp4 (.lst (([.bl b0,.bl b1,.bl b2,.bl b3]++[.bl b4,.bl b5,.bl b6,.bl b7])++[.bl b8,.bl b9,.bl b10,.bl b11]));refine⟨ar (by show 10<=1000000;decide),fun p5 hp5=>?_⟩;have T6:=af hp5 (.lst ((EZ.take 10).map V.str));refine⟨_,rfl,ar (by show 2<=1000000;decide),fun p6 hp6=>?_⟩;have T7:=af hp6 (.lst [.str "NoMill",.str "+"]);refine⟨p5,p6,_,_,rfl,rfl,T7 _ _ ae,ae,ar (by show 12<=1000000;decide),fun p7 hp7=>?_⟩;have T8:=af hp7 (.lst ((EZ.take 10).map V.str++[.str "NoMill",.str "+"]));have x8:=T8 _ _ (T7 _ _ (T6 _ _ (T5 _ _ (T4 _ _ x3))));have all:=T1.trans (T2.trans (T3.trans (T4.trans (T5.trans (T6.trans (T7.trans T8))))));have gB:=T8 _ _ (T7 _ _ (T6 _ _ (ae (H:=_) (a:=p4) (o:=.lst (([.bl b0,.bl b1,.bl b2,.bl b3]++[.bl b4,.bl b5,.bl b6,.bl b7])++[.bl b8,.bl b9,.bl b10,.bl b11])))));refine⟨rfl,12,.ref C,rfl,by decide,by decide,?_⟩;exact nG hx x8 gB ae all q
open KM
structure JV(K:W.Frag)(cl:List Addr)(qe C:Addr)(j:Nat):Prop where
 kx:W.excIn K C HR "ValueError.__new__"=true
 sub:subIn K C qe=true
 ex:JU K C
 o0:W.kitOne K (.ref C) (.ref (cl.getD 0 0))=some (decide (j=0))
 o1:W.kitOne K (.ref C) (.ref (cl.getD 1 0))=some (decide (j=1))
 o2:W.kitOne K (.ref C) (.ref (cl.getD 2 0))=some (decide (j=2))
 o3:W.kitOne K (.ref C) (.ref (cl.getD 3 0))=some (decide (j=3))
 o4:W.kitOne K (.ref C) (.ref (cl.getD 4 0))=some (decide (j=4))
 o5:W.kitOne K (.ref C) (.ref (cl.getD 5 0))=some (decide (j=5))
 o6:W.kitOne K (.ref C) (.ref (cl.getD 6 0))=some (decide (j=6))
 o7:W.kitOne K (.ref C) (.ref (cl.getD 7 0))=some (decide (j=7))
 o8:W.kitOne K (.ref C) (.ref (cl.getD 8 0))=some (decide (j=8))
 o9:W.kitOne K (.ref C) (.ref (cl.getD 9 0))=some (decide (j=9))
 o10:W.kitOne K (.ref C) (.ref (cl.getD 10 0))=some (decide (j=10))
 o11:W.kitOne K (.ref C) (.type "ValueError")=some true
theorem FW:Txt.join "" (pk EZ [false,false,true,false,false,false,false,false,false,false,false,true])="NoMakers+":=by decide +kernel
theorem Gg:Txt.join "" (pk EZ [false,false,false,false,true,false,false,false,false,false,false,true])="NoPlain+":=by decide +kernel
theorem Ge:Txt.join "" (pk EZ [false,false,false,false,false,false,false,false,false,true,false,true])="TooLong+":=by decide +kernel
def Ans (d:Nat)(ts:List Tb)(t:Tb)(z:Str):Prop:=(Bad ts/\z="NoMakers+")\/∃ws,Wds ws/\ts=ws.map wt/\((3<=d/\z="")\/(d<3/\((z=""/\∃cs,(∀c∈cs,Fs c)/\wt cs=t/\cs.length<=400)\/(z="TooLong+"/\∃cs,(∀c∈cs,Fs c)/\wt cs=t/\400<cs.length)\/(z="NoPlain+"/\¬Plain t))))
def sT (T:Addr):Sp:=fun vs H Q _=>∃d l us ts v t,vs=[.int ((d:Nat):Int),.ref l,v]/\d<9/\GI H l us ts/\T4o H v t/\Bd 1000 t/\Fq GJ GQ T H/\∀z H',Ans d ts t z->SmB T H H'->Fq GJ GQ T H'->Q (.str z) H'
theorem KO:Wds [[114]]:=⟨by decide,by decide,fun cs h c hc=>by rw[Bg.mp h] at hc;rw[Bg.mp hc];exact .inr rfl,fun cs h=>by rw[Bg.mp h];decide,fun cs h=>by rw[Bg.mp h];decide⟩
theorem two{H:Hp}{p q:Addr}(np:H p=none)(nq:upd H p (.tup [.int 1,.int 1,.int 0,.int 1]) q=none):EJ H (upd (upd H p (.tup [.int 1,.int 1,.int 0,.int 1])) q (.lst [.ref p]))/\GI (upd (upd H p (.tup [.int 1,.int 1,.int 0,.int 1])) q (.lst [.ref p])) q [.ref p] ([[114]].map wt):=by
 have S:=af nq (.lst [.ref p]);refine⟨(af np _).trans S,ae,.cons ⟨p,rfl,S _ _ ae⟩ .nil,fun t ht=>?_,(by show 1<=100;decide)⟩;rw[Bg.mp ht];exact(oh (cs:=[114]) (fun c hc=>by rw[Bg.mp hc];exact .inr rfl)).mono (by decide)
theorem uq{d_lr d_mr d_rd d_twn d_lo d_lb d_ned d_same dk d:DD}{T qe C C1 C2:Addr}{cl:List Addr}(xb:mg "QuadError"=some (.ref qe))(k_QuadError:W.excIn K qe HR "ValueError.__new__"=true)(E0:JV K cl qe C 2)(E1:JV K cl qe C1 4)(E2:JV K cl qe C2 9)(D_lr:Def K mg "least_row" (top 33) ["makers","table"] d_lr)(G_lr:EK P w K mg base (CXe P w) 6 d_lr.f d_lr.fd ["makers","table"] (sj C C1 C2))(D_mr:Def K mg "many_rows" (top 34) ["makers","table"] d_mr)(G_mr:EK P w K mg base (CXe P w) 6 d_mr.f d_mr.fd ["makers","table"] (sj C C1 C2))(D_rd:Def K mg "reached" (top 35) ["makers","table"] d_rd)(G_rd:EK P w K mg base (CXe P w) 6 d_rd.f d_rd.fd ["makers","table"] (sj C C1 C2))(zu:Def K mg "twins" (top 49) ["makers"] d_twn)(Ak:EK P w K mg base (CXe P w) 6 d_twn.f d_twn.fd ["makers"] (sq T C))(D_lo:Def K mg "leftovers" (top 42) ["makers"] d_lo)(G_lo:EK P w K mg base (CXe P w) 6 d_lo.f d_lo.fd ["makers"] (sq T C))(D_lb:Def K mg "let_by" (top 44) ["makers","texts"] d_lb)(G_lb:EK P w K mg base (CXe P w) 6 d_lb.f d_lb.fd ["makers","texts"] (vZ C))(zt:Def K mg "needed" (top 52) ["makers"] d_ned)(Aj:EK P w K mg base (CXe P w) 6 d_ned.f d_ned.fd ["makers"] (sq T C))(xD:Def K mg "same" (top 53) ["makers","others"] d_same)(zq:EK P w K mg base (CXe P w) 6 d_same.f d_same.fd ["makers","others"] (vP C))(yF:Def K mg "_law_kind" (top 55) ["e"] dk)(zC:FnX P w K mg base 1 dk.f dk.fd ["e"] (ql K cl))(D:Def K mg "_law_asked" (top 64) ["door","makers","table"] d):(fk 7 d ["door","makers","table"] (sT T)):=by
 exists["door","makers","table","kind","e"]
 obtain⟨d,l,us,ts,v,t,rfl,hd,M,h4,hb,hT,q⟩:=h;refine⟨_,(ah (aw 3 (Or.inl rfl) (aQ _)) (ah (sH 4 xb k_QuadError (fun _ _=>(aj (br (aG Fn (0) (ag _) (aI _)) (aj (bg (aN (G_lr.mono (by decide)) D_lr.m D_lr.fn.kp D_lr.b bX (EF (1) (aA (2) ay) ay)))) (aj (br (aG Fn (0) (ag _) (aI _)) (aj (bg (aN (G_mr.mono (by decide)) D_mr.m D_mr.fn.kp D_mr.b bX (EF (1) (aA (2) ay) ay)))) (aj (br (aG Fn (0) (ag _) (aI _)) (aj (bg (aN (G_rd.mono (by decide)) D_rd.m D_rd.fn.kp D_rd.b bX (EF (1) (aA (2) ay) ay)))) (aj (br (aG Fn (0) (ag _) (aI _)) (aj (bg (aN (Ak.mono (by decide)) zu.m zu.fn.kp zu.b bX (aA (1) ay)))) (aj (br (aG Fn (0) (ag _) (aI _)) (aj (bg (aN (G_lo.mono (by decide)) D_lo.m D_lo.fn.kp D_lo.b bX (aA (1) ay)))) (aj (br (aG Fn (0) (ag _) (aI _)) (aj (bg (aN (G_lb.mono (by decide)) D_lb.m D_lb.fn.kp D_lb.b bX (EF (1) (aA (aV (aA (aQ _) aL)) (by rfl)) ay)))) (aj (br (aG Fn (0) (ag _) (aI _)) (aj (bg (aN (Aj.mono (by decide)) zt.m zt.fn.kp zt.b bX (aA (1) ay)))) (aj (br (aG Fn (0) (ag _) (aI _)) (aj (bg (aN (zq.mono (by decide)) xD.m xD.fn.kp xD.b bX (EF (1) (aA (aV (aA (aO (EF (ag _) (EF (ag _) (EF (ag _) (aA (ag _) aL) aL) aL) aL)) (by rfl))) (by rfl)) ay)))) (aj (bg (aN (zq.mono (by decide)) xD.m xD.fn.kp xD.b bX (EF (aV (aA (aO (EF (ag _) (EF (ag _) (EF (ag _) (aA (ag _) aL) aL) aL) aL)) (by rfl))) (aA (1) ay) (by rfl)))))))))))))))))))))) (fun _=>(aj (aw 3 (Or.inl rfl) (pW zC (FC.hand (hr.mono (by decide)) _) yF.m yF.fn.kp yF.b (aA (4) ay)))))) (aj (aF (3))))),?_⟩
 walk_at "d"
 have fin:∀H',Ans d ts t ""->SmB T H H'->Fq GJ GQ T H'->Q (.str "") H':=fun H' a S L=>q _ H' a S L;have fB:Bad ts->∀H',EJ H H'->((Value.ref C=.ref C/\Ans d ts t "NoMakers+")\/(Value.ref C=.ref C1/\Ans d ts t "NoPlain+")\/(Value.ref C=.ref C2/\Ans d ts t "TooLong+"))/\[some (V.int ((d:Nat):Int)),some (.ref l),some v,some (.str ""),none]=[some (V.int ((d:Nat):Int)),some (.ref l),some v,some (.str ""),none]/\EJ H H':=fun b H' S=>⟨.inl ⟨rfl,.inl ⟨b,rfl⟩⟩,rfl,S⟩
 refine⟨fun cls σ' H'=>((cls=.ref C/\Ans d ts t "NoMakers+")\/(cls=.ref C1/\Ans d ts t "NoPlain+")\/(cls=.ref C2/\Ans d ts t "TooLong+"))/\σ'=[some (.int ((d:Nat):Int)),some (.ref l),some v,some (.str ""),none]/\EJ H H',?_,?_⟩
 rotate_left
 ·rintro cls σ' H' x ⟨hcls,rfl,S⟩ hx;rcases hcls with ⟨rfl,ha⟩|⟨rfl,ha⟩|⟨rfl,ha⟩
  ·refine⟨C,rfl,E0.kx,E0.sub,?_⟩;refine⟨_,rfl,_,false,false,true,false,false,false,false,false,false,false,false,true,rfl,ae,E0.ex,E0.o0,E0.o1,E0.o2,E0.o3,E0.o4,E0.o5,E0.o6,E0.o7,E0.o8,E0.o9,E0.o10,E0.o11,fun H2 S2=>?_⟩;rw[FW];have S3:=S.trans ((af hx _).trans S2);exact⟨_,rfl,q _ _ ha (SmB.of S3) (hT.same S3)⟩
  ·refine⟨C1,rfl,E1.kx,E1.sub,?_⟩;refine⟨_,rfl,_,false,false,false,false,true,false,false,false,false,false,false,true,rfl,ae,E1.ex,E1.o0,E1.o1,E1.o2,E1.o3,E1.o4,E1.o5,E1.o6,E1.o7,E1.o8,E1.o9,E1.o10,E1.o11,fun H2 S2=>?_⟩;rw[Gg];have S3:=S.trans ((af hx _).trans S2);exact⟨_,rfl,q _ _ ha (SmB.of S3) (hT.same S3)⟩
  ·refine⟨C2,rfl,E2.kx,E2.sub,?_⟩;refine⟨_,rfl,_,false,false,false,false,false,false,false,false,false,true,false,true,rfl,ae,E2.ex,E2.o0,E2.o1,E2.o2,E2.o3,E2.o4,E2.o5,E2.o6,E2.o7,E2.o8,E2.o9,E2.o10,E2.o11,fun H2 S2=>?_⟩;rw[Ge];have S3:=S.trans ((af hx _).trans S2);exact⟨_,rfl,q _ _ ha (SmB.of S3) (hT.same S3)⟩
 obtain rfl|rfl|rfl|rfl|rfl|rfl|rfl|rfl|rfl:d=0\/d=1\/d=2\/d=3\/d=4\/d=5\/d=6\/d=7\/d=8:=by lia
 ·refine⟨_,rfl,rfl,true,rfl,?_⟩;exact⟨_,rfl,_,rfl,l,us,ts,v,t,rfl,M,h4,hb,fun ws hw ew=>⟨fun cs lr e hl u H' S=>⟨_,rfl,fin H' (.inr ⟨ws,hw,ew,.inr ⟨by decide,.inl ⟨rfl,cs,lr,e,hl⟩⟩⟩) (SmB.of S) (hT.same S)⟩,fun cs lr e hl H' S=>⟨.inr (.inr ⟨rfl,.inr ⟨ws,hw,ew,.inr ⟨by decide,.inr (.inl ⟨rfl,cs,lr,e,hl⟩)⟩⟩⟩),rfl,S⟩,fun np H' S=>⟨.inr (.inl ⟨rfl,.inr ⟨ws,hw,ew,.inr ⟨by decide,.inr (.inr ⟨rfl,np⟩)⟩⟩⟩),rfl,S⟩⟩,fB⟩
 ·refine⟨_,rfl,rfl,false,rfl,⟨_,rfl,rfl,true,rfl,?_⟩⟩;exact⟨_,rfl,_,rfl,l,us,ts,v,t,rfl,M,h4,hb,fun ws hw ew=>⟨fun cs lr e hl u H' S=>⟨_,rfl,fin H' (.inr ⟨ws,hw,ew,.inr ⟨by decide,.inl ⟨rfl,cs,lr,e,hl⟩⟩⟩) (SmB.of S) (hT.same S)⟩,fun cs lr e hl H' S=>⟨.inr (.inr ⟨rfl,.inr ⟨ws,hw,ew,.inr ⟨by decide,.inr (.inl ⟨rfl,cs,lr,e,hl⟩)⟩⟩⟩),rfl,S⟩,fun np H' S=>⟨.inr (.inl ⟨rfl,.inr ⟨ws,hw,ew,.inr ⟨by decide,.inr (.inr ⟨rfl,np⟩)⟩⟩⟩),rfl,S⟩⟩,fB⟩
 ·refine⟨_,rfl,rfl,false,rfl,⟨_,rfl,rfl,false,rfl,⟨_,rfl,rfl,true,rfl,?_⟩⟩⟩;exact⟨_,rfl,_,rfl,l,us,ts,v,t,rfl,M,h4,hb,fun ws hw ew=>⟨fun cs lr e hl u H' S=>⟨_,rfl,fin H' (.inr ⟨ws,hw,ew,.inr ⟨by decide,.inl ⟨rfl,cs,lr,e,hl⟩⟩⟩) (SmB.of S) (hT.same S)⟩,fun cs lr e hl H' S=>⟨.inr (.inr ⟨rfl,.inr ⟨ws,hw,ew,.inr ⟨by decide,.inr (.inl ⟨rfl,cs,lr,e,hl⟩)⟩⟩⟩),rfl,S⟩,fun np H' S=>⟨.inr (.inl ⟨rfl,.inr ⟨ws,hw,ew,.inr ⟨by decide,.inr (.inr ⟨rfl,np⟩)⟩⟩⟩),rfl,S⟩⟩,fB⟩
 ·refine⟨_,rfl,rfl,false,rfl,⟨_,rfl,rfl,false,rfl,⟨_,rfl,rfl,false,rfl,⟨_,rfl,rfl,true,rfl,?_⟩⟩⟩⟩;exact⟨_,rfl,l,us,ts,rfl,M,hT,fun ws hw ew u H' S L=>⟨_,rfl,fin H' (.inr ⟨ws,hw,ew,.inl ⟨by decide,rfl⟩⟩) S L⟩,fB⟩
 ·refine⟨_,rfl,rfl,false,rfl,⟨_,rfl,rfl,false,rfl,⟨_,rfl,rfl,false,rfl,⟨_,rfl,rfl,false,rfl,⟨_,rfl,rfl,true,rfl,?_⟩⟩⟩⟩⟩;exact⟨_,rfl,l,us,ts,rfl,M,hT,fun ws hw ew u H' S L=>⟨_,rfl,fin H' (.inr ⟨ws,hw,ew,.inl ⟨by decide,rfl⟩⟩) S L⟩,fB⟩
 ·refine⟨_,rfl,rfl,false,rfl,⟨_,rfl,rfl,false,rfl,⟨_,rfl,rfl,false,rfl,⟨_,rfl,rfl,false,rfl,⟨_,rfl,rfl,false,rfl,⟨_,rfl,rfl,true,rfl,?_⟩⟩⟩⟩⟩⟩;exact⟨_,rfl,ar (by show 1<=1000000;decide),fun p np=>⟨l,us,ts,p,[[108]],rfl,M.same (af np _),ae,by decide,fun x hx=>by rw[Bg.mp hx];decide,fun ws hw ew u H' S=>⟨_,rfl,fin H' (.inr ⟨ws,hw,ew,.inl ⟨by decide,rfl⟩⟩) (SmB.of ((af np _).trans S)) (hT.same ((af np _).trans S))⟩,fun b H' S=>fB b H' ((af np _).trans S)⟩⟩
 ·refine⟨_,rfl,rfl,false,rfl,⟨_,rfl,rfl,false,rfl,⟨_,rfl,rfl,false,rfl,⟨_,rfl,rfl,false,rfl,⟨_,rfl,rfl,false,rfl,⟨_,rfl,rfl,false,rfl,⟨_,rfl,rfl,true,rfl,?_⟩⟩⟩⟩⟩⟩⟩;exact⟨_,rfl,l,us,ts,rfl,M,hT,fun ws hw ew u H' S L=>⟨_,rfl,fin H' (.inr ⟨ws,hw,ew,.inl ⟨by decide,rfl⟩⟩) S L⟩,fB⟩
 ·refine⟨_,rfl,rfl,false,rfl,⟨_,rfl,rfl,false,rfl,⟨_,rfl,rfl,false,rfl,⟨_,rfl,rfl,false,rfl,⟨_,rfl,rfl,false,rfl,⟨_,rfl,rfl,false,rfl,⟨_,rfl,rfl,false,rfl,⟨_,rfl,rfl,true,rfl,?_⟩⟩⟩⟩⟩⟩⟩⟩;exact⟨_,rfl,ar (by show 4<=1000000;decide),fun p np=>⟨ar (by show 1<=1000000;decide),fun q' nq=>⟨l,us,ts,q',_,_,rfl,M.same (two np nq).1,(two np nq).2,fun ws os hw ew _ _ u H' S=>⟨_,rfl,fin H' (.inr ⟨ws,hw,ew,.inl ⟨by decide,rfl⟩⟩) (SmB.of ((two np nq).1.trans S)) (hT.same ((two np nq).1.trans S))⟩,fun b H' S=>fB b H' ((two np nq).1.trans S),fun b=>absurd b (fF KO)⟩⟩⟩
 ·refine⟨_,rfl,rfl,false,rfl,⟨_,rfl,rfl,false,rfl,⟨_,rfl,rfl,false,rfl,⟨_,rfl,rfl,false,rfl,⟨_,rfl,rfl,false,rfl,⟨_,rfl,rfl,false,rfl,⟨_,rfl,rfl,false,rfl,⟨_,rfl,rfl,false,rfl,?_⟩⟩⟩⟩⟩⟩⟩⟩;exact⟨ar (by show 4<=1000000;decide),fun p np=>⟨ar (by show 1<=1000000;decide),fun q' nq=>⟨_,rfl,q',_,_,l,us,ts,rfl,(two np nq).2,M.same (two np nq).1,fun os ws _ _ hw ew u H' S=>⟨_,rfl,fin H' (.inr ⟨ws,hw,ew,.inl ⟨by decide,rfl⟩⟩) (SmB.of ((two np nq).1.trans S)) (hT.same ((two np nq).1.trans S))⟩,fun b=>absurd b (fF KO),fun b H' S=>fB b H' ((two np nq).1.trans S)⟩⟩⟩
open KM
theorem jx{l:Addr}{H:Hp}(ds:Ds H l){v:V}{t:Tb}(h:T4o H v t):T4o (hid l H) v t:=by
 obtain⟨a,e,g⟩:=h;obtain⟨x,y,z,e',_⟩:=ds;exact⟨a,e,by rw[cD (bZ g e' (fun q=>by cases q))];exact g⟩
def Gb (l:Addr)(H:Hp)(v:V):Prop:=∃t,T4o (hid l H) v t/\Bd 1000 t/\rP t
theorem Gb.dr{l:Addr}{H H':Hp}{v:V}(h:Gb l H v)(d:Dr l H H'):Gb l H' v:=by
 obtain⟨t,h1,h2⟩:=h;exact⟨t,h1.mono d.same,h2⟩
theorem vD{n:Nat}(h:40<n):rP ⟨1,(n:Int),0,1⟩:=.inr ⟨List.replicate n 114,fun c hc=>by rw[Dq hc];exact .inr rfl,JJ n,.inr (by rw[CB];exact h)⟩
theorem jY{t:Tb}(h:cw t=false):rP t:=.inl fun z=>by rw[Fc.mpr z] at h;cases h
theorem Gb.new{l a:Addr}{H:Hp}(ds:Ds H l)(na:H a=none){t:Tb}(hb:Bd 1000 t)(h:rP t):Gb l (upd H a (.tup t.vs)) (.ref a):=⟨t,⟨a,rfl,bH ds na _⟩,hb,h⟩
theorem bI{a b c d:Int}(h:a.natAbs<2^1000/\b.natAbs<2^1000/\c.natAbs<2^1000/\d.natAbs<2^1000):Bd 1000 ⟨a,b,c,d⟩:=⟨h.1,h.2.1,h.2.2.1,h.2.2.2⟩
theorem e39:((10:Int)^(39:Int).toNat)=(((10^39:Nat)):Int):=by decide +kernel
def Ku:Sp:=fun vs H Q _=>∃p,vs=[.ref p]/\Ds H p/\∀v H',Dr p H H'->Gb p H' v->Q v H'
theorem tE{dp dd do_ d:DD}(wD:(dg "_law_piece" 60 ["draws","most"] dp 2 GC))(wu:(dg "_law_draw" 59 ["draws","many"] dd 1 Gp))(yU:(dg "_law_of_letters" 58 ["word"] do_ 3 (pO K)))(D:Def K mg "_law_bad" (top 65) ["draws"] d):(fk 4 d ["draws"] Ku):=by
 exists["draws","long","some"]
 obtain⟨p,rfl,hp,q⟩:=h;refine⟨_,(ah (aw 1 (Or.inl rfl) (bW yU.1 yU.2 (aW Fj (aC Gv (aU wD.1 wD.2 (EF (0) (aA (ag _) aL) ay)) (ag _)) (ET _) (bh (aC EU (ag _) (aU wu.1 wu.2 (EF (0) (aA (ag _) aL) ay))))) (by rfl))) (ah (aw 2 (Or.inl rfl) (aV (EF (aO (EF (ag _) (EF (ag _) (EF (ag _) (aA (ag _) aL) aL) aL) aL)) (EF (1) (EF (aO (EF (ag _) (EF (aC Gj (ag _) (ag _)) (EF (ag _) (aA (ag _) aL) aL) (by rfl)) aL)) (EF (aO (EF (ag _) (EF (ag _) (EF (ag _) (aA (ag _) aL) aL) aL) aL)) (EF (aO (EF (ag _) (EF (jt FR (ag _)) (EF (ag _) (aA (ag _) aL) aL) (by rfl)) aL)) (EF (aO (EF (ag _) (EF (ag _) (EF (ag _) (aA (ag _) aL) aL) aL) aL)) (aA (aO (EF (jt FR (ag _)) (EF (ag _) (EF (ag _) (aA (jt FR (ag _)) (by rfl)) aL) aL) (by rfl))) (by rfl)) (by rfl)) (by rfl)) (by rfl)) (by rfl)) ay) (by rfl)))) (aj (aF (aP EI (2) (aU wu.1 wu.2 (EF (0) (aA (ag _) aL) ay))))))),?_⟩
 walk_at "d"
 refine⟨_,rfl,p,30,rfl,by decide,by decide,hp,fun pz H1 d1 lz z1 z30=>?_⟩;refine⟨pz,41,rfl,rfl,by decide,by decide,by show pz.length*41<=_;lia,?_⟩;refine⟨_,rfl,p,9,rfl,d1.ds,by decide,by decide,fun r H2 r0 r1 d2=>⟨_,_,rfl,rfl,?_⟩⟩;have ml:=dS pz 41;rw[show(41:Int).toNat=41 from rfl] at ml;have er:41+r=(((41+r.toNat:Nat)):Int):=by lia
 have tl:=cI (Txt.mul pz 41) (41+r.toNat);rw[<- er] at tl;have lrT:∀c∈(Txt.slice (Txt.mul pz 41) none (some (41+r))).cps.toList,Fs c:=fun c hc=>lz c (fQ (cf hc));refine⟨_,rfl,_,rfl,ar (by lia),_,rfl,(by show(Txt.slice (Txt.mul pz 41) none (some (41+r))).length<=1000;lia),fun c hc=>(lrT c hc).lt,fun v H3 S3 h3=>?_⟩;rw[cn (Txt.slice _ _ _)] at tl;generalize (Txt.slice (Txt.mul pz 41) none (some (41+r))).cps.toList=cs at lrT h3 tl;rw[eK cs] at h3;have d3:=d1.trans (d2.trans (Dr.of_same d2.ds S3));have b0:Gb p H3 v:=⟨_,jx d3.ds h3,(oh lrT).mono (by lia),.inr ⟨cs,lrT,rfl,.inr (by lia)⟩⟩
 clear S3 h3 d1 d2 ml tl er;refine⟨ar (by show 4<=1000000;decide),fun a1 n1=>?_⟩;have e1:=Dr.new (d3).ds n1 (.tup (⟨1,0,0,1⟩:Tb).vs);have b1:=Gb.new (d3).ds n1 (t:=⟨1,0,0,1⟩) (bI (by decide +kernel)) (.inr ⟨[],fun c hc=>absurd hc (by simp),rfl,.inl rfl⟩);have D1:=(d3).trans e1;refine⟨_,rfl,_,_,rfl,rfl,⟨by decide,by decide,by decide⟩,?_⟩;refine⟨ar (by show 4<=1000000;decide),fun a2 n2=>?_⟩;have e2:=Dr.new (D1).ds n2 (.tup (⟨1,(10:Int)^(39:Int).toNat,0,1⟩:Tb).vs);have b2:=Gb.new (D1).ds n2 (t:=⟨1,(10:Int)^(39:Int).toNat,0,1⟩) (bI (by decide +kernel)) (by rw[e39];exact vD (by decide +kernel));have D2:=(D1).trans e2;refine⟨ar (by show 4<=1000000;decide),fun a3 n3=>?_⟩;have e3:=Dr.new (D2).ds n3 (.tup (⟨0,1,1,0⟩:Tb).vs);have b3:=Gb.new (D2).ds n3 (t:=⟨0,1,1,0⟩) (bI (by decide +kernel)) (jY (by decide));have D3:=(D2).trans e3;refine⟨1,rfl,?_⟩;refine⟨ar (by show 4<=1000000;decide),fun a4 n4=>?_⟩;have e4:=Dr.new (D3).ds n4 (.tup (⟨1,-1,0,1⟩:Tb).vs);have b4:=Gb.new (D3).ds n4 (t:=⟨1,-1,0,1⟩) (bI (by decide +kernel)) (jY (by decide));have D4:=(D3).trans e4;refine⟨ar (by show 4<=1000000;decide),fun a5 n5=>?_⟩;have e5:=Dr.new (D4).ds n5 (.tup (⟨2,1,1,2⟩:Tb).vs);have b5:=Gb.new (D4).ds n5 (t:=⟨2,1,1,2⟩) (bI (by decide +kernel)) (jY (by decide));have D5:=(D4).trans e5;refine⟨1,rfl,1,rfl,?_⟩;refine⟨ar (by show 4<=1000000;decide),fun a6 n6=>?_⟩;have e6:=Dr.new (D5).ds n6 (.tup (⟨-1,0,0,-1⟩:Tb).vs);have b6:=Gb.new (D5).ds n6 (t:=⟨-1,0,0,-1⟩) (bI (by decide +kernel)) (jY (by decide));have D6:=(D5).trans e6;refine⟨ar (by show 7<=1000000;decide),fun L nL=>?_⟩;have eL:=Dr.new D6.ds nL (.lst [.ref a1,v,.ref a2,.ref a3,.ref a4,.ref a5,.ref a6]);have gL:=bH D6.ds nL (.lst [.ref a1,v,.ref a2,.ref a3,.ref a4,.ref a5,.ref a6]);refine⟨_,rfl,_,rfl,p,7,rfl,eL.ds,by decide,by decide,fun i7 H7 i0 i1 d7=>?_⟩;obtain⟨u,eu,mu⟩:=je (l:=[.ref a1,v,.ref a2,.ref a3,.ref a4,.ref a5,.ref a6]) i0 i1;refine⟨L,_,i7,u,rfl,rfl,SqL.of (aR p _ _ _ (d7.same _ _ gL)),eu,q u H7 (D6.trans (eL.trans d7)) ?_⟩;have e7:=eL.trans d7;simp only[Bl,BU,or_false] at mu;rcases mu with rfl|rfl|rfl|rfl|rfl|rfl|rfl
 ·exact b1.dr (e2.trans (e3.trans (e4.trans (e5.trans (e6.trans e7)))))
 ·exact b0.dr (e1.trans (e2.trans (e3.trans (e4.trans (e5.trans (e6.trans e7))))))
 ·exact b2.dr (e3.trans (e4.trans (e5.trans (e6.trans e7))))
 ·exact b3.dr (e4.trans (e5.trans (e6.trans e7)))
 ·exact b4.dr (e5.trans (e6.trans e7))
 ·exact b5.dr (e6.trans e7)
 ·exact b6.dr e7
theorem Ic:∀ts:List Tb,PyData.canLayAll0 (ts.map Tb.dat)=true
 |[]=>rfl
 |t::r=>by
  have ih:=Ic r;rw[Bv];show(t.dat.canLay0&&PyData.canLayAll0 (r.map Tb.dat))=true;rw[ih];rfl
theorem gO(ts:List Tb):(PyData.list (ts.map Tb.dat)).canLay0=true:=by
 show PyData.canLayAll0 (ts.map Tb.dat)=true;exact Ic ts
theorem GP:∀ts:List Tb,PyData.depthAll (ts.map Tb.dat)<=1
 |[]=>by show 0<=1;decide
 |t::r=>by
  have ih:=GP r;rw[Bv];show max t.dat.depth (PyData.depthAll (r.map Tb.dat))<=1;have:t.dat.depth=1:=rfl;lia
theorem lp(ts:List Tb):(PyData.list (ts.map Tb.dat)).depth<=60:=by
 have:=GP ts;have e:(PyData.list (ts.map Tb.dat)).depth=PyData.depthAll (ts.map Tb.dat)+1:=by
  simp[PyData.depth]
 lia
theorem qJ(ts:List Tb):V.bl (if true=true then !PyData.eqv (.list (ts.map Tb.dat)) (.list (ts.map Tb.dat)) else PyData.eqv (.list (ts.map Tb.dat)) (.list (ts.map Tb.dat)))=.bl false:=by
 rw[SeqAt.eqv_refl _ (gO ts)];rfl
open KM
theorem vR{H H':Hp}(S:EJ H H'){vs:List V}{ws:List (List Nat)}(h:Mks H vs ws):Mks H' vs ws:=Paired.Gy h fun v s g=>g.mono S
theorem ne_d(d:PyData)(h:d.canLay0=true):V.bl (if true=true then !PyData.eqv d d else PyData.eqv d d)=.bl false:=by
 rw[SeqAt.eqv_refl d h];rfl
theorem SqL.smb{H H':Hp}{T a:Addr}{ps:Array Value}{xs:List V}(hT:H T=some (.tbl ps))(h:SqL K H a xs)(S:SmB T H H'):SqL K H' a xs:=by
 rcases h with h|h
 ·rcases h with h|⟨o,h⟩
  ·exact .inl (.inl (S _ _ (bZ h hT (fun z=>by cases z)) h))
  ·exact .inl (.inr ⟨o,S _ _ (bZ h hT (fun z=>by cases z)) h⟩)
 ·exact .inr h
theorem lX{T l:Addr}{Hi H1 H2:Hp}(S:SmB T Hi H1)(n:Hi l=none)(d:Dr l H1 H2):SmB T Hi H2:=fun b o nT e=>by
 have z:b≠l:=az e n;exact aR l _ _ _ (d.same b o (by rw[cD z];exact S b o nT e))
theorem Fq.dr{pos:Pos}{q:Str}{T l:Addr}{H H':Hp}(h:Fq pos q T H)(ds:Ds H l)(d:Dr l H H'):Fq pos q T H':=by
 obtain⟨ps,h1,h2,h3⟩:=h.ex;obtain⟨x,y,z,e,_⟩:=ds;have tr:∀b o,H b=some o->o≠.lst [.int x,.int y,.int z]->H' b=some o:=fun b o hb ne=>aR l _ _ _ (d.same b o (by rw[cD (bZ hb e ne)];exact hb));refine⟨ps,tr _ _ h1 (fun z=>by cases z),h2,?_⟩;rcases h3 with h3|⟨c,h3,h4⟩
 ·exact .inl h3
 ·exact .inr ⟨c,h3,tr _ _ h4 (fun z=>by cases z)⟩
structure LG where
 draws:DD
 draw:DD
 lmk:DD
 ofl:DD
 ltg:DD
 bad:DD
 ask:DD
structure All(T:Addr)(P:Program)(w:World)(K:W.Frag)(mg:Str->Option Value)(base:Heap)(d:LG):Prop where
 yH:Def K mg "_law_draws" (top 61) ["script","k"] d.draws
 wu:Def K mg "_law_draw" (top 59) ["draws","many"] d.draw
 zR:Def K mg "_law_makers" (top 62) ["draws"] d.lmk
 yU:Def K mg "_law_of_letters" (top 58) ["word"] d.ofl
 zS:Def K mg "_law_target" (top 63) ["draws","words","most"] d.ltg
 zP:Def K mg "_law_bad" (top 65) ["draws"] d.bad
 zO:Def K mg "_law_asked" (top 64) ["door","makers","table"] d.ask
 yY:(fk 1 d.draws ["script","k"] (lF K))
 wx:(fk 1 d.draw ["draws","many"] Gp)
 Af:(fk 3 d.lmk ["draws"] KG)
 za:(fk 3 d.ofl ["word"] (pO K))
 Ag:(fk 3 d.ltg ["draws","words","most"] Kw)
 Ad:(fk 4 d.bad ["draws"] Ku)
 Ac:(fk 7 d.ask ["door","makers","table"] (sT T))
 wq:mg "range"=none
 AE:mg "max"=none
 yB:mg "min"=none
 wo:mg "len"=none
 xF:mg "list"=none
 yL:mg "int"=none
theorem Jm:EG ["script","k","draws","words","makers","table","due","some","at","first","handed","told"] ["script"] (ak (top 66)):=by walk_at "s"
theorem jb(m:Int)(h:0<=m):-(2^62)<=(if (if m<10 then m else 10)>1 then (if m<10 then m else 10) else 1)/\(if (if m<10 then m else 10)>1 then (if m<10 then m else 10) else 1)<2^62/\(if (if m<10 then m else 10)>1 then (if m<10 then m else 10) else 1).toNat<=10:=by
 split<;>split<;>lia
theorem fC{α β γ:Type}{R:α->γ->Prop}{f:β->γ}:∀{as:List α}{bs:List β},Paired (fun a b=>R a (f b)) as bs->Paired R as (bs.map f)
 |_,_,.nil=>.nil
 |_,_,.cons h r=>.cons h (fC r)
theorem bS{α β:Type}{R:α->β->Prop}:∀{as:List α}{bs:List β}(n:Nat),Paired R as bs->Paired R (as.take n) (bs.take n)/\Paired R (as.drop n) (bs.drop n)
 |_,_,0,h=>⟨.nil,h⟩
 |_,_,_+1,.nil=>⟨.nil,.nil⟩
 |_,_,n+1,.cons h r=>⟨.cons h (bS n r).1,(bS n r).2⟩
theorem fv{α β:Type}{R:α->β->Prop}{as:List α}{bs:List β}(h:Paired R as bs):∀n:Nat,Paired R (List.replicate n as).flatten (List.replicate n bs).flatten
 |0=>.nil
 |n+1=>by
  rw[Ca,Ca,Cm,Cm];exact cc h (fv h n)
theorem fU{H:Hp}:∀{us:List V}{ts:List Tb},Paired (fun v t=>T4o H v t) us ts->DatAll K H us (ts.map Tb.dat)
 |_,_,.nil=>.nil
 |_,_,.cons h r=>.cons (h.t4 (K:=K)).dat (fU r)
theorem qr{l b:Addr}{H:Hp}{o:HO}(h:hid l H b=some o):b≠l:=fun z=>by
 unfold hid at h;rw[DZ z] at h;cases h
theorem lG{W:Addr}{ws:List (List Nat)}{σ:L2.St}{H:Hp}{Q:VK}(hw:Wds ws)(g:H W=some (.lst (av ws)))(q:∀ys p H',EJ H H'->H p=none->H' p=some (.lst ys)->Mks H' ys ws->Q (.ref p) H'):gw (Itl K W) 1 [] (lY 0) Kl (og (pO K) [] E0 (fY (rm 0) ID)) σ H Q:=by
 have el:=bp ws;have w8:=hw.n8;refine cq (K:=K) (a:=W) (xs:=av ws) (fun k ys H'=>EJ H H'/\ys.length<=k/\Mks H' ys (ws.take k)) ⟨EJ.refl _,AW _,.nil⟩ (fun k ys H' hk z=>z.2.1) (ar (by lia)) (fun k ys H' hk z=>SqL.of (z.1 _ _ g)) (fun k v ys H' hv z=>?_) (fun ys H' z M hM=>?_)
 ·obtain⟨z1,z2,z3⟩:=z;have hk:k<(av ws).length:=(Be.mp hv).1;have hk':k<ws.length:=by lia
  have ev:v=.str (txt ws[k]):=by
   rw[Br,Bf hk'] at hv;exact(Eh hv).symm
  subst ev;have hm:ws[k]∈ws:=BE hk';have h40:=hw.l40 _ hm;have et:ws.take (k+1)=ws.take k++[ws[k]]:=by rw[Bz,Bf hk'];rfl
  refine⟨_,rfl,txt ws[k],rfl,(by show ws[k].length<=1000;lia),fun c hc=>(hw.lr _ hm c hc).lt,fun r H2 S2 h2=>Nx.mk hk ⟨z1.trans S2,by rw[Ba];exact Ew z2,?_⟩⟩;rw[et];refine Paired.snoc (vR S2 z3) ?_;have:=eK ws[k];rw[<- this];exact h2
 ·obtain⟨z1,z2,z3⟩:=z;rw[el,Bs (AW _)] at z3;exact q ys M _ (z1.trans (af hM _)) (eQ z1 hM) ae (vR (af hM (.lst ys)) z3)
structure Sv(T l:Addr)(Hi:Hp)(M:Addr)(us:List V)(ts:List Tb)(v:V)(t:Tb)(H:Hp):Prop where
 fi:SmB T Hi H
 ds:Ds H l
 lt:Fq GJ GQ T H
 m:hid l H M=some (.lst us)
 ps:Paired (fun v t=>T4o (hid l H) v t) us ts
 tb:T4o (hid l H) v t
theorem Sv.dr{T l:Addr}{Hi:Hp}{M:Addr}{us:List V}{ts:List Tb}{v:V}{t:Tb}{H H':Hp}(nl:Hi l=none)(s:Sv T l Hi M us ts v t H)(d:Dr l H H'):Sv T l Hi M us ts v t H':=
 ⟨lX s.fi nl d,d.ds,Fq.dr s.lt s.ds d,d.same _ _ s.m,Paired.Gy s.ps fun _ _ h=>h.mono d.same,s.tb.mono d.same⟩
theorem Sv.put{T l:Addr}{Hi:Hp}{M:Addr}{us us':List V}{ts ts':List Tb}{v:V}{t:Tb}{H:Hp}(nM:Hi M=none)(s:Sv T l Hi M us ts v t H)(ps':Paired (fun v t=>T4o (hid l H) v t) us' ts'):Sv T l Hi M us' ts' v t (upd H M (.lst us')):=by
 have nMl:=qr s.m;have gM:H M=some (.lst us):=aR l _ _ _ s.m;have tr:∀b o,H b=some o->(∀xs,o≠.lst xs)->upd H M (.lst us') b=some o:=fun b o hb n=>by rw[ao (bZ hb gM (n _))];exact hb
 have t4:∀v t,T4o (hid l H) v t->T4o (hid l (upd H M (.lst us'))) v t:=fun v t hq120=>by
  obtain⟨a,e,g⟩:=hq120;have na:=qr g;rw[cD na] at g;exact⟨a,e,by rw[cD na];exact tr _ _ g (fun _ z=>by cases z)⟩
 obtain⟨x,y,z,e,ok⟩:=s.ds;refine⟨fun b o nT hb=>?_,⟨x,y,z,by rw[ao (Er nMl)];exact e,ok⟩,?_,by rw[cD nMl];exact ae,Paired.Gy ps' t4,t4 _ _ s.tb⟩
 ·rw[ao (az hb nM)];exact s.fi b o nT hb
 ·obtain⟨ps,h1,h2,h3⟩:=s.lt.ex;refine⟨ps,tr _ _ h1 (fun _ z=>by cases z),h2,?_⟩;rcases h3 with h3|⟨c,h3,h4⟩
  ·exact .inl h3
  ·exact .inr ⟨c,h3,tr _ _ h4 (fun _ z=>by cases z)⟩
theorem rO{T M:Addr}{Hi H:Hp}(S:SmB T Hi H)(L:Fq GJ GQ T H)(n:H M=none):Hi M=none:=by
 obtain⟨ps,h1,_⟩:=L.ex;cases e:Hi M with
 |none=>rfl
 |some o=>
  have:=S M o (az h1 n).symm e;rw[n] at this;cases this
def Due (t:Tb)(z:Str):Prop:=(z=""/\∃cs,(∀c∈cs,Fs c)/\wt cs=t/\cs.length<=400)\/(z="TooLong+"/\∃cs,(∀c∈cs,Fs c)/\wt cs=t/\400<cs.length)\/(z="NoPlain+"/\¬Plain t)
theorem Due.one{t:Tb}{y z:Str}(a:Due t y)(b:Due t z):y=z:=by
 rcases a with ⟨rfl,cs,lr,e,h⟩|⟨rfl,cs,lr,e,h⟩|⟨rfl,h⟩<;>rcases b with ⟨rfl,cs',lr',e',h'⟩|⟨rfl,cs',lr',e',h'⟩|⟨rfl,h'⟩
 ·rfl
 ·rw[Gk lr lr' (e.trans e'.symm)] at h;lia
 ·exact absurd (e▸Fh lr) h'
 ·rw[Gk lr lr' (e.trans e'.symm)] at h;lia
 ·rfl
 ·exact absurd (e▸Fh lr) h'
 ·exact absurd (e'▸Fh lr') h
 ·exact absurd (e'▸Fh lr') h
 ·rfl
def Fir (ts:List Tb)(z:Str):Prop:=(z=""/\∃ws,Wds ws/\ts=ws.map wt)\/(z="NoMakers+"/\Bad ts)
theorem Ans.eq{d:Nat}{ts:List Tb}{t:Tb}{z f y:Str}(a:Ans d ts t z)(hf:Fir ts f)(hd:Due t y):z=if f="" then (if d<3 then y else "") else f:=by
 rcases hf with ⟨rfl,ws,hw,e⟩|⟨rfl,b⟩
 ·rw[DZ rfl];rcases a with ⟨b,_⟩|⟨_,_,_,h⟩
  ·exact absurd (e▸b) (fF hw)
  ·rcases h with ⟨h3,rfl⟩|⟨h3,h⟩
   ·rw[DY (by lia)]
   ·rw[DZ h3];exact Due.one h hd
 ·rw[DY (by decide)];rcases a with ⟨_,rfl⟩|⟨ws,hw,e,_⟩
  ·rfl
  ·exact absurd (e▸b) (fF hw)
theorem e30:((10:Int)^(30:Int).toNat)=1000000000000000000000000000000:=by decide +kernel
theorem kX(xs:List V)(i:Nat):qm xs none (some ((i:Nat):Int))=xs.take i:=by
 unfold qm;rw[HT.FO,HT.GF,CL,CW];by_cases h:i<=xs.length
 ·rw[BS h]
 ·rw[Dt (by lia),Bs (AW _),Bs (by lia)]
def lu (f y:Str)(d:Nat):Str:=if f="" then (if d<3 then y else "") else f
theorem qI(f y:Str):((List.range 9).map (lu f y)).map V.str=(List.replicate (3:Int).toNat [V.str (if f="" then y else f)]).flatten++(List.replicate (6:Int).toNat [V.str f]).flatten:=by
 by_cases h:f=""
 ·subst h;rfl
 ·unfold lu;simp only[DY h];rfl
theorem qL{ts:List Tb}{t:Tb}{f y:Str}(hf:Fir ts f)(hd:Due t y):∀z∈(List.range 9).map (lu f y),PyData.strOk z=true:=fun z hz=>by
 obtain⟨d,_,rfl⟩:=Bh.mp hz;unfold lu;rcases hf with ⟨rfl,_⟩|⟨rfl,_⟩
 ·rw[DZ rfl];split
  ·rcases hd with ⟨rfl,_⟩|⟨rfl,_⟩|⟨rfl,_⟩<;>decide +kernel
  ·decide +kernel
 ·rw[DY (by decide)];decide +kernel
theorem GI.smb{T:Addr}{H H':Hp}{ps:Array Value}(hT:H T=some (.tbl ps))(S:SmB T H H'){l:Addr}{us:List V}{ts:List Tb}(m:GI H l us ts):GI H' l us ts:=
 ⟨S _ _ (bZ m.g hT (fun z=>by cases z)) m.g,Paired.Gy m.ps fun v t hq121=>by obtain⟨a,e,h⟩:=hq121;exact⟨a,e,S _ _ (bZ h hT (fun z=>by cases z)) h⟩,m.bd,m.n⟩
def oO (T:Addr)(K:W.Frag):Sp:=fun vs H Q _=>∃(a:Addr)(ns:List Int),vs=[.ref a]/\SqL K H a (ns.map V.int)/\ns.length<=63/\Fq GJ GQ T H/\∀H',Q (.bl true) H'
theorem uj{T:Addr}{d:DD}{D:LG}(A:All T P w K mg base D)(DL:Def K mg "law" (top 66) ["script"] d):(fk 8 d ["script"] (oO T K)):=by
 refine DL.fn.ok Jm (fun vs H Q E h=>?_) (fun cdv Ar outer s H vs Q E hr h=>?_)
 ·obtain⟨a,ns,rfl,_⟩:=h;rfl
 obtain⟨a,ns,rfl,hS,h63,hT,q⟩:=h;have hc:=hr.calm;have nd:=Jm.nd;refine⟨_,(ah (dC (bF A.wq (aA (aE (mq hc) A.AE Kq (EF (ag _) (aA (aE (mP hc) A.yB Hz (EF (ag _) (aA (ba EM A.wo (0) ay) cQ) aL)) cQ) aL)) cQ)) (au 1 nd (by walk_at "i")) (ah (aw 2 (Or.inl rfl) (aU A.yH A.yY (EF (0) (aA (1) ay) ay))) (ah (aw 3 (Or.inl rfl) (bW A.zR A.Af (2) ay)) (ah (cH 4 (aq (ts:=["word"]) (cap:=[]) (js:=[]) rfl rfl rfl rfl rfl rfl (by decide +kernel)) (aZ (3)) (au 0 (nd ["word"]) (.inr rfl)) (@aX _) (bW A.yU A.za (0) ay)) (ah (aw 5 (Or.inr rfl) (bW A.yU A.za (aU A.zS A.Ag (EF (2) (EF (3) (aA (ag _) aL) ay) ay)) cQ)) (ah (aw 6 (Or.inl rfl) (aQ _)) (ah (jV (br (aG Fn (aU A.wu A.wx (EF (2) (aA (ag _) aL) ay)) (ag _) (aI _)) (ah (aw 7 (Or.inl rfl) (aV (EF (aO (EF (ag _) (EF (ag _) (EF (ag _) (aA (ag _) aL) aL) aL) aL)) (EF (aO (EF (ag _) (EF (jt FR (ag _)) (EF (ag _) (aA (ag _) aL) aL) (by rfl)) aL)) (EF (aO (EF (ag _) (EF (ag _) (EF (jt FR (ag _)) (aA (ag _) aL) (by rfl)) aL) aL)) (aA (aO (EF (ag _) (EF (aC EU (ag _) (aU A.wu A.wx (EF (2) (aA (aC Gj (ag _) (ag _)) (by rfl)) ay))) (EF (ag _) (aA (ag _) aL) aL) (by rfl)) aL)) (by rfl)) (by rfl)) (by rfl)) (by rfl)))) (ah (aw 8 (Or.inl rfl) (aU A.wu A.wx (EF (2) (aA (ag _) aL) ay))) (ah (aw 5 (Or.inr rfl) (aP EI (7) (8))) (aj (aw 6 (Or.inl rfl) (aP EI (aV (EF (aQ _) (aA (aQ _) aL) aL)) (dz Hb A.yL Ia (aA (ck Fn (8) (ag _) (aI _)) (by rfl))))))))) (EO _))) (ah (aw 9 (Or.inl rfl) (aQ _)) (ah (jV (br (aG Fn (aU A.wu A.wx (EF (2) (aA (ag _) aL) ay)) (ag _) (aI _)) (ah (bg (jn Ei PySem.F.slot_list_insert PySem.F.type_list_insert Ie (4) (EF (aU A.wu A.wx (EF (2) (aA (aC EU (ba EM A.wo (4) ay) (ag _)) (by rfl)) ay)) (aA (bW A.zP A.Ad (2) ay) cQ) cQ))) (aj (aw 9 (Or.inl rfl) (aQ _)))) (EO _))) (ah (jV (br (aG Fn (aU A.wu A.wx (EF (2) (aA (ag _) aL) ay)) (ag _) (aI _)) (aj (aw 4 (Or.inl rfl) (aP EI (aV (EF (aV (@Fe _)) (aA (aW Ir (aC HZ (4) (ag _)) (ET _) (bh (aC EU (ag _) (aU A.wu A.wx (EF (2) (aA (ag _) aL) ay))))) (by rfl)) (by rfl))) (aU A.wu A.wx (EF (2) (aA (ag _) aL) ay))))) (EO _))) (ah (jV (br (dv (ko Iw Iw (ag _) (ba EM A.wo (4) ay) (ag _) (by with_unfolding_all rfl))) (aj (aw 9 (Or.inl rfl) (aQ _))) (EO _))) (ah (aw 10 (Or.inr rfl) (dz GL A.xF Hn (aA (4) ay))) (ah (cH 11 (aq (ts:=["door"]) (cap:=["table","handed"]) (js:=[5,10]) rfl rfl rfl rfl rfl rfl (by decide +kernel)) (bF A.wq (aA (ag _) aL)) (au 0 (nd ["door","table","handed"]) (.inr rfl)) (@aX _) (aU A.zO A.Ac (EF (0) (EF (2) (aA (1) ay) ay) ay))) (aj (br (@PW.pt _ _ _ (kA (aG (jM hr.units) (11) (aC FG (aC HZ (aV (aA (@qi _ _ _ (@tJ _ _ _ _ _ _ _ (9) (iL (6)))) (by rfl))) (ag _)) (aC HZ (aV (aA (9) ay)) (ag _))) (aI _)) (ft (aG (jM hr.units) (10) (4) (aI _))))) (aj (aF (iI _))) (EO _)))))))))))))))) (aj (aF (iI _)))),?_⟩
 walk_at "d"
 have hl:(ns.map V.int).length=ns.length:=AX _;refine⟨_,rfl,a,_,rfl,.inl hS,_,_,rfl,_,_,rfl,_,rfl,(jb _ (Ex _)).1,(jb _ (Ex _)).2.1,?_⟩;have j16:=(jb (((ns.map V.int).length:Nat):Int) (Ex _)).2.2;obtain⟨ps0,gT0,_⟩:=hT.ex;refine iB (lo:=0) (n:=_) (fun i σ H'=>∃x1 x2 x3 x4 x5 x6 x7 x8 x9 x10 x11,σ=[some (.ref a),x1,x2,x3,x4,x5,x6,x7,x8,x9,x10,x11]/\SmB T H H'/\Fq GJ GQ T H') ⟨none,none,none,none,none,none,none,none,none,none,none,rfl,SmB.of (EJ.refl H),hT⟩ (fun i σ Hi hi z=>?_) (fun σ H' z=>?_)
 rotate_left
 ·obtain⟨x1,x2,x3,x4,x5,x6,x7,x8,x9,x10,x11,rfl,S,_⟩:=z;exact q H'
 obtain⟨x1,x2,x3,x4,x5,x6,x7,x8,x9,x10,x11,rfl,Si,Li⟩:=z;have hi':i<10:=Bc hi j16;refine⟨_,rfl,_,rfl,a,ns,0+(i:Int),rfl,SqL.smb gT0 hS Si,by lia,by lia,fun l H1 S1 nl ds=>?_⟩;have L1:=Li.same S1;have A1:SmB T Hi H1:=SmB.of S1;refine⟨_,rfl,l,rfl,ds,fun W ws H2 d2 nW gW hw=>?_⟩;refine⟨_,rfl,W,rfl,⟨_,SqL.of (aR l _ _ _ gW)⟩,lG hw (aR l _ _ _ gW) fun ys M H3 S3 nM gM mM=>?_⟩;have d3:=Dr.of_same d2.ds S3;have D3:=d2.trans d3;have L2':=Fq.dr L1 ds d2;have nMi:Hi M=none:=rO (lX A1 nl d2) L2' nM;have nMl:M≠l:=Er (d2.ds.ne nM);have ly:=Paired.length mM;have w1:=hw.n1;have w8:=hw.n8;refine⟨_,rfl,_,rfl,l,W,ws,60,rfl,D3.ds,d3.same _ _ gW,hw,by decide,by decide,fun x H4 d4 lx x60=>?_⟩;refine⟨txt x,rfl,(by show x.length<=1000;lia),fun c hc=>(lx c hc).lt,fun v0 H5 S5 h5=>?_⟩;rw[show eh ((txt x).cps.toList.map cC)=wt x from eK x] at h5;have d5:=D3.trans (d4.trans (Dr.of_same d4.ds S5));have s5:Sv T l Hi M ys (ws.map wt) v0 (wt x) H5:=⟨lX A1 nl d5,d5.ds,Fq.dr L1 ds d5,by rw[cD nMl];exact S5 _ _ (aR l _ _ _ (d4.same _ _ (by rw[cD nMl];exact gM))),fC (Paired.Gy mM fun v cs h=>((jx D3.ds h).mono d4.same).mono S5.hid),jx d5.ds h5⟩
 have bd5:Bd 1000 (wt x):=(oh lx).mono (by lia);have due5:Due (wt x) "":=.inl ⟨rfl,x,lx,rfl,by lia⟩;have bdM:∀t∈ws.map wt,Bd 1000 t:=fun t ht=>by
  obtain⟨cs,hc,rfl⟩:=Bh.mp ht;have:=hw.l40 cs hc;exact(oh (hw.lr cs hc)).mono (by lia)
 clear S5 h5 d5 d4 D3 d3 S3 gM mM gW nW d2;refine⟨fun σ H'=>∃v t due e7 e8,σ=[some (.ref a),some (.int (0+(i:Int))),some (.ref l),some (.ref W),some (.ref M),some v,some (.str due),e7,e8,x9,x10,x11]/\Sv T l Hi M ys (ws.map wt) v t H'/\Bd 1000 t/\Due t due,?_,fun σ H6 z=>?_⟩
 ·refine⟨_,rfl,l,3,rfl,s5.ds,by decide,by decide,fun r H6 r0 r1 d6=>?_⟩;refine⟨rfl,_,rfl,?_⟩;show if decide (V.int r=V.int 0)=true then _ else _;rw[cE];have s6:=s5.dr nl d6;cases hr0:(r==0) with
  |false=>exact⟨v0,_,_,_,_,rfl,s6,bd5,due5⟩
  |true=>
   refine⟨ar (by show 4<=1000000;decide),fun a1 n1=>?_⟩;have e1:=Dr.new s6.ds n1 (.tup (⟨2,1,1,2⟩:Tb).vs);have g1:T4o (hid l (upd H6 a1 (.tup (⟨2,1,1,2⟩:Tb).vs))) (.ref a1) ⟨2,1,1,2⟩:=⟨a1,rfl,bH s6.ds n1 _⟩
   refine⟨1,rfl,ar (by show 4<=1000000;decide),fun a2 n2=>?_⟩;have e2:=Dr.new e1.ds n2 (.tup (⟨1,-1,0,1⟩:Tb).vs);have g2:T4o (hid l (upd _ a2 (.tup (⟨1,-1,0,1⟩:Tb).vs))) (.ref a2) ⟨1,-1,0,1⟩:=⟨a2,rfl,bH e1.ds n2 _⟩
   refine⟨1,rfl,ar (by show 4<=1000000;decide),fun a3 n3=>?_⟩;have e3:=Dr.new e2.ds n3 (.tup (⟨0,1,-1,0⟩:Tb).vs);have g3:T4o (hid l (upd _ a3 (.tup (⟨0,1,-1,0⟩:Tb).vs))) (.ref a3) ⟨0,1,-1,0⟩:=⟨a3,rfl,bH e2.ds n3 _⟩
   refine⟨_,rfl,_,_,rfl,rfl,⟨by decide,by decide,by decide⟩,l,_,rfl,e3.ds,by rw[e30];decide,by rw[e30];decide,fun ra H7 q0 q1 d7=>⟨_,_,rfl,rfl,ar (by show 4<=1000000;decide),fun a4 n4=>?_⟩⟩;rw[e30] at q1;have e4:=Dr.new d7.ds n4 (.tup (⟨1,401+ra,0,1⟩:Tb).vs);have g4:T4o (hid l (upd H7 a4 (.tup (⟨1,401+ra,0,1⟩:Tb).vs))) (.ref a4) ⟨1,401+ra,0,1⟩:=⟨a4,rfl,bH d7.ds n4 _⟩
   refine⟨ar (by show 4<=1000000;decide),fun Sm nSm=>?_⟩;have e5:=Dr.new e4.ds nSm (.lst [.ref a1,.ref a2,.ref a3,.ref a4]);have gS:=bH e4.ds nSm (.lst [.ref a1,.ref a2,.ref a3,.ref a4]);refine⟨_,rfl,l,4,rfl,e5.ds,by decide,by decide,fun at_ H8 t0 t1 d8=>?_⟩;have E5:=e5.trans d8;have E4:=e4.trans E5;have E3:=d7.trans E4;have E2:=e3.trans E3;have E1:=e2.trans E2;have s8:=s6.dr nl (e1.trans E1);obtain⟨u,t',due',eu,gu,bu,du,ed⟩:∃u t' due',atI [V.ref a1,.ref a2,.ref a3,.ref a4] at_=some u/\T4o (hid l H8) u t'/\Bd 1000 t'/\Due t' due'/\atI [V.str "NoPlain+",.str "TooLong+"] (if decide (V.int at_=V.int 3)=true then 1 else 0)=some (.str due'):=by
    obtain rfl|rfl|rfl|rfl:at_=0\/at_=1\/at_=2\/at_=3:=by lia
    ·exact⟨_,_,_,rfl,g1.mono E1.same,bI (by decide +kernel),.inr (.inr ⟨rfl,fun z=>absurd (Fc.mpr z) (by decide)⟩),rfl⟩
    ·exact⟨_,_,_,rfl,g2.mono E2.same,bI (by decide +kernel),.inr (.inr ⟨rfl,fun z=>absurd (Fc.mpr z) (by decide)⟩),rfl⟩
    ·exact⟨_,_,_,rfl,g3.mono E3.same,bI (by decide +kernel),.inr (.inr ⟨rfl,fun z=>absurd (Fc.mpr z) (by decide)⟩),rfl⟩
    ·have er:(401+ra)=(((401+ra.toNat:Nat)):Int):=by lia
     refine⟨_,_,_,rfl,g4.mono E5.same,?_,.inr (.inl ⟨rfl,List.replicate (401+ra.toNat) 114,fun c hc=>by rw[Dq hc];exact .inr rfl,by rw[JJ,er],by rw[CB];lia⟩),rfl⟩;refine bI ⟨by decide +kernel,Bc (show _<2^200 from ?_) (Nat.pow_le_pow_right (by decide) (by decide)),by decide +kernel,by decide +kernel⟩;rw[er,Int.natAbs_natCast];exact Bc (show 401+ra.toNat<1000000000000000000000000000401 by lia) (by decide +kernel)
   refine⟨_,rfl,_,rfl,Sm,_,_,u,rfl,rfl,SqL.of (aR l _ _ _ (d8.same _ _ gS)),eu,?_⟩;refine⟨ar (by show 2<=1000000;decide),fun Ls nLs=>?_⟩;have d9:=Dr.new s8.ds nLs (.lst [.str "NoPlain+",.str "TooLong+"]);refine⟨_,rfl,rfl,.inr ⟨_,rfl,Ls,_,_,_,rfl,rfl,SqL.of ae,ed,?_⟩⟩;have s9:=s8.dr nl d9;exact⟨u,t',due',_,_,rfl,⟨s9.fi,s9.ds,s9.lt,s9.m,s9.ps,gu.mono d9.same⟩,bu,du⟩
 obtain⟨v,t,due,e7,e8,rfl,s6,bt,dt⟩:=z;clear s5 bd5 due5;refine⟨fun σ H'=>∃us ts first,σ=[some (.ref a),some (.int (0+(i:Int))),some (.ref l),some (.ref W),some (.ref M),some v,some (.str due),e7,e8,some (.str first),x10,x11]/\Sv T l Hi M us ts v t H'/\(∀t∈ts,Bd 1000 t)/\1<=us.length/\us.length<=9/\Fir ts first,?_,fun σ H7 z=>?_⟩
 ·refine⟨_,rfl,l,3,rfl,s6.ds,by decide,by decide,fun r H7 r0 r1 d7=>?_⟩;refine⟨rfl,_,rfl,?_⟩;show if decide (V.int r=V.int 0)=true then _ else _;rw[cE];have s7:=s6.dr nl d7;cases hr0:(r==0) with
  |false=>exact⟨ys,_,_,rfl,s7,bdM,by lia,by lia,.inl ⟨rfl,ws,hw,rfl⟩⟩
  |true=>
   have gM7:=aR l _ _ _ s7.m;refine⟨_,rfl,.inl ⟨rfl,_,SqL.of gM7⟩,_,rfl,_,rfl,M,ys,rfl,.inl (SqL.of gM7),_,_,rfl,rfl,l,_,rfl,s7.ds,by lia,by lia,fun ri H8 q0 q1 d8=>?_⟩;obtain⟨n,rfl⟩:=EC q0;have s8:=s7.dr nl d8;refine⟨_,rfl,l,rfl,s8.ds,fun u H9 d9 gb=>?_⟩;have s9:=s8.dr nl d9;obtain⟨tb,hb1,hb2,hb3⟩:=gb;have pp:Paired (fun v t=>T4o (hid l H9) v t) (ys.take n++u::ys.drop n) ((ws.map wt).take n++tb::(ws.map wt).drop n):=cc (bS n s9.ps).1 (.cons hb1 (bS n s9.ps).2);refine⟨M,ys,u,n,rfl,rfl,aR l _ _ _ s9.m,Bc (show ys.length<1000000 by lia) (ar (AW _)),by lia,?_⟩;refine⟨_,_,_,rfl,s9.put nMi pp,fun t ht=>?_,?_,?_,.inr ⟨rfl,.inr (.inr ⟨tb,AY _ Bj,hb3⟩)⟩⟩
   ·rcases Bb.mp ht with h|h
    ·exact bdM t (Cg h)
    ·rcases Bl.mp h with rfl|h
     ·exact hb2
     ·exact bdM t (Ci h)
   ·rw[Ba,BA];lia
   ·rw[Ba,BA,Bq,BJ];lia
 obtain⟨us,ts,first,rfl,s7,bd7,u1,u9,fir⟩:=z;clear s6 bdM ly;refine⟨fun σ H'=>∃M us ts,σ=[some (.ref a),some (.int (0+(i:Int))),some (.ref l),some (.ref W),some (.ref M),some v,some (.str due),e7,e8,some (.str first),x10,x11]/\Sv T l Hi M us ts v t H'/\(∀t∈ts,Bd 1000 t)/\us.length<=100/\(Fir ts first\/us.length=0\/8<us.length),?_,fun σ H8 z=>?_⟩
 ·refine⟨_,rfl,l,6,rfl,s7.ds,by decide,by decide,fun r H8 r0 r1 d8=>?_⟩;refine⟨rfl,_,rfl,?_⟩;show if decide (V.int r=V.int 0)=true then _ else _;rw[cE];have s8:=s7.dr nl d8;cases hr0:(r==0) with
  |false=>exact⟨M,us,ts,rfl,s8,bd7,by lia,.inl fir⟩
  |true=>
   refine⟨Bo _,fun p0 n0=>?_⟩;have f0:=Dr.new s8.ds n0 (.lst []);have g0:=bH s8.ds n0 (.lst []);have s9:=s8.dr nl f0;have lr9:(List.replicate (9:Int).toNat us).flatten.length=9*us.length:=lV us 9;refine⟨_,rfl,M,9,us,rfl,rfl,aR l _ _ _ s9.m,by decide,by decide,ar (by show us.length*9<=1000000;lia),fun p1 n1=>?_⟩;have f1:=Dr.new s9.ds n1 (.lst (List.replicate (9:Int).toNat us).flatten);have g1:=bH s9.ds n1 (.lst (List.replicate (9:Int).toNat us).flatten);refine⟨_,rfl,l,3,rfl,f1.ds,by decide,by decide,fun r3 H9 q0 q1 d9=>⟨_,_,rfl,rfl,?_⟩⟩;obtain⟨n,rfl⟩:=EC q0;refine⟨_,rfl,p1,_,rfl,SqL.of (aR l _ _ _ (d9.same _ _ g1)),fun p2 n2=>?_⟩;rw[show(9:Int)+(n:Int)=((9+n:Nat):Int) by lia,kX];have f2:=Dr.new d9.ds n2 (.lst ((List.replicate (9:Int).toNat us).flatten.take (9+n)));have g2:=bH d9.ds n2 (.lst ((List.replicate (9:Int).toNat us).flatten.take (9+n)));refine⟨ar (by show 2<=1000000;decide),fun p3 n3=>?_⟩;have f3:=Dr.new f2.ds n3 (.lst [.ref p0,.ref p2]);have g3:=bH f2.ds n3 (.lst [.ref p0,.ref p2]);refine⟨_,rfl,l,2,rfl,f3.ds,by decide,by decide,fun r2 H10 t0 t1 d10=>?_⟩;have F3:=f3.trans d10;have F1:=f1.trans (d9.trans (f2.trans F3));have s10:=s9.dr nl F1;obtain rfl|rfl:r2=0\/r2=1:=by lia
   ·refine⟨p3,_,0,_,rfl,rfl,SqL.of (aR l _ _ _ (d10.same _ _ g3)),rfl,?_⟩;exact⟨p0,[],[],rfl,⟨s10.fi,s10.ds,s10.lt,F1.same _ _ g0,.nil,s10.tb⟩,fun t h=>absurd h (by simp),Bo _,.inr (.inl rfl)⟩
   ·refine⟨p3,_,1,_,rfl,rfl,SqL.of (aR l _ _ _ (d10.same _ _ g3)),rfl,?_⟩;refine⟨p2,_,(List.replicate (9:Int).toNat ts).flatten.take (9+n),rfl,⟨s10.fi,s10.ds,s10.lt,F3.same _ _ g2,(bS _ (fv s10.ps _)).1,s10.tb⟩,fun t h=>?_,?_,.inr (.inr ?_)⟩
    ·obtain⟨x',hx',ht⟩:=List.mem_flatten.mp (Cg h);rw[Dq hx'] at ht;exact bd7 t ht
    ·rw[Bq];lia
    ·rw[Bq];lia
 obtain⟨M',vs,us',rfl,s8,bd8,u100,fir'⟩:=z;clear s7 bd7 u1 u9 fir nMi nMl;have lv:=Paired.length s8.ps;have gM8:=aR l _ _ _ s8.m;refine⟨fun σ H'=>H'=H8/\∃first,σ=[some (.ref a),some (.int (0+(i:Int))),some (.ref l),some (.ref W),some (.ref M'),some v,some (.str due),e7,e8,some (.str first),x10,x11]/\Fir us' first,?_,fun σ H9 z=>?_⟩
 ·refine⟨_,rfl,M',vs,rfl,.inl (SqL.of gM8),_,_,rfl,rfl,decide ((1:Int)<=(vs.length:Int)),rfl,?_⟩;by_cases h0:vs.length=0
  ·rw[Eb (by lia)];exact⟨false,rfl,rfl,_,rfl,.inr ⟨rfl,.inl (by lia)⟩⟩
  rw[Ea (by lia)];refine⟨_,_,rfl,rfl,decide ((vs.length:Int)<=8),rfl,?_⟩;by_cases h8:8<vs.length
  ·rw[Eb (by lia)];exact⟨rfl,_,rfl,.inr ⟨rfl,.inr (.inl (by lia))⟩⟩
  rw[Ea (by lia)];refine⟨rfl,first,rfl,?_⟩;rcases fir' with h|h
  ·exact h
  ·lia
 obtain⟨rfl,fst,rfl,fir⟩:=z;clear fir';refine⟨_,rfl,M',vs,rfl,.inl (SqL.of gM8),fun hd nhd=>?_⟩;have S10:=af nhd (.lst vs);have s10:=s8.dr nl (Dr.of_same s8.ds S10);have M10:GI (upd H9 hd (.lst vs)) hd vs us':=⟨ae,Paired.Gy s10.ps fun _ _ h=>h.mono (aR l _),bd8,u100⟩
 have h10:=s10.tb.mono (aR l _);have gM10:=aR l _ _ _ s10.m;generalize upd H9 hd (.lst vs)=H10 at S10 s10 M10 h10 gM10 ⊢;obtain⟨ps10,gT10,_⟩:=s10.lt.ex;clear s8 S10 gM8 nhd;refine⟨9,rfl,by decide,by decide,?_⟩;refine rg (lo:=0) (n:=9) (fun k zs H'=>SmB T H10 H'/\Fq GJ GQ T H'/\zs=((List.range k).map (lu fst due)).map V.str) ⟨SmB.of (EJ.refl _),s10.lt,rfl⟩ (fun k zs H' hk z=>by rw[z.2.2,AX,AX,List.length_range];exact AW _) (ar (by decide)) (fun k zs H' hk z=>?_) (fun zs H' z R nR=>?_)
 ·obtain⟨z1,z2,rfl⟩:=z;obtain⟨a4,ea,g4⟩:=h10;refine⟨_,rfl,_,rfl,_,rfl,k,hd,vs,us',v,t,by rw[Int.zero_add];rfl,hk,M10.smb gT10 z1,⟨a4,ea,z1 _ _ (bZ g4 gT10 (fun z=>by cases z)) g4⟩,bt,z2,fun z H2 an S2 L2=>Nx.mk hk ⟨z1.trans S2,L2,?_⟩⟩;rw[Dl,Bk,Bk,show z=lu fst due k from an.eq fir dt];rfl
 obtain⟨z1,z2,rfl⟩:=z;have S11:=af nR (.lst (((List.range 9).map (lu fst due)).map V.str));have gR:upd H' R (.lst (((List.range 9).map (lu fst due)).map V.str)) R=some (.lst (((List.range 9).map (lu fst due)).map V.str)):=ae;have A11:=z1.trans (SmB.of S11);have L11:=z2.same S11;have M11:=M10.smb gT10 A11;have gM11:=A11 _ _ (bZ gM10 gT10 (fun z=>by cases z)) gM10;generalize upd H' R (.lst (((List.range 9).map (lu fst due)).map V.str))=H11 at S11 gR A11 L11 M11 gM11 ⊢;clear z1 z2 nR M10 gM10;refine⟨_,rfl,fun u H'=>H'=H11/\u=.str (if fst="" then due else fst),?_,?_⟩
 ·refine⟨_,rfl,fst,rfl,?_,?_⟩
  ·rcases fir with ⟨rfl,_⟩|⟨rfl,_⟩
   ·exact Bo _
   ·exact ar (by show 9<=1000000;decide)
  rcases fir with ⟨rfl,_⟩|⟨rfl,_⟩
  ·rw[DZ rfl];exact⟨_,rfl,rfl,rfl⟩
  ·rw[DY (by decide)];exact⟨rfl,rfl⟩
 rintro u Hx ⟨rfl,rfl⟩;refine⟨ar (by show 1<=1000000;decide),fun c1 n1=>?_⟩;have T1:=af n1 (.lst [.str (if fst="" then due else fst)]);refine⟨c1,3,_,rfl,rfl,ae,by decide,by decide,ar (by show 1*3<=1000000;decide),fun c2 n2=>?_⟩;have T2:=af n2 (.lst (List.replicate (3:Int).toNat [V.str (if fst="" then due else fst)]).flatten);refine⟨_,rfl,ar (by show 1<=1000000;decide),fun c3 n3=>?_⟩;have T3:=af n3 (.lst [.str fst]);refine⟨c3,6,_,rfl,rfl,ae,by decide,by decide,ar (by show 1*6<=1000000;decide),fun c4 n4=>?_⟩;have T4:=af n4 (.lst (List.replicate (6:Int).toNat [V.str fst]).flatten);refine⟨c2,c4,_,_,rfl,rfl,T4 _ _ (T3 _ _ ae),ae,ar (by show 3+6<=1000000;decide),fun c5 n5=>?_⟩;have T5:=af n5 (.lst ((List.replicate (3:Int).toNat [V.str (if fst="" then due else fst)]).flatten++(List.replicate (6:Int).toNat [V.str fst]).flatten));have T0:=T1.trans (T2.trans (T3.trans (T4.trans T5)));have lay:=FP _ (qL fir dt);refine⟨.list (((List.range 9).map (lu fst due)).map PyData.str),.list (((List.range 9).map (lu fst due)).map PyData.str),.lst (SqL.of (T0 _ _ gR)) (DatAll.strs _),.lst (SqL.of ae) (by rw[<- qI];exact DatAll.strs _),lay,lay,da _,false,ne_d _ lay,?_⟩;refine⟨_,rfl,_,rfl,_,_,.lst (SqL.of (T0 _ _ M11.g)) (fU (M11.same T0).ps),.lst (SqL.of (T0 _ _ gM11)) (fU (M11.same T0).ps),gO _,gO _,lp _,false,qJ _,?_⟩;exact⟨_,_,_,_,_,_,_,_,_,_,_,rfl,Si.trans (s10.fi.trans (A11.trans (SmB.of T0))),L11.same T0⟩
end
theorem eB{us:List Value}(h:us.length=1):∃a,us=[a]:=match us,h with|[a],_=>⟨a,rfl⟩
theorem hJ{us:List Value}(h:us.length=2):∃a b,us=[a,b]:=match us,h with|[a,b],_=>⟨a,b,rfl⟩
theorem uv{us:List Value}(h:us.length=3):∃a b c,us=[a,b,c]:=match us,h with|[a,b,c],_=>⟨a,b,c,rfl⟩
def FIn (K:W.Frag)(fn:Str)(st:Stmt):Prop:=∃(f:Addr)(oc:Value)(od an:Option Addr)(sl:Array (Option Value))(kV dc pm cd ct:Value),W.nsIn K mainGlobals fn=some (some (.ref f))/\K.lookup f=some ⟨oc,od,.func (W.fnOf fn fn (bN st) (bz st) (ak st) .none kV dc pm an cd ct),sl⟩/\W.codeIn K cd fn=true/\W.keepIn K (.ref f)=true
theorem FIn.of{K:W.Frag}{fn:Str}{st:Stmt}{f:Addr}{oc:Value}{od an:Option Addr}{sl:Array (Option Value)}{kV dc pm cd ct:Value}(a:W.nsIn K mainGlobals fn=some (some (.ref f)))(l:K.lookup f=some ⟨oc,od,.func (W.fnOf fn fn (bN st) (bz st) (ak st) .none kV dc pm an cd ct),sl⟩)(c:W.codeIn K cd fn=true)(k:W.keepIn K (.ref f)=true):FIn K fn st:=⟨f,oc,od,an,sl,kV,dc,pm,cd,ct,a,l,c,k⟩
theorem FIn.dd{K:W.Frag}{fn:Str}{st:Stmt}{h:Heap}{mg:Str->Option Value}(a:FIn K fn st)(X:K.In h)(G:h.Ns mainGlobals mg){ps:List Str}(hb:∀(kV doc pm:Value)(an:Option Addr)(cdv ct:Value)(us:List Value),us.length=ps.length->bindArgs (W.fnOf fn fn (bN st) (bz st) (ak st) .none kV doc pm an cdv ct) ⟨us,[]⟩=pure (ps.zip us)):∃d:DD,Def K mg fn st ps d:=by
 obtain⟨f,oc,od,an,sl,kV,dc,pm,cd,ct,a,l,c,k⟩:=a;have F:=nI (st:=st) l c k;exact⟨⟨f,_⟩,F,Eo X G a,F.binds (ps:=ps) hb⟩
theorem all_mk{l:W.OpenLaw}{w:World}{K:W.Frag}{h:Heap}{mg:Str->Option Value}{fa:Addr}(X:K.In h)(G:h.Ns mainGlobals mg)(hfa:mg "law"=some (.ref fa))
  (zi:FIn K "is_whole" (top 15))
  (Ao:FIn K "is_table" (top 16))
  (zj:FIn K "worth" (top 17))
  (zh:FIn K "_law_times" (top 56))
  (zH:FIn K "_law_made" (top 57))
  (Az:FIn K "_law_of_letters" (top 58))
  (zE:FIn K "_law_draw" (top 59))
  (ze:FIn K "_law_draws" (top 61))
  (zg:FIn K "is_plain" (top 20))
  (a_ww:FIn K "word_within" (top 21))
  (AD:FIn K "word_of" (top 22))
  (Aw:FIn K "maker_word" (top 26))
  (Av:FIn K "maker_words" (top 27))
  (zG:FIn K "last_steps" (top 28))
  (zJ:FIn K "ways_to_places" (top 29))
  (a_sf:FIn K "shortest_first" (top 30))
  (Au:FIn K "least_to_places" (top 31))
  (a_lr:FIn K "least_row" (top 33))
  (a_mr:FIn K "many_rows" (top 34))
  (a_rp:FIn K "reached_places" (top 32))
  (a_rd:FIn K "reached" (top 35))
  (zf:FIn K "_law_piece" (top 60))
  (Ap:FIn K "_law_makers" (top 62))
  (Aq:FIn K "_law_target" (top 63))
  (a_fp:FIn K "first_pairs" (top 37))
  (AC:FIn K "words_within" (top 39))
  (AB:FIn K "words_beyond" (top 40))
  (a_fl:FIn K "first_lefts" (top 38))
  (a_nl:FIn K "next_lefts" (top 41))
  (a_lo:FIn K "leftovers" (top 42))
  (a_ip:FIn K "is_paper" (top 43))
  (a_lb:FIn K "let_by" (top 44))
  (a_fs:FIn K "first_steps" (top 45))
  (a_ns:FIn K "next_steps" (top 46))
  (a_ks:FIn K "keep_shorter" (top 47))
  {f_to:Addr}{od_to an_to:Option Addr}{sl_to:Array (Option Value)}{oc_to kV_to dc_to pm_to cd_to ct_to:Value}
  (a_to:W.nsIn K mainGlobals "twins_of"=some (some (.ref f_to)))(l_to:K.lookup f_to=some ⟨oc_to,od_to,.func (W.fnOf "twins_of" "twins_of" (bN (top 48)) (bz (top 48)) (ak (top 48)) .none kV_to dc_to pm_to an_to cd_to ct_to),sl_to⟩)(c_to:W.codeIn K cd_to "twins_of"=true)(k_to:W.keepIn K (.ref f_to)=true)
  (AA:FIn K "twins" (top 49))
  (a_in:FIn K "is_needed" (top 50))
  (Ay:FIn K "needed_of" (top 51))
  (Ax:FIn K "needed" (top 52))
  (zI:FIn K "same" (top 53))
  (zF:FIn K "_law_kind" (top 55))
  (Am:FIn K "_law_asked" (top 64))
  (An:FIn K "_law_bad" (top 65))
  {f_law:Addr}{od_law an_law:Option Addr}{sl_law:Array (Option Value)}{oc_law kV_law dc_law pm_law cd_law ct_law:Value}
  (zV:W.nsIn K mainGlobals "law"=some (some (.ref f_law)))(l_law:K.lookup f_law=some ⟨oc_law,od_law,.func (W.fnOf "law" "law" (bN (top 66)) (bz (top 66)) (ak (top 66)) .none kV_law dc_law pm_law an_law cd_law ct_law),sl_law⟩)(c_law:W.codeIn K cd_law "law"=true)(k_law:W.keepIn K (.ref f_law)=true)
  {one:Addr}(AH:W.nsIn K mainGlobals "ONE"=some (some (.ref one)))
  {odo_ONE:Option Addr}{ito_ONE:Array Value}{no_ONE:Nat}{slo_ONE:Array (Option Value)}(l_ONE:K.lookup one=some ⟨.type "tuple",odo_ONE,.seq ito_ONE no_ONE,slo_ONE⟩)(z_ONE:ito_ONE.size<=sizeLine)(v_ONE:Vals Tb.one.vs ito_ONE.toList)
  {t_LW:Tok}(e_LW:W.nsIn K mainGlobals "LONGEST_WORD"=some (some (.int 400 t_LW)))
  {t_LM:Tok}(e_LM:W.nsIn K mainGlobals "LONGEST_MAKER"=some (some (.int 40 t_LM)))
  {t_MM:Tok}(e_MM:W.nsIn K mainGlobals "MOST_MAKERS"=some (some (.int 8 t_MM)))
  {cdA tA bmA:Addr}{obm:Obj}(ec:cd_to=.ref cdA)(hdA:∀h:Heap,K.In h->W.CodeHd h cdA tA)(neA:mainGlobals≠tA)(e_BI:W.nsIn K mainGlobals "__builtins__"=some (some (.ref bmA)))(l_BI:K.lookup bmA=some obm)(p_BI:bmA≠builtinsNs/\bmA≠mainGlobals/\bmA≠tA/\obm.cls=.type "module"/\obm.dict=some builtinsNs/\obm.data=.plain)
  {q0:Addr}(yM:W.nsIn K mainGlobals "NoBack"=some (some (.ref q0)))
  {q1:Addr}(yE:W.nsIn K mainGlobals "NoCount"=some (some (.ref q1)))
  {q2:Addr}(wQ:W.nsIn K mainGlobals "NoMakers"=some (some (.ref q2)))
  {q3:Addr}(yO:W.nsIn K mainGlobals "NoName"=some (some (.ref q3)))
  {q4:Addr}(xG:W.nsIn K mainGlobals "NoPlain"=some (some (.ref q4)))
  {q5:Addr}(zk:W.nsIn K mainGlobals "NoRow"=some (some (.ref q5)))
  {q6:Addr}(yP:W.nsIn K mainGlobals "NoText"=some (some (.ref q6)))
  {q7:Addr}(yQ:W.nsIn K mainGlobals "NoWide"=some (some (.ref q7)))
  {q8:Addr}(yR:W.nsIn K mainGlobals "NoWord"=some (some (.ref q8)))
  {q9:Addr}(xH:W.nsIn K mainGlobals "TooLong"=some (some (.ref q9)))
  {q10:Addr}(yN:W.nsIn K mainGlobals "NoMill"=some (some (.ref q10)))
  {qe:Addr}(wY:W.nsIn K mainGlobals "QuadError"=some (some (.ref qe)))(xC:W.excIn K qe HR "ValueError.__new__"=true)
  (gn:W.specialIn K (.builtin "object.__class__") "__get__"=some (some (.builtin "getset_descriptor.__get__")))(tk:W.takesIn K (.builtin "object.__class__")=some true)
  (wF:W.excIn K q2 HR "ValueError.__new__"=true)(xB:L2.subIn K q2 qe=true)(wZ:W.findIn K (.ref q2) "__getattribute__"=some (some (.builtin "BaseException.__getattribute__")))(xa:W.findIn K (.ref q2) "__getattr__"=some none)(wW:W.findIn K (.ref q2) "__class__"=some (some (.builtin "object.__class__")))(xf:W.mroIn K q2 (.type "object")=some true)(xc:W.mroIn K q2 (.type "BaseException")=some true){cd_NoMakers:ClassData}(wX:W.clsIn K q2=some cd_NoMakers)
  (xh:W.kitOne K (.ref q2) (.ref q0)=some false)
  (xn:W.kitOne K (.ref q2) (.ref q1)=some false)
  (xo:W.kitOne K (.ref q2) (.ref q2)=some true)
  (xp:W.kitOne K (.ref q2) (.ref q3)=some false)
  (xq:W.kitOne K (.ref q2) (.ref q4)=some false)
  (xr:W.kitOne K (.ref q2) (.ref q5)=some false)
  (xu:W.kitOne K (.ref q2) (.ref q6)=some false)
  (xw:W.kitOne K (.ref q2) (.ref q7)=some false)
  (xx:W.kitOne K (.ref q2) (.ref q8)=some false)
  (xA:W.kitOne K (.ref q2) (.ref q9)=some false)
  (wN:W.kitOne K (.ref q2) (.ref q10)=some false)
  (wO:W.kitOne K (.ref q2) (.type "ValueError")=some true)
  (xI:W.excIn K q4 HR "ValueError.__new__"=true)(yy:L2.subIn K q4 qe=true)(xS:W.findIn K (.ref q4) "__getattribute__"=some (some (.builtin "BaseException.__getattribute__")))(xU:W.findIn K (.ref q4) "__getattr__"=some none)(xO:W.findIn K (.ref q4) "__class__"=some (some (.builtin "object.__class__")))(xY:W.mroIn K q4 (.type "object")=some true)(xW:W.mroIn K q4 (.type "BaseException")=some true){cd_NoPlain:ClassData}(xQ:W.clsIn K q4=some cd_NoPlain)
  (ya:W.kitOne K (.ref q4) (.ref q0)=some false)
  (yc:W.kitOne K (.ref q4) (.ref q1)=some false)
  (ye:W.kitOne K (.ref q4) (.ref q2)=some false)
  (yg:W.kitOne K (.ref q4) (.ref q3)=some false)
  (yi:W.kitOne K (.ref q4) (.ref q4)=some true)
  (yk:W.kitOne K (.ref q4) (.ref q5)=some false)
  (yo:W.kitOne K (.ref q4) (.ref q6)=some false)
  (yq:W.kitOne K (.ref q4) (.ref q7)=some false)
  (yt:W.kitOne K (.ref q4) (.ref q8)=some false)
  (yw:W.kitOne K (.ref q4) (.ref q9)=some false)
  (xi:W.kitOne K (.ref q4) (.ref q10)=some false)
  (xk:W.kitOne K (.ref q4) (.type "ValueError")=some true)
  (xJ:W.excIn K q9 HR "ValueError.__new__"=true)(yA:L2.subIn K q9 qe=true)(xT:W.findIn K (.ref q9) "__getattribute__"=some (some (.builtin "BaseException.__getattribute__")))(xV:W.findIn K (.ref q9) "__getattr__"=some none)(xP:W.findIn K (.ref q9) "__class__"=some (some (.builtin "object.__class__")))(xZ:W.mroIn K q9 (.type "object")=some true)(xX:W.mroIn K q9 (.type "BaseException")=some true){cd_TooLong:ClassData}(xR:W.clsIn K q9=some cd_TooLong)
  (yb:W.kitOne K (.ref q9) (.ref q0)=some false)
  (yd:W.kitOne K (.ref q9) (.ref q1)=some false)
  (yf:W.kitOne K (.ref q9) (.ref q2)=some false)
  (yh:W.kitOne K (.ref q9) (.ref q3)=some false)
  (yj:W.kitOne K (.ref q9) (.ref q4)=some false)
  (yn:W.kitOne K (.ref q9) (.ref q5)=some false)
  (yp:W.kitOne K (.ref q9) (.ref q6)=some false)
  (yr:W.kitOne K (.ref q9) (.ref q7)=some false)
  (yu:W.kitOne K (.ref q9) (.ref q8)=some false)
  (yx:W.kitOne K (.ref q9) (.ref q9)=some true)
  (xj:W.kitOne K (.ref q9) (.ref q10)=some false)
  (xm:W.kitOne K (.ref q9) (.type "ValueError")=some true)
  (AL:W.nsIn K mainGlobals "int"=some none)   (zM:W.nsIn K mainGlobals "bool"=some none)   (wM:W.nsIn K mainGlobals "isinstance"=some none)   (zo:W.nsIn K mainGlobals "tuple"=some none)   (zN:W.nsIn K mainGlobals "list"=some none)   (AR:W.nsIn K mainGlobals "str"=some none)   (AM:W.nsIn K mainGlobals "len"=some none)   (AK:W.nsIn K mainGlobals "all"=some none)   (zl:W.nsIn K mainGlobals "range"=some none)   (AN:W.nsIn K mainGlobals "max"=some none)   (AO:W.nsIn K mainGlobals "min"=some none)   (AS:W.nsIn K mainGlobals "sum"=some none)   (xg:W.nsIn K mainGlobals "enumerate"=some none)   (yS:W.nsIn K mainGlobals "sorted"=some none)   (AQ:W.nsIn K mainGlobals "set"=some none)   (wL:W.nsIn K mainGlobals "ValueError"=some none) :
  ∃fd:FuncData,(∀(s:Shared)(v:Value),BindsTo s fd ⟨[v],[]⟩ [("script",v)])/\∀base:Heap,K.In base->base.Ns mainGlobals mg->EK l.prog w K mg base CX0 8 fa fd ["script"] (oO tA K):=by
 have e:=hfa.symm.trans (Eo X G zV);cases e;have yL:=Ep X G AL;have zK:=Ep X G zM;have wm:=Ep X G wM;have xN:=Ep X G zo;have xF:=Ep X G zN;have AF:=Ep X G AR;have wo:=Ep X G AM;have yD:=Ep X G AK;have wq:=Ep X G zl;have AE:=Ep X G AN;have yB:=Ep X G AO;have AG:=Ep X G AS;have wz:=Ep X G xg;have wH:=Ep X G yS;have b_set:=Ep X G AQ;have wI:=Ep X G wL;obtain ⟨d_whole,xK⟩ :=zi.dd X G (ps:=["thing"]) (by walk_at "u");obtain ⟨d_ist,zQ⟩ :=Ao.dd X G (ps:=["thing"]) (by walk_at "u");obtain ⟨d_worth,yJ⟩ :=zj.dd X G (ps:=["table"]) (by walk_at "u");obtain ⟨d_times,yI⟩ :=zh.dd X G (ps:=["one","other"]) (by walk_at "u");obtain ⟨d_made,zp⟩ :=zH.dd X G (ps:=["tables"]) (by walk_at "u");obtain ⟨d_ofl,yU⟩ :=Az.dd X G (ps:=["word"]) (by walk_at "u");obtain ⟨d_draw,wu⟩ :=zE.dd X G (ps:=["draws","many"]) (by walk_at "u");obtain ⟨d_draws,yH⟩ :=ze.dd X G (ps:=["script","k"]) (by walk_at "u");obtain ⟨d_plain,wV⟩ :=zg.dd X G (ps:=["table"]) (by walk_at "u");obtain ⟨d_ww,D_ww⟩ :=a_ww.dd X G (ps:=["table","most"]) (by walk_at "u");obtain ⟨d_wof,wR⟩ :=AD.dd X G (ps:=["table"]) (by walk_at "u");obtain ⟨d_mkw,zr⟩ :=Aw.dd X G (ps:=["maker"]) (by walk_at "u");obtain ⟨d_mks,wA⟩ :=Av.dd X G (ps:=["makers"]) (by walk_at "u");obtain ⟨d_last,yC⟩ :=zG.dd X G (ps:=["words","text","end"]) (by walk_at "u");obtain ⟨d_ways,wU⟩ :=zJ.dd X G (ps:=["words","text"]) (by walk_at "u");obtain ⟨d_sf,D_sf⟩ :=a_sf.dd X G (ps:=["row"]) (by walk_at "u");obtain ⟨d_ltp,zU⟩ :=Au.dd X G (ps:=["words","text"]) (by walk_at "u");obtain ⟨d_lr,D_lr⟩ :=a_lr.dd X G (ps:=["makers","table"]) (by walk_at "u");obtain ⟨d_mr,D_mr⟩ :=a_mr.dd X G (ps:=["makers","table"]) (by walk_at "u");obtain ⟨d_rp,D_rp⟩ :=a_rp.dd X G (ps:=["words","text"]) (by walk_at "u");obtain ⟨d_rd,D_rd⟩ :=a_rd.dd X G (ps:=["makers","table"]) (by walk_at "u");obtain ⟨d_piece,wD⟩ :=zf.dd X G (ps:=["draws","most"]) (by walk_at "u");obtain ⟨d_lmk,zR⟩ :=Ap.dd X G (ps:=["draws"]) (by walk_at "u");obtain ⟨d_ltg,zS⟩ :=Aq.dd X G (ps:=["draws","words","most"]) (by walk_at "u");obtain ⟨d_fp,D_fp⟩ :=a_fp.dd X G (ps:=["words"]) (by walk_at "u");obtain ⟨d_win,yW⟩ :=AC.dd X G (ps:=["words","text"]) (by walk_at "u")
 obtain ⟨d_wbe,yV⟩ :=AB.dd X G (ps:=["words","text"]) (by walk_at "u");obtain ⟨d_fl,D_fl⟩ :=a_fl.dd X G (ps:=["words"]) (by walk_at "u");obtain ⟨d_nl,D_nl⟩ :=a_nl.dd X G (ps:=["words","text"]) (by walk_at "u");obtain ⟨d_lo,D_lo⟩ :=a_lo.dd X G (ps:=["makers"]) (by walk_at "u");obtain ⟨d_ip,D_ip⟩ :=a_ip.dd X G (ps:=["texts"]) (by walk_at "u");obtain ⟨d_lb,D_lb⟩ :=a_lb.dd X G (ps:=["makers","texts"]) (by walk_at "u");obtain ⟨d_fs,D_fs⟩ :=a_fs.dd X G (ps:=["words"]) (by walk_at "u");obtain ⟨d_ns,D_ns⟩ :=a_ns.dd X G (ps:=["words","left","found"]) (by walk_at "u");obtain ⟨d_ks,D_ks⟩ :=a_ks.dd X G (ps:=["waiting","done","steps"]) (by walk_at "u");have F_to:=nI (st:=top 48) l_to c_to k_to;have D_to:Def K mg "twins_of" (top 48) ["words"] ⟨f_to,_⟩ :=⟨F_to,Eo X G a_to,F_to.binds (ps:=["words"]) fun _ _ _ _ _ _ us hl=>by obtain ⟨_,rfl⟩ :=eB hl;rfl⟩
 obtain ⟨d_twn,zu⟩ :=AA.dd X G (ps:=["makers"]) (by walk_at "u");obtain ⟨vQ,D_in⟩ :=a_in.dd X G (ps:=["words","number"]) (by walk_at "u");obtain ⟨d_nof,yT⟩ :=Ay.dd X G (ps:=["words"]) (by walk_at "u");obtain ⟨d_ned,zt⟩ :=Ax.dd X G (ps:=["makers"]) (by walk_at "u");obtain ⟨d_same,xD⟩ :=zI.dd X G (ps:=["makers","others"]) (by walk_at "u");obtain ⟨d_kind,yF⟩ :=zF.dd X G (ps:=["e"]) (by walk_at "u");obtain ⟨d_ask,zO⟩ :=Am.dd X G (ps:=["door","makers","table"]) (by walk_at "u");obtain ⟨d_bad,zP⟩ :=An.dd X G (ps:=["draws"]) (by walk_at "u");have F_law:=nI (st:=top 66) l_law c_law k_law;have AU:Def K mg "law" (top 66) ["script"] ⟨fa,_⟩ :=⟨F_law,Eo X G zV,F_law.binds (ps:=["script"]) fun _ _ _ _ _ _ us hl=>by obtain ⟨_,rfl⟩ :=eB hl;rfl⟩
 have kO:∀H,SqT K H one Tb.one.vs:=fun H=>.inr ⟨_,ito_ONE,no_ONE,l_ONE,rfl,rfl,z_ONE,v_ONE⟩;have mO:=Eo X G AH;have LK:KW K mg cdA tA:=⟨hdA,fun h KX=>⟨bmA,obm,Eo X G e_BI,p_BI.1,p_BI.2.1,p_BI.2.2.1,KX _ _ l_BI,p_BI.2.2.2⟩,neA⟩
 have M:LF mg [q0,q1,q2,q3,q4,q5,q6,q7,q8,q9,q10]:=⟨Eo X G yM,Eo X G yE,Eo X G wQ,Eo X G yO,Eo X G xG,Eo X G zk,Eo X G yP,Eo X G yQ,Eo X G yR,Eo X G xH,Eo X G yN,wm,wq,wI⟩
 have yX:JV K [q0,q1,q2,q3,q4,q5,q6,q7,q8,q9,q10] qe q2 2:=⟨wF,xB,⟨wZ,xa,wW,gn,tk,xf,xc,by rw[wX];rfl⟩,xh,xn,xo,xp,xq,xr,xu,xw,xx,xA,wN,wO⟩
 have wB:=Eo X G wQ;have zv:JV K [q0,q1,q2,q3,q4,q5,q6,q7,q8,q9,q10] qe q4 4:=⟨xI,yy,⟨xS,xU,xO,gn,tk,xY,xW,by rw[xQ];rfl⟩,ya,yc,ye,yg,yi,yk,yo,yq,yt,yw,xi,xk⟩
 have wJ:=Eo X G xG;have zw:JV K [q0,q1,q2,q3,q4,q5,q6,q7,q8,q9,q10] qe q9 9:=⟨xJ,yA,⟨xT,xV,xP,gn,tk,xZ,xX,by rw[xR];rfl⟩,yb,yd,yf,yh,yj,yn,yp,yr,yu,yx,xj,xm⟩
 have wK:=Eo X G xH;have xb:=Eo X G wY;refine⟨W.fnOf "law" "law" (bN (top 66)) (bz (top 66)) (ak (top 66)) .none kV_law dc_law pm_law an_law cd_law ct_law,fun s v=>.of_eq rfl,fun base _ _=>?_⟩;have zc:=oW (P:=l.prog) (w:=w) (base:=base) xK yL zK wm;have Ae:=uG ⟨xK,zc⟩ zQ xN wo yD wm;have zd:=oP (P:=l.prog) (w:=w) (base:=base) yJ;have zb:=oD (P:=l.prog) (w:=w) (base:=base) yI wq xN;have zD:=oA ⟨yI,zb⟩ zp;have za:=sW ⟨zp,zD⟩ yU;have wx:=rH (P:=l.prog) (w:=w) (base:=base) wu;have yY:=pK (P:=l.prog) (w:=w) (base:=base) yH wo yL;have xM:=om ⟨zQ,Ae⟩  ⟨yJ,zd⟩ wV yB;have G_ww:=vi (P:=l.prog) (w:=w) (base:=base) mO kO D_ww wo;have yK:=tO (Eo X G e_LW) ⟨wV,xM⟩  ⟨D_ww,G_ww⟩ wJ xI wK xJ wR;have Ai:=ur (Eo X G e_LM) ⟨wV,xM⟩  ⟨D_ww,G_ww⟩ wB wF zr;have wC:=sM (Eo X G e_MM) zr Ai wB wF wA wm xF wo;have yG:=rf (P:=l.prog) (w:=w) (base:=base) yC wz wo;have xE:=qQ ⟨yC,yG⟩ wU wq wo AG;have G_sf:=vj (P:=l.prog) (w:=w) (base:=base) D_sf wo;have Ah:=sR ⟨yC,yG⟩  ⟨D_sf,G_sf⟩ zU wq wo yB;have G_lr:=uT wA wC wR yK ⟨zU,Ah⟩ D_lr wo;have G_mr:=va wA wC wR yK ⟨wU,xE⟩ D_mr wo;have G_rp:=uN ⟨wU,xE⟩ D_rp wz;have G_rd:=uU wA wC wR yK ⟨D_rp,G_rp⟩ D_rd;have wG:=oB ⟨wu,wx⟩ wD wq;have Af:=tS ⟨wu,wx⟩  ⟨wD,wG⟩ zR wq wo;have Ag:=ug ⟨wu,wx⟩  ⟨wD,wG⟩ zS wq wo;have G_fp:=uQ (P:=l.prog) (w:=w) (base:=base) D_fp wo wq;have zB:=tY (P:=l.prog) (w:=w) (base:=base) yW wz;have zA:=sC (P:=l.prog) (w:=w) (base:=base) yV wz;have G_fl:=vH ⟨D_fp,G_fp⟩ D_fl wo;have G_nl:=vM ⟨yW,zB⟩  ⟨yV,zA⟩ D_nl wo;have G_lo:=vJ (T:=tA) (sI wA ⟨D_fl,G_fl⟩  ⟨D_nl,G_nl⟩ D_lo wH (rJ wC)) (sD wA wC D_lo);have G_ip:=vd (P:=l.prog) (w:=w) (base:=base) D_ip wm xF AF yD;have G_lb:=vb wA wC ⟨D_ip,G_ip⟩  ⟨D_fl,G_fl⟩  ⟨D_nl,G_nl⟩ D_lb yD;have G_fs:=uZ ⟨D_fp,G_fp⟩ D_fs wo;have G_ns:=vF ⟨yW,zB⟩  ⟨yV,zA⟩ D_ns wo;have G_ks:=vK (P:=l.prog) (w:=w) (base:=base) D_ks;have G_to:=vA LK ec ⟨D_fs,G_fs⟩  ⟨D_ks,G_ks⟩  ⟨D_ns,G_ns⟩ D_to yB;have Ak:=tD wA wC ⟨D_to,G_to⟩ zu;have G_in:=vp ⟨wU,xE⟩ D_in wo;have yZ:=uH ⟨D_in,G_in⟩ yT wq wo;have Aj:=uB (T:=tA) wA wC ⟨yT,yZ⟩ zt;have zq:=sf wA wC ⟨yT,yZ⟩ xD wH;have zC:=sd (P:=l.prog) (w:=w) (base:=base) M yF;have Ac:=uq (T:=tA) xb xC yX zv zw D_lr G_lr D_mr G_mr D_rd G_rd zu Ak D_lo G_lo D_lb G_lb zt Aj xD zq yF zC zO;have Ad:=tE ⟨wD,wG⟩  ⟨wu,wx⟩  ⟨yU,za⟩ zP;have Al:All tA l.prog w K mg base ⟨d_draws,d_draw,d_lmk,d_ofl,d_ltg,d_bad,d_ask⟩:=
  ⟨yH,wu,zR,yU,zS,zP,zO,yY,wx,Af,za,Ag,Ad,Ac,wq,AE,yB,wo,xF,yL⟩
 exact uj Al AU
theorem walk{l:W.OpenLaw}{q:Program}{loose:List Str}{XP:(Str->Option Value)->Heap->Prop}{YP:World->Heap->Prop}{d:DefRec}{K KF:Params->W.Frag}{T c0:Addr}{ps:Array Value}(hn:l.most=some 63)(hdf:d.params.defaults=[])(hps:TriplesOk ps.toList/\codeAmong GJ ps.toList=none)
  (hY:∀(w:World)(h:Heap),YP w h->(KF w.params).In h)(hKF:∀(p:Params)(h:Heap),(KF p).In h->(K p).In h/\h.get? T=some (W.tabObj ps)/\W.CodeHd h c0 T)(kT:∀p:Params,(K p).lookup T=none)
  (F:∀(w:World) (mg:Str->Option Value) (fa:Addr) (h:Heap),(K w.params).In h->h.Ns mainGlobals mg->mg d.name=some (.ref fa) ->
   ∃fd:FuncData,(∀(s:Shared) (u:Value),BindsTo s fd ⟨[u],[]⟩ [("script",u)])/\∀base:Heap,(K w.params).In base->base.Ns mainGlobals mg->EK l.prog w (K w.params) mg base CX0 8 fa fd ["script"] (oO T (K w.params))) :
  W.WalkO q loose XP YP l.row.toRowW d [] (fun f vs=>PySem.call f vs):=
 L2.IS (n:=63) (k:=8) (x:="script") (CX:=fun _=>CX0) (sp:=fun w=>oO T (K w.params)) hn (by decide) hdf ⟨rfl,by decide,by decide⟩ hY hKF kT F (fun _ _ a ns hl gT hS=>⟨a,ns,rfl,hS,hl,⟨ps,gT,hps.1,.inl hps.2⟩,fun _=>rfl⟩) fun _ _ _ _ _ z=>z
end K3
namespace Hd
open PySem PySem.W PyProof.Rows
noncomputable section
def run (den:Code->Sem Fin)(ok:Nat->Option Value->Thread->Bool)(st:(Code->Sem Fin)->Program->World->SharedT->Thread->Option (SharedT×Thread))(p:Program)(w:World)(m:Nat)(ann:Option Value):Nat->SharedT->Thread->Option SharedT
 |0,_,_=>none
 |n+1,s,t=>match through t with
  |true=>some s
  |false=>match ok m ann t with
   |false=>none
   |true=>match st den p w s t with
    |some r=>run den ok st p w m ann n r.1 r.2
    |none=>none
theorem qd{tb:String->Option Builtin}{p:Program}{w:World}{m:Nat}{ann:Option Value}:∀{n:Nat}{s r:SharedT}{t:Thread},run (denote tb) stepOk stepT p w m ann n s t=some r->topRun tb p w m ann n s.abs t=some r.abs
 |0,_,_,_,h=>by cases h
 |n+1,s,r,t,h=>by
  unfold run at h;unfold topRun;cases ht:through t with
  |true=>rw[ht] at h;cases h;rfl
  |false=>
   rw[ht] at h;cases hk:stepOk m ann t with
   |false=>rw[hk] at h;cases h
   |true=>
    rw[hk] at h;cases hs:stepT (denote tb) p w s t with
    |none=>rw[hs] at h;cases h
    |some r=>rw[hs] at h;rw[stepT_spec hs];exact qd h
def grow:List Obj->Nat->BT->BT
 |[],_,t=>t
 |o::l,n,t=>grow l (n+1) (t.ins n o)
def uY(P:Params):BT:=grow (boot_heap P).objs.toList 0 .nil
abbrev first(w:World)(os:OsState):SharedT:=⟨uY w.params,(boot_heap w.params).objs.size,(boot_heap w.params).life,#[],boot_drawn,boot_toks,os⟩
theorem mS(w:World)(os:OsState):(first w os).abs=⟨boot_heap w.params,#[],boot_drawn,boot_toks,os⟩:=by kernel_rfl
def sV(P:Params):Option Value:=(boot_heap P).nsMap mainGlobals "__annotations__"
def ux(seenF:Program->List Str->List Str->(Shared->Bool)->Bool->Shared->_)(p q:Program)(loose:List Str)(Xt:Shared->Bool)(as:List Addr)(h:Heap)(s:Shared):=
 ((staticsOk (importedModules p.main.body) h s.heap&&namesBound p s.heap&&gensDone s&&laidKept h s.heap),(seenF q loose (importedModules p.main.body) Xt true s:type_of% (openSeen q loose (importedModules p.main.body) Xt true s)),as.map s.heap.get?)
abbrev uE(den:Code->Sem Fin)(ok:Nat->Option Value->Thread->Bool)(st:(Code->Sem Fin)->Program->World->SharedT->Thread->Option (SharedT×Thread))
  (seenF:(q:Program)->(loose mods:List Str)->(Xt:Shared->Bool)->Bool->(s:Shared)->type_of% (openSeen q loose mods Xt true s))(p q:Program)(loose:List Str)(Xt:Shared->Bool)(K:Params->Frag)(as:List Addr)(N:Nat)(w:World):Prop:=
 (fun os=>(run den ok st p w (boot_heap w.params).objs.size (sV w.params) N (first w os) (topStub p)).map fun s=>ux seenF p q loose Xt as (boot_heap w.params) s.abs)=fun _=>some (true,openGood q loose,(K w.params).map fun x=>some x.2)
theorem uP{p q:Program}{loose:List Str}{Xt:Shared->Bool}{K:Params->Frag}{as:List Addr}{N:Nat}(e:opening p=plainProg p.main.scope.names)(hN:Nat.ble 600 N=true)(f:∀s,fenceModules? p s=some s)
  (size:∀P:Params,(boot_heap P).isNs mainGlobals=true)(key:∀w,uE (denote treeTable) stepOk stepT openSeen p q loose Xt K as N w) :
  LeftO p q loose Xt (fun s=>as.map s.heap.get?) (fun w=>(K w.params).map fun x=>some x.2) N true:=fun w=>by
 obtain⟨⟨h,gs,d,k,os⟩,e1,e2⟩:=Ce.mp (boot_open (p:=p) (N:=N) e hN f w);obtain⟨rfl,rfl,rfl,rfl⟩:h=boot_heap w.params/\gs=Array.mk []/\d=boot_drawn/\k=boot_toks:=by simpa using e2
 obtain⟨s,r,l⟩:=Ce.mp (congrFun (key w) os);have r':=qd r;rw[mS] at r';unfold ux at l;obtain⟨l1,l2,l3⟩:_/\_/\_:=by simpa only [Prod.mk.injEq] using l
 have t:topFrom treeTable p w N ⟨boot_heap w.params,#[],boot_drawn,boot_toks,os⟩=some s.abs:=by
  unfold topFrom;dsimp only;rw[size w.params];show(topRun treeTable p w (boot_heap w.params).objs.size (sV w.params) N _ _).bind _=_;rw[r'];show(match staticsOk (importedModules p.main.body) (boot_heap w.params) s.abs.heap&&namesBound p s.abs.heap&&gensDone s.abs&&laidKept (boot_heap w.params) s.abs.heap with|true=>_|false=>_)=_;rw[l1]
 unfold openEnds;rw[e1];show(topFrom treeTable p w N _).map _=_;rw[t];exact congrArg some (Prod.ext l2 l3)
abbrev en(P:Params)(x:Str)(t:Tok)(v:Value):DictEntry:=⟨PyData.keyHash P x,.str x t,v⟩
abbrev dn:=PySem.W.Fast.tw11892475500146522536 PySem.W.Fast.tw14364793385576792824
abbrev uo(p q:Program)(loose:List Str)(Xt:Shared->Bool)(K:Params->Frag)(as:List Addr)(N:Nat)(w:World):Prop:=uE dn PySem.W.Fast.tw6613529449190102663 PySem.W.Fast.tw10156331382660048174 PySem.W.Fast.tw4187177175401517315 p q loose Xt K as N w
theorem key1{p q:Program}{loose:List Str}{Xt:Shared->Bool}{K:Params->Frag}{as:List Addr}{N:Nat}(h:∀w:World,uo p q loose Xt K as N w):∀w,uE (denote treeTable) stepOk stepT openSeen p q loose Xt K as N w:=fun w=>by
 rw[PySem.W.Fast.te10156331382660048174,PySem.W.Fast.te11892475500146522536,PySem.W.Fast.te14364793385576792824,PySem.W.Fast.te6613529449190102663,PySem.W.Fast.te4187177175401517315];exact h w
abbrev xt(l:OpenLaw)(q:Program)(s:Shared):Bool:=xlAt q [] s&&recOk (RowW.records l.row.toRowW) s
theorem uz(P:Params):(boot_heap P).isNs mainGlobals=true:=by kernel_rfl
theorem head{l:OpenLaw}{q:Program}{loose:List Str}{K:Params->Frag}{as:List Addr}{N:Nat}{d:DefRec}(said:l.wellSaid=true)(e:opening l.prog=plainProg l.prog.main.scope.names)(hN:Nat.ble 600 N=true)(f:∀s,fenceModules? l.prog s=some s)
  (key:∀w,uE (denote treeTable) stepOk stepT openSeen l.prog q loose (xt l q) K as N w)(hK:∀P,as=(K P).map (·.1))
  (hdef:defOf q l.row.name=some (d,[]))(hp:l.row.prog.theDef l.row.name=some (d.params,d.body,d.scope))(hk:kwWritten? d.params.kwonlyargs d.params.kw_defaults=some [])(hwr:(!l.row.writes||l.row.records.isEmpty)=true)
  (ok:(chainsOk q&&opensWell l.row.prog&&(frees l.row.toRowW&&l.row.within.isEmpty))=true)(hb:l.row.prog.bare)(hw:l.row.toRowW.promised)
  (call:WalkO q loose (XL q []) (InK K) l.row.toRowW d [] fun f vs=>PySem.call f vs):l.Holds:=
 holds_law said fun k1=>holds_open (Xt:=xt l q) (uP e hN f uz key) (InK.of hK) InK.keeps (fun s e=>xl_of s (Bool.and_eq_true_iff.mp e).1) XL.keeps hdef hp hk (fun s e=>recFacts_of (Bool.and_eq_true_iff.mp e).2) hwr k1 ok hb hw call
end
end Hd
namespace Hd
open PySem PySem.W PyProof.Rows L2 K3
noncomputable section
abbrev pw:=PySem.Challenge.pw_quadwords_k13_makers_refused
def loose:List Str:=[]
def keep:List Nat:=[1,2,3,4,5,6,7,8,9,10,11,12,14,15,16,17,19,20,21,22,24,25,26,27,28,29,30,31,32,33,34,35,37,38,39,40,41,42,43,44,45,46,47,48,49,50,51,52,53,55,56,57,58,59,60,61,62,63,64,65,66]
abbrev cO(n:Str)(t t1 t2:Nat)(l a f:Int)(v1 v2 v3 v4 v5 v6:Value)(u:Int)(t3:Nat):Obj:=⟨.type "code",none,.fields #[.str n t,.str n t1,.str "/claim/cut.py" t2,.int l 0,.int a 0,.int 0 0,.int 0 0,.int f 0,v1,.bool true,.int 181 0,v2,v3,v4,v5,v6,.int u 0,.int l 0,.str "/claim/cut.py" t3],#[]⟩
abbrev fO(n:Str)(s:Stmt)(m:Value)(c:Addr):Obj:=⟨.type "function",none,.func (PySem.W.fnOf n n (bN s) (bz s) (ak s) .none .none .none m none (.ref c) .none),#[]⟩
def o3(P:Params):Obj:=⟨.type "dict",none,(.dict #[en P "__name__" 165 (.str "law_quadwords_k13_makers_refused" 650),en P "__doc__" 166 .none,en P "__package__" 167 .none,en P "__loader__" 168 (.builtin "__main__.__loader__#opaque"),en P "__spec__" 169 .none,en P "__annotations__" 170 (.ref 6),en P "__builtins__" 171 (.ref 4),en P "__file__" 173 (.str "/claim/cut.py" 172),en P "__cached__" 174 .none,en P "QuadError" 206 (.ref 24),en P "NoBack" 222 (.ref 37),en P "NoWord" 238 (.ref 49),en P "NoPlain" 254 (.ref 61),en P "NoWide" 270 (.ref 73),en P "TooLong" 286 (.ref 85),en P "NoMakers" 302 (.ref 97),en P "NoCount" 318 (.ref 109),en P "NoText" 334 (.ref 121),en P "NoName" 350 (.ref 133),en P "NoRow" 366 (.ref 145),en P "NoMill" 382 (.ref 157),en P "ONE" 389 (.ref 160),en P "is_whole" 396 (.ref 167),en P "is_table" 402 (.ref 172),en P "worth" 413 (.ref 179),en P "LONGEST_WORD" 417 (.int 400 416),en P "is_plain" 424 (.ref 186),en P "word_within" 437 (.ref 193),en P "word_of" 445 (.ref 200),en P "MOST_MAKERS" 449 (.int 8 448),en P "LONGEST_MAKER" 451 (.int 40 450),en P "maker_word" 459 (.ref 207),en P "maker_words" 465 (.ref 212),en P "last_steps" 471 (.ref 217),en P "ways_to_places" 477 (.ref 222),en P "shortest_first" 484 (.ref 229),en P "least_to_places" 490 (.ref 234),en P "reached_places" 496 (.ref 239),en P "least_row" 506 (.ref 246),en P "many_rows" 516 (.ref 253),en P "reached" 525 (.ref 260),en P "first_pairs" 533 (.ref 265),en P "first_lefts" 539 (.ref 270),en P "words_within" 545 (.ref 275),en P "words_beyond" 551 (.ref 280),en P "next_lefts" 557 (.ref 285),en P "leftovers" 568 (.ref 292),en P "is_paper" 574 (.ref 297),en P "let_by" 580 (.ref 302),en P "first_steps" 586 (.ref 307),en P "next_steps" 592 (.ref 312),en P "keep_shorter" 603 (.ref 319),en P "twins_of" 617 (.ref 326),en P "twins" 624 (.ref 333),en P "is_needed" 630 (.ref 338),en P "needed_of" 636 (.ref 343),en P "needed" 643 (.ref 350),en P "same" 649 (.ref 355),en P "_law_kind" 657 (.ref 360),en P "_law_times" 669 (.ref 367),en P "_law_made" 678 (.ref 374),en P "_law_of_letters" 684 (.ref 379),en P "_law_draw" 693 (.ref 386),en P "_law_piece" 699 (.ref 391),en P "_law_draws" 710 (.ref 398),en P "_law_makers" 725 (.ref 405),en P "_law_target" 739 (.ref 412),en P "_law_asked" 750 (.ref 419),en P "_law_bad" 759 (.ref 426),en P "law" 765 (.ref 431)] 70),#[]⟩
def o4(P:Params):Obj:=⟨.type "module",(some 0),.plain,#[]⟩
def o23(P:Params):Obj:=⟨.type "dict",none,(.dict #[en P "__module__" 196 (.str "quadwords.errors" 187),en P "__firstlineno__" 200 (.int 2 199),en P "__static_attributes__" 201 (.ref 22),en P "__weakref__" 203 (.ref 25),en P "__doc__" 204 .none] 3),#[]⟩
def o24(P:Params):Obj:=⟨.type "type",none,(.cls ⟨"QuadError",[.type "ValueError"],[.ref 24,.type "ValueError",.type "Exception",.type "BaseException",.type "object"],23,"QuadError",true,[],[.ref 37,.ref 49,.ref 61,.ref 73,.ref 85,.ref 97,.ref 109,.ref 121,.ref 133,.ref 145,.ref 157],false,none,false⟩),#[some (.ref 15),none,some (.str "QuadError" 189),some (.str "QuadError" 197),some (.builtin "ValueError.__new__"),some (.bool true)]⟩
def tw1(P:Params)(n5 n13 n17 n21 n23 n27:Nat)(z15:Int):Obj:=⟨.type "dict",none,(.dict #[en P "__module__" n5 (.str "quadwords.errors" 187),en P "__firstlineno__" n13 (.int z15 n17),en P "__static_attributes__" n21 (.ref n23),en P "__doc__" n27 .none] 2),#[]⟩
def o36(P:Params):Obj:=tw1 P 214 218 217 219 35 220 4
def tw2(P:Params)(n7 n19 n23 n27 n31:Nat)(s3:Str):Obj:=⟨.type "type",none,(.cls ⟨s3,[.ref 24],[.ref n7,.ref 24,.type "ValueError",.type "Exception",.type "BaseException",.type "object"],n19,s3,true,[],[],false,none,false⟩),#[some (.ref n23),none,some (.str s3 n27),some (.str s3 n31),some (.builtin "ValueError.__new__"),some (.bool true)]⟩
def o37(P:Params):Obj:=tw2 P 37 36 28 207 215 "NoBack"
def o48(P:Params):Obj:=tw1 P 230 234 233 235 47 236 6
def o49(P:Params):Obj:=tw2 P 49 48 40 223 231 "NoWord"
def o60(P:Params):Obj:=tw1 P 246 250 249 251 59 252 8
def o61(P:Params):Obj:=tw2 P 61 60 52 239 247 "NoPlain"
def o72(P:Params):Obj:=tw1 P 262 266 265 267 71 268 10
def o73(P:Params):Obj:=tw2 P 73 72 64 255 263 "NoWide"
def o84(P:Params):Obj:=tw1 P 278 282 281 283 83 284 12
def o85(P:Params):Obj:=tw2 P 85 84 76 271 279 "TooLong"
def o96(P:Params):Obj:=tw1 P 294 298 297 299 95 300 14
def o97(P:Params):Obj:=tw2 P 97 96 88 287 295 "NoMakers"
def o108(P:Params):Obj:=tw1 P 310 314 313 315 107 316 16
def o109(P:Params):Obj:=tw2 P 109 108 100 303 311 "NoCount"
def o120(P:Params):Obj:=tw1 P 326 330 329 331 119 332 18
def o121(P:Params):Obj:=tw2 P 121 120 112 319 327 "NoText"
def o132(P:Params):Obj:=tw1 P 342 346 345 347 131 348 20
def o133(P:Params):Obj:=tw2 P 133 132 124 335 343 "NoName"
def o144(P:Params):Obj:=tw1 P 358 362 361 363 143 364 22
def o145(P:Params):Obj:=tw2 P 145 144 136 351 359 "NoRow"
def o156(P:Params):Obj:=tw1 P 374 378 377 379 155 380 24
def o157(P:Params):Obj:=tw2 P 157 156 148 367 375 "NoMill"
def o160(P:Params):Obj:=⟨.type "tuple",none,(.seq #[.int 1 385,.int 0 386,.int 0 387,.int 1 388] 0),#[]⟩
def o166(P:Params):Obj:=cO "is_whole" 390 391 392 28 1 3 (.ref 161) (.ref 162) .none (.ref 163) (.ref 164) (.ref 165) 394 395
def o167(P:Params):Obj:=fO "is_whole" (top 15) (.str "quadwords.tables" 383) 166
def o171(P:Params):Obj:=cO "is_table" 397 398 399 30 1 3 (.ref 168) (.ref 169) .none .none .none (.ref 170) 400 401
def o172(P:Params):Obj:=fO "is_table" (top 16) (.str "quadwords.tables" 383) 171
def o178(P:Params):Obj:=cO "worth" 403 404 405 32 1 3 (.ref 173) (.ref 174) .none (.ref 175) (.ref 176) (.ref 177) 411 412
def o179(P:Params):Obj:=fO "worth" (top 17) (.str "quadwords.tables" 383) 178
def o185(P:Params):Obj:=cO "is_plain" 418 419 420 37 1 3 (.ref 180) (.ref 181) .none (.ref 182) (.ref 183) (.ref 184) 422 423
def o186(P:Params):Obj:=fO "is_plain" (top 20) (.str "quadwords.plain" 414) 185
def o192(P:Params):Obj:=cO "word_within" 425 426 427 39 2 3 (.ref 187) (.ref 188) .none (.ref 189) (.ref 190) (.ref 191) 435 436
def o193(P:Params):Obj:=fO "word_within" (top 21) (.str "quadwords.plain" 414) 192
def o199(P:Params):Obj:=cO "word_of" 438 439 440 52 1 3 (.ref 194) (.ref 195) .none (.ref 196) (.ref 197) (.ref 198) 443 444
def o200(P:Params):Obj:=fO "word_of" (top 22) (.str "quadwords.plain" 414) 199
def o206(P:Params):Obj:=cO "maker_word" 452 453 454 62 1 3 (.ref 201) (.ref 202) .none (.ref 203) (.ref 204) (.ref 205) 457 458
def o207(P:Params):Obj:=fO "maker_word" (top 26) (.str "quadwords.rows" 446) 206
def o211(P:Params):Obj:=cO "maker_words" 460 461 462 69 1 3 (.ref 208) (.ref 209) .none .none .none (.ref 210) 463 464
def o212(P:Params):Obj:=fO "maker_words" (top 27) (.str "quadwords.rows" 446) 211
def o216(P:Params):Obj:=cO "last_steps" 466 467 468 73 3 3 (.ref 213) (.ref 214) .none .none .none (.ref 215) 469 470
def o217(P:Params):Obj:=fO "last_steps" (top 28) (.str "quadwords.rows" 446) 216
def o221(P:Params):Obj:=cO "ways_to_places" 472 473 474 76 2 3 (.ref 218) (.ref 219) .none .none .none (.ref 220) 475 476
def o222(P:Params):Obj:=fO "ways_to_places" (top 29) (.str "quadwords.rows" 446) 221
def o228(P:Params):Obj:=cO "shortest_first" 478 479 480 81 1 3 (.ref 223) (.ref 224) .none (.ref 225) (.ref 226) (.ref 227) 482 483
def o229(P:Params):Obj:=fO "shortest_first" (top 30) (.str "quadwords.rows" 446) 228
def o233(P:Params):Obj:=cO "least_to_places" 485 486 487 83 2 3 (.ref 230) (.ref 231) .none .none .none (.ref 232) 488 489
def o234(P:Params):Obj:=fO "least_to_places" (top 31) (.str "quadwords.rows" 446) 233
def o238(P:Params):Obj:=cO "reached_places" 491 492 493 90 2 3 (.ref 235) (.ref 236) .none .none .none (.ref 237) 494 495
def o239(P:Params):Obj:=fO "reached_places" (top 32) (.str "quadwords.rows" 446) 238
def o245(P:Params):Obj:=cO "least_row" 497 498 499 92 2 3 (.ref 240) (.ref 241) .none (.ref 242) (.ref 243) (.ref 244) 504 505
def o246(P:Params):Obj:=fO "least_row" (top 33) (.str "quadwords.rows" 446) 245
def o252(P:Params):Obj:=cO "many_rows" 507 508 509 96 2 3 (.ref 247) (.ref 248) .none (.ref 249) (.ref 250) (.ref 251) 514 515
def o253(P:Params):Obj:=fO "many_rows" (top 34) (.str "quadwords.rows" 446) 252
def o259(P:Params):Obj:=cO "reached" 517 518 519 100 2 3 (.ref 254) (.ref 255) .none (.ref 256) (.ref 257) (.ref 258) 523 524
def o260(P:Params):Obj:=fO "reached" (top 35) (.str "quadwords.rows" 446) 259
def o264(P:Params):Obj:=cO "first_pairs" 528 529 530 104 1 3 (.ref 261) (.ref 262) .none .none .none (.ref 263) 531 532
def o265(P:Params):Obj:=fO "first_pairs" (top 37) (.str "quadwords.free" 526) 264
def o269(P:Params):Obj:=cO "first_lefts" 534 535 536 108 1 3 (.ref 266) (.ref 267) .none .none .none (.ref 268) 537 538
def o270(P:Params):Obj:=fO "first_lefts" (top 38) (.str "quadwords.free" 526) 269
def o274(P:Params):Obj:=cO "words_within" 540 541 542 110 2 3 (.ref 271) (.ref 272) .none .none .none (.ref 273) 543 544
def o275(P:Params):Obj:=fO "words_within" (top 39) (.str "quadwords.free" 526) 274
def o279(P:Params):Obj:=cO "words_beyond" 546 547 548 112 2 3 (.ref 276) (.ref 277) .none .none .none (.ref 278) 549 550
def o280(P:Params):Obj:=fO "words_beyond" (top 40) (.str "quadwords.free" 526) 279
def o284(P:Params):Obj:=cO "next_lefts" 552 553 554 114 2 3 (.ref 281) (.ref 282) .none .none .none (.ref 283) 555 556
def o285(P:Params):Obj:=fO "next_lefts" (top 41) (.str "quadwords.free" 526) 284
def o291(P:Params):Obj:=cO "leftovers" 558 559 560 117 1 3 (.ref 286) (.ref 287) .none (.ref 288) (.ref 289) (.ref 290) 566 567
def o292(P:Params):Obj:=fO "leftovers" (top 42) (.str "quadwords.free" 526) 291
def o296(P:Params):Obj:=cO "is_paper" 569 570 571 127 1 3 (.ref 293) (.ref 294) .none .none .none (.ref 295) 572 573
def o297(P:Params):Obj:=fO "is_paper" (top 43) (.str "quadwords.free" 526) 296
def o301(P:Params):Obj:=cO "let_by" 575 576 577 131 2 3 (.ref 298) (.ref 299) .none .none .none (.ref 300) 578 579
def o302(P:Params):Obj:=fO "let_by" (top 44) (.str "quadwords.free" 526) 301
def o306(P:Params):Obj:=cO "first_steps" 581 582 583 139 1 3 (.ref 303) (.ref 304) .none .none .none (.ref 305) 584 585
def o307(P:Params):Obj:=fO "first_steps" (top 45) (.str "quadwords.free" 526) 306
def o311(P:Params):Obj:=cO "next_steps" 587 588 589 142 3 3 (.ref 308) (.ref 309) .none .none .none (.ref 310) 590 591
def o312(P:Params):Obj:=fO "next_steps" (top 46) (.str "quadwords.free" 526) 311
def o318(P:Params):Obj:=cO "keep_shorter" 593 594 595 147 3 3 (.ref 313) (.ref 314) .none (.ref 315) (.ref 316) (.ref 317) 601 602
def o319(P:Params):Obj:=fO "keep_shorter" (top 47) (.str "quadwords.free" 526) 318
def vq(P:Params):Obj:=cO "twins_of" 604 605 606 151 1 3 (.ref 320) (.ref 321) .none (.ref 322) (.ref 323) (.ref 324) 615 616
def o326(P:Params):Obj:=fO "twins_of" (top 48) (.str "quadwords.free" 526) 325
def o332(P:Params):Obj:=cO "twins" 618 619 620 164 1 3 (.ref 327) (.ref 328) .none (.ref 329) (.ref 330) (.ref 331) 622 623
def o333(P:Params):Obj:=fO "twins" (top 49) (.str "quadwords.free" 526) 332
def o337(P:Params):Obj:=cO "is_needed" 625 626 627 166 2 3 (.ref 334) (.ref 335) .none .none .none (.ref 336) 628 629
def o338(P:Params):Obj:=fO "is_needed" (top 50) (.str "quadwords.free" 526) 337
def o342(P:Params):Obj:=cO "needed_of" 631 632 633 170 1 3 (.ref 339) (.ref 340) .none .none .none (.ref 341) 634 635
def o343(P:Params):Obj:=fO "needed_of" (top 51) (.str "quadwords.free" 526) 342
def o349(P:Params):Obj:=cO "needed" 637 638 639 172 1 3 (.ref 344) (.ref 345) .none (.ref 346) (.ref 347) (.ref 348) 641 642
def o350(P:Params):Obj:=fO "needed" (top 52) (.str "quadwords.free" 526) 349
def o354(P:Params):Obj:=cO "same" 644 645 646 174 2 3 (.ref 351) (.ref 352) .none .none .none (.ref 353) 647 648
def o355(P:Params):Obj:=fO "same" (top 53) (.str "quadwords.free" 526) 354
def o359(P:Params):Obj:=cO "_law_kind" 652 653 654 180 1 3 (.ref 356) (.ref 357) .none .none .none (.ref 358) 655 656
def o360(P:Params):Obj:=fO "_law_kind" (top 55) (.str "law_quadwords_k13_makers_refused" 650) 359
def o366(P:Params):Obj:=cO "_law_times" 658 659 660 187 2 3 (.ref 361) (.ref 362) .none (.ref 363) (.ref 364) (.ref 365) 667 668
def o367(P:Params):Obj:=fO "_law_times" (top 56) (.str "law_quadwords_k13_makers_refused" 650) 366
def o373(P:Params):Obj:=cO "_law_made" 670 671 672 194 1 3 (.ref 368) (.ref 369) .none (.ref 370) (.ref 371) (.ref 372) 676 677
def o374(P:Params):Obj:=fO "_law_made" (top 57) (.str "law_quadwords_k13_makers_refused" 650) 373
def o378(P:Params):Obj:=cO "_law_of_letters" 679 680 681 199 1 3 (.ref 375) (.ref 376) .none .none .none (.ref 377) 682 683
def o379(P:Params):Obj:=fO "_law_of_letters" (top 58) (.str "law_quadwords_k13_makers_refused" 650) 378
def o385(P:Params):Obj:=cO "_law_draw" 685 686 687 203 2 3 (.ref 380) (.ref 381) .none (.ref 382) (.ref 383) (.ref 384) 691 692
def o386(P:Params):Obj:=fO "_law_draw" (top 59) (.str "law_quadwords_k13_makers_refused" 650) 385
def o390(P:Params):Obj:=cO "_law_piece" 694 695 696 210 2 3 (.ref 387) (.ref 388) .none .none .none (.ref 389) 697 698
def o391(P:Params):Obj:=fO "_law_piece" (top 60) (.str "law_quadwords_k13_makers_refused" 650) 390
def o397(P:Params):Obj:=cO "_law_draws" 700 701 702 216 2 3 (.ref 392) (.ref 393) .none (.ref 394) (.ref 395) (.ref 396) 708 709
def o398(P:Params):Obj:=fO "_law_draws" (top 61) (.str "law_quadwords_k13_makers_refused" 650) 397
def o404(P:Params):Obj:=cO "_law_makers" 711 712 713 226 1 3 (.ref 399) (.ref 400) .none (.ref 401) (.ref 402) (.ref 403) 723 724
def o405(P:Params):Obj:=fO "_law_makers" (top 62) (.str "law_quadwords_k13_makers_refused" 650) 404
def o411(P:Params):Obj:=cO "_law_target" 726 727 728 240 3 3 (.ref 406) (.ref 407) .none (.ref 408) (.ref 409) (.ref 410) 737 738
def o412(P:Params):Obj:=fO "_law_target" (top 63) (.str "law_quadwords_k13_makers_refused" 650) 411
def o418(P:Params):Obj:=cO "_law_asked" 740 741 742 255 3 3 (.ref 413) (.ref 414) .none (.ref 415) (.ref 416) (.ref 417) 748 749
def o419(P:Params):Obj:=fO "_law_asked" (top 64) (.str "law_quadwords_k13_makers_refused" 650) 418
def o425(P:Params):Obj:=cO "_law_bad" 751 752 753 279 1 3 (.ref 420) (.ref 421) .none (.ref 422) (.ref 423) (.ref 424) 757 758
def o426(P:Params):Obj:=fO "_law_bad" (top 65) (.str "law_quadwords_k13_makers_refused" 650) 425
def o430(P:Params):Obj:=cO "law" 760 761 762 283 1 3 (.ref 427) (.ref 428) .none .none .none (.ref 429) 763 764
def o431(P:Params):Obj:=fO "law" (top 66) (.str "law_quadwords_k13_makers_refused" 650) 430
def uJ(P:Params):Obj:=⟨.none,none,(.fields #[]),#[]⟩
def K(P:Params):Frag:=(nat_lit 3,o3 P)::(nat_lit 4,o4 P)::(nat_lit 23,o23 P)::(nat_lit 24,o24 P)::(nat_lit 36,o36 P)::(nat_lit 37,o37 P)::(nat_lit 48,o48 P)::(nat_lit 49,o49 P)::(nat_lit 60,o60 P)::(nat_lit 61,o61 P)::(nat_lit 72,o72 P)::(nat_lit 73,o73 P)::(nat_lit 84,o84 P)::(nat_lit 85,o85 P)::(nat_lit 96,o96 P)::(nat_lit 97,o97 P)::(nat_lit 108,o108 P)::(nat_lit 109,o109 P)::(nat_lit 120,o120 P)::(nat_lit 121,o121 P)::(nat_lit 132,o132 P)::(nat_lit 133,o133 P)::(nat_lit 144,o144 P)::(nat_lit 145,o145 P)::(nat_lit 156,o156 P)::(nat_lit 157,o157 P)::(nat_lit 160,o160 P)::(nat_lit 166,o166 P)::(nat_lit 167,o167 P)::(nat_lit 171,o171 P)::(nat_lit 172,o172 P)::(nat_lit 178,o178 P)::(nat_lit 179,o179 P)::(nat_lit 185,o185 P)::(nat_lit 186,o186 P)::(nat_lit 192,o192 P)::(nat_lit 193,o193 P)::(nat_lit 199,o199 P)::(nat_lit 200,o200 P)::(nat_lit 206,o206 P)::(nat_lit 207,o207 P)::(nat_lit 211,o211 P)::(nat_lit 212,o212 P)::(nat_lit 216,o216 P)::(nat_lit 217,o217 P)::(nat_lit 221,o221 P)::(nat_lit 222,o222 P)::(nat_lit 228,o228 P)::(nat_lit 229,o229 P)::(nat_lit 233,o233 P)::(nat_lit 234,o234 P)::(nat_lit 238,o238 P)::(nat_lit 239,o239 P)::(nat_lit 245,o245 P)::(nat_lit 246,o246 P)::(nat_lit 252,o252 P)::(nat_lit 253,o253 P)::(nat_lit 259,o259 P)::(nat_lit 260,o260 P)::(nat_lit 264,o264 P)::(nat_lit 265,o265 P)::(nat_lit 269,o269 P)::(nat_lit 270,o270 P)::(nat_lit 274,o274 P)::(nat_lit 275,o275 P)::(nat_lit 279,o279 P)::(nat_lit 280,o280 P)::(nat_lit 284,o284 P)::(nat_lit 285,o285 P)::(nat_lit 291,o291 P)::(nat_lit 292,o292 P)::(nat_lit 296,o296 P)::(nat_lit 297,o297 P)::(nat_lit 301,o301 P)::(nat_lit 302,o302 P)::(nat_lit 306,o306 P)::(nat_lit 307,o307 P)::(nat_lit 311,o311 P)::(nat_lit 312,o312 P)::(nat_lit 318,o318 P)::(nat_lit 319,o319 P)::(nat_lit 325,vq P)::(nat_lit 326,o326 P)::(nat_lit 332,o332 P)::(nat_lit 333,o333 P)::(nat_lit 337,o337 P)::(nat_lit 338,o338 P)::(nat_lit 342,o342 P)::(nat_lit 343,o343 P)::(nat_lit 349,o349 P)::(nat_lit 350,o350 P)::(nat_lit 354,o354 P)::(nat_lit 355,o355 P)::(nat_lit 359,o359 P)::(nat_lit 360,o360 P)::(nat_lit 366,o366 P)::(nat_lit 367,o367 P)::(nat_lit 373,o373 P)::(nat_lit 374,o374 P)::(nat_lit 378,o378 P)::(nat_lit 379,o379 P)::(nat_lit 385,o385 P)::(nat_lit 386,o386 P)::(nat_lit 390,o390 P)::(nat_lit 391,o391 P)::(nat_lit 397,o397 P)::(nat_lit 398,o398 P)::(nat_lit 404,o404 P)::(nat_lit 405,o405 P)::(nat_lit 411,o411 P)::(nat_lit 412,o412 P)::(nat_lit 418,o418 P)::(nat_lit 419,o419 P)::(nat_lit 425,o425 P)::(nat_lit 426,o426 P)::(nat_lit 430,o430 P)::(nat_lit 431,o431 P)::[]
def KF(P:Params):Frag:=(nat_lit 321,uJ P)::K P
def kAs:List Addr:=[321,3,4,23,24,36,37,48,49,60,61,72,73,84,85,96,97,108,109,120,121,132,133,144,145,156,157,160,166,167,171,172,178,179,185,186,192,193,199,200,206,207,211,212,216,217,221,222,228,229,233,234,238,239,245,246,252,253,259,260,264,265,269,270,274,275,279,280,284,285,291,292,296,297,301,302,306,307,311,312,318,319,325,326,332,333,337,338,342,343,349,350,354,355,359,360,366,367,373,374,378,379,385,386,390,391,397,398,404,405,411,412,418,419,425,426,430,431]
abbrev tA:Addr:=321
abbrev cA:Addr:=325
abbrev bmA:Addr:=4
theorem lk_K(P:Params):(K P).lookup 325=some (vq P):=by kernel_rfl
theorem kT(P:Params):(K P).lookup tA=none:=by kernel_rfl
theorem Jc(P:Params)(h:Heap)(X:(K P).In h):PySem.W.CodeHd h cA tA:=⟨vq P,_,_,_,_,_,_,_,_,X _ _ (lk_K P),rfl,rfl,rfl,rfl,rfl,rfl,rfl,rfl,by decide⟩
abbrev pT:Array Value:=#[]
theorem hKF(P:Params)(h:Heap)(X:(KF P).In h):(K P).In h/\h.get? tA=some (PySem.W.tabObj pT)/\PySem.W.CodeHd h cA tA:=by
 have X1:(K P).In h:=fun a o e=>X a o (by
  show List.lookup a ((tA,uJ P)::K P)=some o;rw[BN];have ne:a≠tA:=fun z=>by rw[z,kT P] at e;cases e
  rw[show(a==tA)=false by simpa using ne]
  exact e)
 exact⟨X1,X tA (uJ P) (by show List.lookup tA ((tA,uJ P)::K P)=_;rw[BN];rfl),Jc P h X1⟩
set_option maxRecDepth 100000 in
theorem key0(w:World):uo pw (view pw keep) loose (xt PySem.Challenge.rw_quadwords_k13_makers_refused (view pw keep)) KF kAs 7990 w:=by kernel_rfl
theorem key:∀w,uE (denote treeTable) stepOk stepT openSeen pw (view pw keep) loose (xt PySem.Challenge.rw_quadwords_k13_makers_refused (view pw keep)) KF kAs 7990 w:=key1 key0
end
end Hd
open PySem PySem.W PyProof.Rows
local macro_rules | `(tactic| walk_at "fin")=>`(tactic| ((refine' K3.FIn.of ?a ?l ?c ?k); (case a=>k_is); (case l=>k_is); (case c=>k_is); (case k=>k_is)))
set_option maxRecDepth 100000 in
set_option maxHeartbeats 0 in
theorem PySem.Challenge.cw_quadwords_k13_makers_refused_holds : PySem.Challenge.rw_quadwords_k13_makers_refused.Holds := by
 w_on
 refine Hd.head (q:=view Hd.pw Hd.keep) (loose:=Hd.loose) (K:=Hd.KF) (as:=Hd.kAs) (by decide +kernel) (by kernel_rfl) (by decide) (fun s=>rfl) Hd.key (fun P=>by kernel_rfl) (by rfl) (by rfl) (by rfl) (by rfl) (by decide +kernel) ⟨rfl,rfl,rfl,rfl,rfl,by decide +kernel⟩ ?hw ?hc
 case hw=>w_witness2
 k_fill
 refine K3.walk (l:=PySem.Challenge.rw_quadwords_k13_makers_refused) (K:=Hd.K) (KF:=Hd.KF) (T:=Hd.tA) (c0:=Hd.cA) (ps:=Hd.pT) rfl rfl ⟨trivial,rfl⟩ (fun w h Y=>Y) Hd.hKF Hd.kT ?F
 case F=>
  k_fill
  intro w mg fa h KX G hmg
  refine' K3.all_mk KX G hmg ?zi ?Ao ?zj ?zh ?zH ?Az ?zE ?ze ?zg ?a_ww ?AD ?Aw ?Av ?zG ?zJ ?a_sf ?Au ?a_lr ?a_mr ?a_rp ?a_rd ?zf ?Ap ?Aq ?a_fp ?AC ?AB ?a_fl ?a_nl ?a_lo ?a_ip ?a_lb ?a_fs ?a_ns ?a_ks ?a_to ?l_to ?c_to ?k_to ?AA ?a_in ?Ay ?Ax ?zI ?zF ?Am ?An ?zV ?l_law ?c_law ?k_law ?AH ?l_ONE ?z_ONE ?v_ONE ?e_LW ?e_LM ?e_MM ?ec ?hdA ?neA ?e_BI ?l_BI ?p_BI ?yM ?yE ?wQ ?yO ?xG ?zk ?yP ?yQ ?yR ?xH ?yN ?wY ?xC ?gn ?tk ?wF ?xB ?wZ ?xa ?wW ?xf ?xc ?wX ?xh ?xn ?xo ?xp ?xq ?xr ?xu ?xw ?xx ?xA ?wN ?wO ?xI ?yy ?xS ?xU ?xO ?xY ?xW ?xQ ?ya ?yc ?ye ?yg ?yi ?yk ?yo ?yq ?yt ?yw ?xi ?xk ?xJ ?yA ?xT ?xV ?xP ?xZ ?xX ?xR ?yb ?yd ?yf ?yh ?yj ?yn ?yp ?yr ?yu ?yx ?xj ?xm ?AL ?zM ?wM ?zo ?zN ?AR ?AM ?AK ?zl ?AN ?AO ?AS ?xg ?yS ?AQ ?wL
  (case zi=>walk_at "fin")
  (case Ao=>walk_at "fin")
  (case zj=>walk_at "fin")
  (case zh=>walk_at "fin")
  (case zH=>walk_at "fin")
  (case Az=>walk_at "fin")
  (case zE=>walk_at "fin")
  (case ze=>walk_at "fin")
  (case zg=>walk_at "fin")
  (case a_ww=>walk_at "fin")
  (case AD=>walk_at "fin")
  (case Aw=>walk_at "fin")
  (case Av=>walk_at "fin")
  (case zG=>walk_at "fin")
  (case zJ=>walk_at "fin")
  (case a_sf=>walk_at "fin")
  (case Au=>walk_at "fin")
  (case a_lr=>walk_at "fin")
  (case a_mr=>walk_at "fin")
  (case a_rp=>walk_at "fin")
  (case a_rd=>walk_at "fin")
  (case zf=>walk_at "fin")
  (case Ap=>walk_at "fin")
  (case Aq=>walk_at "fin")
  (case a_fp=>walk_at "fin")
  (case AC=>walk_at "fin")
  (case AB=>walk_at "fin")
  (case a_fl=>walk_at "fin")
  (case a_nl=>walk_at "fin")
  (case a_lo=>walk_at "fin")
  (case a_ip=>walk_at "fin")
  (case a_lb=>walk_at "fin")
  (case a_fs=>walk_at "fin")
  (case a_ns=>walk_at "fin")
  (case a_ks=>walk_at "fin")
  (case a_to=>k_is)
  (case l_to=>k_is)
  (case c_to=>k_is)
  (case k_to=>k_is)
  (case AA=>walk_at "fin")
  (case a_in=>walk_at "fin")
  (case Ay=>walk_at "fin")
  (case Ax=>walk_at "fin")
  (case zI=>walk_at "fin")
  (case zF=>walk_at "fin")
  (case Am=>walk_at "fin")
  (case An=>walk_at "fin")
  (case zV=>k_is)
  (case l_law=>k_is)
  (case c_law=>k_is)
  (case k_law=>k_is)
  (case AH=>k_is)
  (case l_ONE=>k_is)
  (case z_ONE=>decide)
  (case v_ONE=>exact .cons ⟨_,rfl⟩ (.cons ⟨_,rfl⟩ (.cons ⟨_,rfl⟩ (.cons ⟨_,rfl⟩ .nil))))
  (case e_LW=>k_is)
  (case e_LM=>k_is)
  (case e_MM=>k_is)
  (case ec=>rfl)
  (case hdA=>exact fun h X=>Hd.Jc _ h X)
  (case neA=>decide)
  (case e_BI=>k_is)
  (case l_BI=>k_is)
  (case p_BI=>exact⟨by decide,by decide,by decide,rfl,rfl,rfl⟩)
  (case yM=>k_is)
  (case yE=>k_is)
  (case wQ=>k_is)
  (case yO=>k_is)
  (case xG=>k_is)
  (case zk=>k_is)
  (case yP=>k_is)
  (case yQ=>k_is)
  (case yR=>k_is)
  (case xH=>k_is)
  (case yN=>k_is)
  (case wY=>k_is)
  (case xC=>k_exc)
  (case gn=>k_is)
  (case tk=>k_is)
  (case wF=>k_exc)
  (case xB=>kernel_rfl)
  (case wZ=>k_is)
  (case xa=>k_is)
  (case wW=>k_is)
  (case xf=>k_is)
  (case xc=>k_is)
  (case wX=>k_is)
  (case xh=>kit_is)
  (case xn=>kit_is)
  (case xo=>kit_is)
  (case xp=>kit_is)
  (case xq=>kit_is)
  (case xr=>kit_is)
  (case xu=>kit_is)
  (case xw=>kit_is)
  (case xx=>kit_is)
  (case xA=>kit_is)
  (case wN=>kit_is)
  (case wO=>kit_is)
  (case xI=>k_exc)
  (case yy=>kernel_rfl)
  (case xS=>k_is)
  (case xU=>k_is)
  (case xO=>k_is)
  (case xY=>k_is)
  (case xW=>k_is)
  (case xQ=>k_is)
  (case ya=>kit_is)
  (case yc=>kit_is)
  (case ye=>kit_is)
  (case yg=>kit_is)
  (case yi=>kit_is)
  (case yk=>kit_is)
  (case yo=>kit_is)
  (case yq=>kit_is)
  (case yt=>kit_is)
  (case yw=>kit_is)
  (case xi=>kit_is)
  (case xk=>kit_is)
  (case xJ=>k_exc)
  (case yA=>kernel_rfl)
  (case xT=>k_is)
  (case xV=>k_is)
  (case xP=>k_is)
  (case xZ=>k_is)
  (case xX=>k_is)
  (case xR=>k_is)
  (case yb=>kit_is)
  (case yd=>kit_is)
  (case yf=>kit_is)
  (case yh=>kit_is)
  (case yj=>kit_is)
  (case yn=>kit_is)
  (case yp=>kit_is)
  (case yr=>kit_is)
  (case yu=>kit_is)
  (case yx=>kit_is)
  (case xj=>kit_is)
  (case xm=>kit_is)
  (case AL=>k_is)
  (case zM=>k_is)
  (case wM=>k_is)
  (case zo=>k_is)
  (case zN=>k_is)
  (case AR=>k_is)
  (case AM=>k_is)
  (case AK=>k_is)
  (case zl=>k_is)
  (case AN=>k_is)
  (case AO=>k_is)
  (case AS=>k_is)
  (case xg=>k_is)
  (case yS=>k_is)
  (case AQ=>k_is)
  (case wL=>k_is)
