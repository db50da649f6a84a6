import PyProof.Rows.All
import Wide.All
import OpenK.AllK
import Wide.FinOn
import PyProof.EqAt
import PyProof.EqKinds
import PyProof.TupleCall
import Lean
import KE.KDictList
import PyProof.MaxThree
import KE.LcSums
import PyProof.Rows.FactsN_abs
import PyProof.FactsAll.list_3
import PyProof.SeqI3
import PyProof.EnumIter
import PyProof.EnumMake
import PyProof.EnumFor
import PyProof.ZipIter
import PyProof.FactsAll.zip_1
import PyProof.DictIter
import PyProof.MinMaxWalk
import PyProof.Rows.TupDisplay
import PyProof.Rows.SetFrom
import PyProof.FactsAll.NoneType_1
import PyProof.StrCalls2
import PyProof.FactsAll.list_4
import PyProof.ListRange
import PySem.Challenge.RW_whistlebook_k38_whole_refusals
set_option bootstrap.genMatcherCode false
set_option compiler.extract_closed false
set_option genSizeOfSpec false
open PySem.W(Frag)
open Sum(inl inr)
local macro_rules|`(⋯)=>`(by first|decide +kernel|lia|omega|walk_at "ar")
local macro_rules|`(tactic|omega)=>`(tactic|lia)
set_option hygiene false
local macro_rules|`(#[b,$a,$b])=>`(some ($a $b))|`(#[c,$a])=>`(if_neg $a)|`(#[f,$a])=>`(if_pos $a)|`(#[g,$a])=>`(decide $a)|`(#[z])=>`(List (Addr×Obj))|`(#[V,$a])=>`(X.env.cells.lookup $a)|`(#[e,$a])=>`(#[b,.ref,$a])|`(#[n,$a])=>`(SqT.of $a)|`(#[i,$a,$b])=>`(.lst ($a $b))|`(#[p,$a])=>`(F.okX $a ⋯ fun _ _ _ _ H _ Q E hr h=>?_)
local macro_rules|`(#[O,$a])=>`(s.heap.get? $a)|`(#[ag,$a,$b])=>`(Heap.get?_push_of_some $a $b)|`(#[M,$a,$b])=>`([.int $a,.int $b])|`(#[q,$a])=>`(#[b,.int,$a])|`(#[X])=>`(["_law_found","_law_due_here"])|`(#[E,$a])=>`(#[b,.tup,$a])|`(#[T,$a,$b])=>`(.inl ⟨$a,$b⟩)|`(#[W])=>`(List (Key×V))|`(#[a])=>`(List V)|`(#[ap,$a])=>`(⟨by show 0<=sizeLine;decide,$a⟩)
local macro_rules|`(#[ak,$a,$b,$c])=>`($a $b $c (by intro z;cases z))|`(#[ax])=>`((backTo pos (starEach es X.env)).any (·.1))|`(#[x,$a])=>`(#[b,.lst,$a])|`(#[ab])=>`(List (Str×V))|`(#[ah,$a,$b,$c,$d])=>`($a $b (by rfl) $c PySem.boot_len $d)|`(#[t])=>`(List Int)|`(#[A,$a,$b,$c])=>`($a $b=#[b,.lst,$c])|`(#[B])=>`(List Addr)|`(#[Y])=>`(["self","number"])|`(#[d])=>`(some o)
local macro_rules|`(#[as,$a])=>`(fun z=>$a (by rw[z];simp[SAd.fp]))|`(#[C,$a])=>`(.inl (SqL.of $a))|`(#[ac,$a,$b])=>`(vs=[.ref $a,.ref $b])|`(#[y,$a])=>`(⟨$a,rfl⟩)|`(#[w,$a,$b])=>`(⟨$a,rfl,$b⟩)|`(#[F,$a])=>`(eval $a X.env)|`(#[r,$a,$b,$c])=>`(Zo $a $b (Zj $c))|`(#[R])=>`(List Value)|`(#[U])=>`(Str->Option Value)|`(#[J,$a,$b])=>`(Inv X pins σ $a $b)
local macro_rules|`(#[D])=>`(List Str)|`(#[G])=>`(Option Int)|`(#[I])=>`(List (List Int))|`(#[K])=>`(List (Nat×Option Int))|`(#[h,$a])=>`($a (ca a))|`(#[al,$a])=>`(#[r,["self"],["self"],$a])|`(#[j])=>`(#[J,H,s])|`(#[k])=>`(CX1 P w)|`(#[l,$a,$b,$c])=>`(Fun K $a $b $c f fd)|`(#[o])=>`(Tx K mg a)
local macro_rules|`(#[L,$a,$b,$c])=>`(TupL $a ts ($b $c))|`(#[P])=>`(iteF (Zt ?_))|`(#[v])=>`(Same H H')|`(#[Z])=>`(List (List Row))|`(#[aa,$a,$b,$c,$d,$e])=>`(wpAny (model X.prog X.w) $a $b $c $d $e)|`(#[an,$a])=>`(DGet.k (k:=.inr "over") $a)|`(#[aC])=>`(∀ b∈ch,(b∈X.ex\/X.s₀.heap.objs.size<=b)/\b≠X.env.locals/\(∀ x c,X.env.cells.lookup x=some c->c≠b)/\∀ p∈X.pn++pins,p.1≠b)|`(#[aD,$a])=>`(∀ b∈ch,(b∈X.ex\/X.s₀.heap.get? $a=none)/\b≠X.env.locals/\(∀ x c,X.env.cells.lookup x=some c->c≠b)/\∀ p∈X.pn++pins,p.1≠b)|`(#[aq])=>`(["self","number","grade","club"])|`(#[ad,$a,$b])=>`($a (K:=K) rfl (pv $b) rfl)
local macro_rules|`(#[am,$a,$b,$c])=>`(findIn $a (.ref $b) $c=some none)|`(#[aw,$a,$b])=>`(∀ x o,ok x->H $a=#[d]->H' $b=#[d])|`(#[H,$a])=>`(E (.ref $a) none H)|`(#[au,$a,$b,$c,$d])=>`(PySem.W.kia_one $a I.kIn $b $c (fun z=>nomatch z) $d)|`(#[az,$a,$b,$c,$d,$e])=>`(∀ l H',H' $a=some #[i,$b,$c]->#[v]->H l=none->$d (.ref $e) H')|`(#[aB,$a,$b])=>`($a (fun i σ H'=>H'=H/\(∃ v,σ=[some (.ref b),some (.ref c),v])) ⟨rfl,#[y,$b]⟩ (fun i σ H' hi ⟨e,⟨v,hv⟩⟩=>?_) fun σ H' ⟨e,⟨v,hv⟩⟩=>?_)|`(#[N])=>`(Zz ca H A S)|`(#[aE,$a])=>`((a∈X.ex\/X.s₀.heap.get? $a=none)/\a≠X.env.locals/\(∀ x c,X.env.cells.lookup x=some c->c≠a)/\∀ p∈X.pn++pins,p.1≠a)|`(#[Q,$a,$b])=>`(SqL.of ($a _ _ $b))|`(#[S,$a])=>`(Q (.ref $a) H')
local macro_rules|`(#[aF,$a,$b,$c,$d,$e,$f,$g,$h,$i])=>`(⟨$a,Zf ($b ($c $d ($e ⋯ ⋯ $f (by repeat' (first|exact True.intro|apply And.intro|rfl)) (by repeat' (first|exact True.intro|apply And.intro|rfl)) ⋯) $g (fun _ _ _ _ _=>X5) $h fun _ _ _ _ _=>$i)),?_⟩)|`(#[ar])=>`(absurd (show false=true from hs) zw4)|`(#[av,$a,$b,$c,$d])=>`(⟨$a,rfl,.inl ⟨$b,rfl,$c⟩,fun z=>⟨sz1,$d⟩⟩)|`(#[ao])=>`(itB (fun hb=>?_) fun hb=>Zt ?_)|`(#[ay])=>`(∀ x,(∃ o,H x=some o)->ok x->ok' x)|`(#[ae,$a])=>`($a (Yp I q (by simp)))|`(#[af,$a,$b])=>`(dE Z $a fun F=>$b F T)|`(#[ai])=>`(Ch rows gs q st e w)|`(#[aj])=>`(∀ t xs,H t=#[E,xs]->H' t=#[E,xs])|`(#[aA,$a,$b,$c,$d,$e,$f,$g,$h,$i])=>`(PW.pt (X3 (Xa (Yx (Zm ($a (K:=K) rfl) (by rfl) T.znn PyProof.Rows.boot_isinstance ($b (pv $c) ($d ($e rfl T.zo0 PyProof.Rows.boot_list (show RelV (.ty "list") $f from rfl)) $g))))) ($h $i)))
set_option hygiene true
abbrev zwm:=@List.length_map
abbrev zwn:=@List.getElem?_eq_getElem
abbrev zwo:=@List.getElem?_eq_some_iff
abbrev zwp:=@List.length_append
abbrev zwq:=@List.map_append
abbrev zwr:=@List.mem_cons
abbrev zws:=@decide_eq_true
abbrev zwt:=@List.mem_singleton
abbrev zwu:=@List.getElem?_map
abbrev zwv:=@List.mem_map
abbrev zww:=@Nat.le_refl
abbrev zwx:=@decide_eq_false
abbrev zwy:=@List.mem_append
abbrev zwz:=@List.map_cons
abbrev zw0:=@List.mem_of_getElem?
abbrev zw1:=@List.size_toArray
abbrev zw2:=@Int.toNat_natCast
abbrev zw3:=@List.take_length
abbrev zw4:=@Bool.false_ne_true
abbrev zw5:=@Nat.lt_of_lt_of_le
abbrev zw6:=@Nat.le_trans
abbrev zw7:=@List.mem_cons_of_mem
abbrev zw8:=@List.mem_append_right
abbrev zw9:=@List.length_cons
abbrev zxa:=@beq_eq_false_iff_ne
abbrev zxb:=@List.mem_append_left
abbrev zxc:=@List.getD_eq_getElem?_getD
abbrev zxd:=@Nat.ne_of_lt
abbrev zxe:=@List.nodup_cons
abbrev zxf:=@List.not_mem_nil
abbrev zxg:=@List.getElem_mem
abbrev zxh:=@Nat.zero_le
abbrev zxi:=@List.mem_cons_self
abbrev zxj:=@List.getElem?_append_right
abbrev zxk:=@List.take_succ_eq_append_getElem
abbrev zxl:=@List.getElem?_append_left
abbrev zxm:=@Int.emod_lt_of_pos
abbrev zxn:=@List.getElem?_set_ne
abbrev zxo:=@List.lookup_cons
abbrev zxp:=@List.getElem?_set_self
abbrev zxq:=@Int.emod_nonneg
abbrev zxr:=@List.getElem_of_mem
abbrev zxs:=@List.mem_range
abbrev zxt:=@Int.zero_add
abbrev zxu:=@Option.map_some
abbrev zxv:=@List.length_take_le
abbrev zxw:=@List.length_filter_le
abbrev zxx:=@List.length_range
abbrev zxy:=@List.take_add_one
abbrev zxz:=@List.mem_filter
abbrev zx0:=@Bool.false_eq_true
abbrev zx1:=@List.replicate_succ
abbrev zx2:=@Nat.le_succ_of_le
abbrev zx3:=@List.length_set
abbrev zx4:=@Option.isSome_iff_exists
abbrev zx5:=@Nat.lt_of_le_of_lt
abbrev zx6:=@List.length_take
abbrev zx7:=@List.filter_cons
abbrev zx8:=@Nat.lt_irrefl
abbrev zx9:=@List.append_assoc
abbrev zya:=@List.nodup_iff_pairwise_ne
abbrev zyb:=@List.any_eq_true
abbrev zyc:=@List.flatten_cons
abbrev zyd:=@List.map_map
abbrev zye:=@List.mem_singleton_self
abbrev zyf:=@Bool.and_eq_true
abbrev zyg:=@Option.map_eq_some_iff
abbrev zyh:=@Bool.eq_iff_iff
abbrev zyi:=@List.find?_cons
abbrev zyj:=@Nat.not_lt_zero
abbrev zyk:=@List.any_cons
abbrev zyl:=@List.reverse_cons
abbrev zym:=@Nat.lt_succ_of_lt
abbrev zyn:=@List.length_drop
abbrev zyo:=@List.all_eq_true
abbrev zyp:=@List.append_inj'
abbrev zyq:=@List.filterMap_cons
abbrev zyr:=@List.length_zipWith
abbrev zys:=@List.map_congr_left
abbrev zyt:=@List.map_nil
abbrev zyu:=@List.mem_filterMap
abbrev zyv:=@List.append_nil
abbrev zyw:=@List.length_nil
abbrev zyx:=@List.filter_append
set_option Elab.async false
set_option linter.all false
set_option maxRecDepth 100000
namespace L2
open PySem PySem.Spec PyProof.Rows
abbrev Key:=Sum Int Str
def Ey:Key->Value->Bool
 | .inl k,v=>Value.isInt k v
 | .inr x,v=>Value.isStrOf x v
def zme(w:World):Key->Int
 | .inl k=>hashInt k
 | .inr x=>hashStr w x
theorem Y5:∀ {k:Key} {v:Value},Ey k v=true->(∃ i t,k=inl i/\v=Value.int i t)\/(∃ x t,k=inr x/\v=Value.str x t)
 | .inl i,v,h=>by
   obtain⟨t,e⟩:=Value.isInt_shape (k:=i) (v:=v) h;exact .inl ⟨i,t,rfl,e⟩
 | .inr x,v,h=>by
   obtain⟨t,e⟩:=Value.isStrOf_shape (x:=x) (v:=v) h;exact .inr ⟨x,t,rfl,e⟩
theorem zdf(i:Int)(t:Tok):Ey (.inl i) (.int i t)=true:=by simp[Ey,Value.isInt]
theorem zdg(x:Str)(t:Tok):Ey (.inr x) (.str x t)=true:=by simp[Ey,Value.isStrOf]
theorem zjb(a b:Int):#[g,(inl a:Key)=inl b]=(a == b):=by
 by_cases e:a=b
 ·subst e;simp
 ·have h:¬ (inl a:Key)=inl b:=fun q=>e (inl.inj q);rw[zwx h];exact(zxa.mpr e).symm
theorem zjc(a b:Str):#[g,(inr a:Key)=inr b]=#[g,a=b]:=by
 by_cases e:a=b
 ·subst e;simp
 ·have h:¬ (inr a:Key)=inr b:=fun q=>e (inr.inj q);rw[zwx h,zwx e]
theorem zjd(a:Int)(b:Str):#[g,(inl a:Key)=inr b]=false:=zwx (fun q=>nomatch q)
theorem zje(a:Str)(b:Int):#[g,(inr a:Key)=inl b]=false:=zwx (fun q=>nomatch q)
def Yr(prog:Program)(w:World):PySem.KeyKind prog w Key where
 is:=Ey
 hash:=zme w
 inj:=fun v a b ha hb=>by
  rcases Y5 ha with ⟨i,t,rfl,rfl⟩|⟨x,t,rfl,rfl⟩
  ·rcases Y5 hb with ⟨j,u,rfl,e⟩|⟨y,u,rfl,e⟩
   ·injection e with e1 _;rw[e1]
   ·exact nomatch e
  ·rcases Y5 hb with ⟨j,u,rfl,e⟩|⟨y,u,rfl,e⟩
   ·exact nomatch e
   ·injection e with e1 _;rw[e1]
 byValue:=fun k v h=>by
  rcases Y5 h with ⟨i,t,rfl,rfl⟩|⟨x,t,rfl,rfl⟩<;>rfl
 pyHash:=fun hv h=>by
  rcases Y5 hv with ⟨i,t,rfl,rfl⟩|⟨x,t,rfl,rfl⟩
  ·exact wpAny_pyHash_int h
  ·exact wpAny_pyHash_str h
 eqBool:=fun hu hv h=>by
  rcases Y5 hu with ⟨i,t,rfl,rfl⟩|⟨x,t,rfl,rfl⟩
  ·rcases Y5 hv with ⟨j,u,rfl,rfl⟩|⟨y,u,rfl,rfl⟩
   ·rw[zjb] at h;exact wpAny_eqBool_int h
   ·rw[zjd] at h;exact SeqAt.EqAt.int_str i t y u _ _ _ _ h
  ·rcases Y5 hv with ⟨j,u,rfl,rfl⟩|⟨y,u,rfl,rfl⟩
   ·rw[zje] at h;exact SeqAt.EqAt.str_int x t j u _ _ _ _ h
   ·rw[zjc] at h;exact wpAny_eqBool_str h
 «strs»:=fun k x t v h=>by
  rcases Y5 h with ⟨i,u,rfl,e⟩|⟨y,u,rfl,e⟩
  ·exact nomatch e
  ·injection e with e1 _;subst e1;cases v<;>rfl
theorem Bp(prog:Program)(w:World)(i:Int)(t:Tok):(Yr prog w).is (.inl i) (.int i t)=true:=zdf i t
theorem Bq(prog:Program)(w:World)(x:Str)(t:Tok):(Yr prog w).is (.inr x) (.str x t)=true:=zdg x t
inductive V where
 | non|bl (b:Bool)|int (i:Int)|str (x:Str)|byt (b:Array UInt8)|flt (b:UInt64)|ref (a:Addr)|ty (n:String)
 deriving DecidableEq
def RelV:V->Value->Prop
 | .non,u=>u=Value.none
 | .bl b,u=>u=Value.bool b
 | .int i,u=>∃ t,u=Value.int i t
 | .str x,u=>∃ t,u=Value.str x t
 | .byt b,u=>∃ t,u=Value.bytes b t
 | .flt b,u=>∃ t,u=Value.float b t
 | .ref a,u=>u=Value.ref a
 | .ty n,u=>u=Value.type n
abbrev Vals:#[a]->#[R]->Prop:=Paired RelV
theorem Vals.length(r:Vals xs us):xs.length=us.length:=Paired.length r
theorem Vals.get:∀ {xs:List V} {us:List Value} {i:Nat} {x:V},Vals xs us->xs[i]?=some x->∃ u,us[i]?=some u/\RelV x u
 | _,_,_,_,.nil,e=>by simp at e
 | _,_,0,_,.cons r _,e=>by simp at e;subst e;exact#[w,_,r]
 | _,_,i+1,x,.cons _ t,e=>by
   obtain⟨u,h1,h2⟩:=Vals.get (i:=i) (x:=x) t (by simpa using e);exact⟨u,by simpa using h1,h2⟩
theorem Vals.set(r:RelV x u):∀ {xs:List V} {us:List Value} (i:Nat),Vals xs us->Vals (xs.set i x) (us.set i u)
 | _,_,_,.nil=>.nil
 | _,_,0,.cons _ t=>.cons r t
 | _,_,i+1,.cons q t=>.cons q (Vals.set r i t)
theorem Vals.append:∀ {xs ys:List V} {us ws:List Value},Vals xs us->Vals ys ws->Vals (xs++ys) (us++ws)
 | _,_,_,_,.nil,s=>s
 | _,_,_,_,.cons r t,s=>.cons r (Vals.append t s)
theorem Vals.take:∀ {xs:List V} {us:List Value} (n:Nat),Vals xs us->Vals (xs.take n) (us.take n)
 | _,_,0,_=>.nil
 | _,_,_+1,.nil=>.nil
 | _,_,n+1,.cons r t=>.cons r (Vals.take n t)
theorem Vals.drop:∀ {xs:List V} {us:List Value} (n:Nat),Vals xs us->Vals (xs.drop n) (us.drop n)
 | _,_,0,r=>r
 | _,_,_+1,.nil=>.nil
 | _,_,n+1,.cons _ t=>Vals.drop n t
def RelO:Option V->Option Value->Prop
 | some v,some u=>RelV v u
 | none,none=>True
 | _,_=>False
def KV{κ:Type}:List (κ×V)->List (κ×Value)->Prop:=Paired fun (p:κ×V) (q:κ×Value)=>p.1=q.1/\RelV p.2 q.2
def kV:Key->V
 | .inl i=>.int i
 | .inr x=>.str x
inductive HO where
 | lst (xs:#[a])
 | tup (xs:#[a])
 | dK (kvs:#[W])|dT (kvs:List (List Key×V))
 | set (S:Int->Bool) (n:Nat)
 | ins (C dx:Addr) (fs:#[ab])
 | own (x:Addr)
 | xd (fs:#[ab])
 | met (f x:Addr)
 | rng (lo hi:Int)
 | frz (o:Obj) (u:HO)
 | tbl (ps:Array Value)
 | ext (φ:Heap->Prop)
abbrev Hp:=Addr->Option HO
def upd(H:Hp)(a:Addr)(o:HO):Hp:=fun b=>if b=a then #[d] else H b
theorem Zd:upd H a o a=some o:=by unfold upd;rw[#[f,rfl]]
theorem Zh(h:b≠a):upd H a o b=H b:=by unfold upd;rw[#[c,h]]
theorem Im:upd (upd H a o) a u=upd H a u:=by
 funext b;unfold upd;split<;>rfl
theorem Yu{H:Hp}{a b:Addr}{o u:HO}(h:H a=some o)(h':H b=some u)(d:o≠u):a≠b:=by
 intro e;subst e;rw[h] at h';exact d (Option.some.inj h')
theorem Zi{H:Hp}{a b:Addr}{o:HO}(h:H a=some o)(h':H b=none):a≠b:=by
 intro e;subst e;rw[h] at h';cases h'
section
variable(P:Program)(w:World)
def Y9(H:Hp)(h:Heap)(a:Addr):HO->Prop
 | .lst xs=>xs.length<=sizeLine/\∃ (its:List Value) (n:Nat),Vals xs its/\h.get? a=some { cls:=.type "list",data:=.seq its.toArray n }
 | .tup xs=>xs.length<=sizeLine/\∃ its:#[R],Vals xs its/\IsTup h a its.toArray
 | .dK kvs=>kvs.length<=sizeLine/\(a == sysModules)=false/\∃ vs,KV kvs vs/\h.DictOf (Yr P w) a vs
 | .dT kvs=>kvs.length<=sizeLine/\(a == sysModules)=false/\∃ xs:List (List Key×Addr×Value),
   Paired (fun (p:List Key×V) (q:List Key×Addr×Value)=>p.1=q.1/\H q.2.1=some (.tup (p.1.map kV))/\RelV p.2 q.2.2) kvs xs /\
   ∃ o es ep,h.get? a=#[d]/\o.ExactDict/\o.data=.dict es ep/\es.toList=xs.map (entryOfKey (tupleKind (Yr P w)))/\(xs.map (·.1)).Nodup
 | .set S n=>h.SetOf (intKind P w) a S n
 | .ins C dx fs=>H dx=#[b,.own,a]/\fs.length<=1000/\dx≠a/\h.get? a=some (PySem.W.instObj C dx) /\
   ∃ mA,h.Ns1 dx mA/\(∀ f,RelO (fs.lookup f) (mA f))/\PySem.Within mA (fs.map (·.1))
 | .own _=>∃ o,h.get? a=#[d]
 | .xd fs=>∃ mA,h.Ns1 a mA/\∀ f,RelO (fs.lookup f) (mA f)
 | .rng lo hi=>∃ t u v,h.get? a=some { cls:=.type "range",data:=.fields #[.int lo t,.int hi u,.int 1 v] }
 | .frz o u=>h.get? a=#[d]/\Y9 H h a u
 | .tbl ps=>h.get? a=some { cls:=.none,data:=.fields ps }
 | .met f x=>h.get? a=some (PySem.W.methodObj (.ref f) (.ref x))
 | .ext φ=>φ h/\(∃ o,h.get? a=#[d])/\∀ h1 h2:Heap,φ h1->(∀ o,h1.get? a=#[d]->h2.get? a=#[d])->φ h2
def HOk(H:Hp)(h:Heap):Prop:=∀ a o,H a=#[d]->Y9 P w H h a o
end
section
variable{P:Program}{w:World}{H H':Hp}{h h':Heap}{a:Addr}{o:HO}
theorem Y9.lt(x:Y9 P w H h a o):a<h.objs.size:=by
 cases o with
 | lst xs=>obtain⟨_,_,_,_,e⟩:=x;exact Heap.lt_size e
 | tup xs=>obtain⟨_,_,_,p⟩:=x;exact p.lt
 | dK kvs=>obtain⟨_,_,_,_,o,_,_,e,_⟩:=x;exact Heap.lt_size e
 | dT kvs=>obtain⟨_,_,_,_,o,_,_,e,_⟩:=x;exact Heap.lt_size e
 | set S n=>obtain⟨o,_,_,_,e,_⟩:=x;exact Heap.lt_size e
 | ins C dx fs=>obtain⟨_,_,_,e,_⟩:=x;exact Heap.lt_size e
 | own y=>obtain⟨_,e⟩:=x;exact Heap.lt_size e
 | xd fs=>obtain⟨_,⟨_,_,_,e,_⟩,_⟩:=x;exact Heap.lt_size e
 | rng lo hi=>obtain⟨_,_,_,e⟩:=x;exact Heap.lt_size e
 | frz ob u=>obtain⟨e,_⟩:=x;exact Heap.lt_size e
 | tbl ps=>exact Heap.lt_size (show h.get? a=some _ from x)
 | met f y=>exact Heap.lt_size (show h.get? a=some _ from x)
 | ext φ=>obtain⟨_,⟨_,e⟩,_⟩:=x;exact Heap.lt_size e
theorem Paired.mapP:∀ {l₁:List α} {l₂:List β},Paired F l₁ l₂->(∀ a b,F a b->G a b)->Paired G l₁ l₂
 | _,_,.nil,_=>.nil
 | _,_,.cons r t,f=>.cons (f _ _ r) (Paired.mapP t f)
theorem Y9.stay(x:Y9 P w H h a o)(k:∀ b u,(b=a\/H b=#[b,.own,a])->h.get? b=some u->h'.get? b=some u)
  (ho:∀ b,H b=#[b,.own,a]->H' b=#[b,.own,a]) (ht:∀ b xs,H b=#[E,xs]->H' b=#[E,xs]):Y9 P w H' h' a o:=by
 induction o with
 | lst xs=>obtain⟨z,its,n,r,e⟩:=x;exact⟨z,its,n,r,k _ _ (.inl rfl) e⟩
 | tup xs=>obtain⟨z,its,r,ob,e,c⟩:=x;exact⟨z,its,r,ob,k _ _ (.inl rfl) e,c⟩
 | dK kvs=>obtain⟨z,y,vs,r,ob,es,ep,e,c⟩:=x;exact⟨z,y,vs,r,ob,es,ep,k _ _ (.inl rfl) e,c⟩
 | dT kvs =>
   obtain⟨z,y,xs,r,ob,es,ep,e,c⟩:=x;exact⟨z,y,xs,Paired.mapP r fun p q z=>⟨z.1,ht _ _ z.2.1,z.2.2⟩,ob,es,ep,k _ _ (.inl rfl) e,c⟩
 | set S n=>obtain⟨ob,es,ep,t,e,c⟩:=x;exact⟨ob,es,ep,t,k _ _ (.inl rfl) e,c⟩
 | ins C dx fs =>
   obtain⟨d,z,ne,e,mA,⟨od,es,ep,e2,c⟩,r⟩:=x;exact⟨ho _ d,z,ne,k _ _ (.inl rfl) e,mA,⟨od,es,ep,k _ _ (.inr d) e2,c⟩,r⟩
 | own y=>obtain⟨ob,e⟩:=x;exact⟨ob,k _ _ (.inl rfl) e⟩
 | xd fs=>obtain⟨mA,⟨od,es,ep,e,c⟩,r⟩:=x;exact⟨mA,⟨od,es,ep,k _ _ (.inl rfl) e,c⟩,r⟩
 | rng lo hi=>obtain⟨t,u,v,e⟩:=x;exact⟨t,u,v,k _ _ (.inl rfl) e⟩
 | frz ob u ih=>obtain⟨e,q⟩:=x;exact⟨k _ _ (.inl rfl) e,ih q⟩
 | tbl ps =>
   have e:h.get? a=some { cls:=.none,data:=.fields ps }:=x;show h'.get? a=some { cls:=.none,data:=.fields ps };exact k a _ (.inl rfl) e
 | met f y =>
   have e:h.get? a=some (PySem.W.methodObj (.ref f) (.ref y)):=x;show h'.get? a=some (PySem.W.methodObj (.ref f) (.ref y));exact k a _ (.inl rfl) e
 | ext φ=>obtain⟨p,⟨o,e⟩,st⟩:=x;exact⟨st _ _ p fun o q=>k _ _ (.inl rfl) q,⟨o,k _ _ (.inl rfl) e⟩,st⟩
theorem HOk.lt(x:HOk P w H h)(e:H a=some o):a<h.objs.size:=(x a o e).lt
theorem HOk.fresh(x:HOk P w H h)(e:h.objs.size<=a):H a=none:=by
 cases q:H a with
 | none=>rfl
 | some u=>exact absurd (zw5 (x.lt q) e) (zx8 _)
theorem HOk.kept(x:HOk P w H h)(k:∀ b u,h.get? b=some u->h'.get? b=some u):HOk P w H h':=fun a o e =>
 (x a o e).stay (fun b u _ q=>k b u q) (fun _ q=>q) fun _ _ q=>q
theorem HOk.laid(x:HOk P w H h)(k:∀ b u,h.get? b=some u->h'.get? b=some u)(hp:h.objs.size<=a)(new:Y9 P w (upd H a o) h' a o):HOk P w (upd H a o) h':=fun b u e=>by
 have hn:=x.fresh hp;by_cases hb:b=a
 ·subst hb;rw[Zd] at e;cases e;exact new
 ·rw[Zh hb] at e;exact(x b u e).stay (fun c v _ q=>k c v q) (fun c q=>by rw[Zh (Zi q hn)];exact q) fun c xs q=>by rw[Zh (Zi q hn)];exact q
end
def Rd(H:Hp)(a:Addr)(u:HO):Prop:=H a=some u\/∃ o,H a=some (.frz o u)
theorem Rd.ok(r:Rd H a u)(x:HOk P w H h):Y9 P w H h a u:=by
 rcases r with r|⟨o,r⟩
 ·exact x a u r
 ·obtain⟨_,q⟩:=x a _ r;exact q
def Mut:Option HO->Prop
 | some (.lst _)=>True
 | some (.dK _)=>True
 | some (.dT _)=>True
 | some (.set _ _)=>True
 | some (.ins _ _ _)=>True
 | some (.ext _)=>True
 | _=>False
section
variable{P:Program}{w:World}{H:Hp}{h h':Heap}{x e:Addr}{o':HO}
theorem HOk.write(ok:HOk P w H h)(mu:Mut (H x))(he:e=x\/H e=#[b,.own,x])(k:∀ b u,b≠e->h.get? b=some u->h'.get? b=some u)(heo:∃ u,h'.get? e=some u)
  (new:Y9 P w (upd H x o') h' x o'):HOk P w (upd H x o') h':=fun b u q=>by
 have nown:∀ c y,H c=#[b,.own,y]->c≠x:=fun c y r z=>by subst z;rw[r] at mu;exact mu
 have ntup:∀ c xs,H c=#[E,xs]->c≠x:=fun c xs r z=>by subst z;rw[r] at mu;exact mu
 by_cases hb:b=x
 ·subst hb;rw[Zd] at q;cases q;exact new
 ·rw[Zh hb] at q;by_cases hbe:b=e
  ·have q':H b=#[b,.own,x]:=by
    rcases he with z|z
    ·exact absurd (hbe.trans z) hb
    ·rw[hbe];exact z
   rw[q] at q';cases q';obtain⟨v,hv⟩:=heo;exact⟨v,by rw[hbe];exact hv⟩
  ·refine(ok b u q).stay (fun c v hc r=>k c v ?_ r) (fun c r=>by rw[Zh (nown c b r)];exact r) fun c xs r=>by rw[Zh (ntup c xs r)];exact r
   rcases hc with rfl|hc
   ·exact hbe
   ·rintro rfl;rcases he with z|z
    ·exact nown c b hc z
    ·rw[hc] at z;cases z;exact hb rfl
end
structure Un(fs ex:#[B])(H H':Hp)(h h':Heap):Prop where
 keep:∀ b o,h.get? b=#[d]->H b=none->b∉fs->b∉ex->h'.get? b=#[d]
 slot:∀ b o,h.get? b=#[d]->H b=none->b∈fs->b∉ex->∃ sl,h'.get? b=some { o with slots:=sl }
 free:∀ b o,h.get? b=#[d]->H b=none->b∉ex->H' b=none
 there:∀ b o,h.get? b=#[d]->b∉ex->∃ o',h'.get? b=some o'
 tups:∀ b xs,H b=#[E,xs]->H' b=#[E,xs]
 frzs:∀ b o u,H b=some (.frz o u)->H' b=some (.frz o u)
 tbls:∀ b ps,H b=#[b,.tbl,ps]->∃ more,H' b=#[b,.tbl,ps++more]
section
variable{fs fs' ex ex':#[B]}{H H1 H2:Hp}{h h1 h2 h':Heap}{a x e:Addr}{o:HO}
theorem Un.any(u:Un fs ex H H1 h h1)(q:h.get? b=some ob)(n:H b=none)(hx:b∉ex):∃ sl,h1.get? b=some { ob with slots:=sl }:=by
 by_cases hb:b∈fs
 ·exact u.slot b ob q n hb hx
 ·exact⟨ob.slots,u.keep b ob q n hb hx⟩
theorem Un.kept(k:∀ b u,h.get? b=some u->h'.get? b=some u):Un fs ex H H h h' :=
 ⟨fun b ob q _ _ _=>k b ob q,fun b ob q _ _ _=>⟨ob.slots,k b ob q⟩,fun _ _ _ n _=>n,fun b ob q _=>⟨ob,k b ob q⟩,fun _ _ q=>q,fun _ _ _ q=>q,fun _ ps q=>⟨#[],by rw[q];simp⟩⟩
theorem Un.refl:Un fs ex H H h h:=Un.kept fun _ _ q=>q
theorem Un.laid(k:∀ b u,h.get? b=some u->h'.get? b=some u)(hp:h.objs.size<=a)(hn:H a=none):Un fs ex H (upd H a o) h h' where
 keep:=fun b u q _ _ _=>k b u q
 slot:=fun b u q _ _ _=>⟨u.slots,k b u q⟩
 free:=fun b u q n _=>by rw[Zh (zxd (zw5 (Heap.lt_size q) hp))];exact n
 there:=fun b u q _=>⟨u,k b u q⟩
 tups:=fun b xs q=>by rw[Zh (Zi q hn)];exact q
 frzs:=fun b u xs q=>by rw[Zh (Zi q hn)];exact q
 tbls:=fun b ps q=>⟨#[],by rw[Zh (Zi q hn),q];simp⟩
theorem Un.write(mu:Mut (H x))(he:e=x\/H e=#[b,.own,x])(k:∀ b u,b≠e->h.get? b=some u->h'.get? b=some u)(heo:∃ u,h'.get? e=some u):Un fs ex H (upd H x o) h h':=by
 have hx:∀ b,H b=none->b≠x:=fun b n z=>by subst z;rw[n] at mu;exact mu
 have hb:∀ b,H b=none->b≠e:=fun b n z=>by
  subst z;rcases he with r|r
  ·exact hx b n r
  ·rw[n] at r;cases r
 have hm:∀ b u,H b=some u->¬ Mut (some u)->b≠x:=fun b u q nm z=>by subst z;rw[q] at mu;exact nm mu
 refine⟨fun b u q n _ _=>k b u (hb b n) q,fun b u q n _ _=>⟨u.slots,k b u (hb b n) q⟩,fun b u q n _=>by rw[Zh (hx b n)];exact n,fun b u q _=>?_,
  fun b xs q=>by rw[Zh (hm b _ q fun z=>z)];exact q,fun b u xs q=>by rw[Zh (hm b _ q fun z=>z)];exact q,fun b ps q=>⟨#[],by rw[Zh (hm b _ q fun z=>z),q];simp⟩⟩
 by_cases hbe:b=e
 ·subst hbe;exact heo
 ·exact⟨u,k b u hbe q⟩
end
def trk(h:Heap)(H:Hp):#[B]:=(List.range h.objs.size).filter fun a=>(H a).isSome
def Ce(h:Heap)(H:Hp):Heap:=PySem.W.hideAll h (trk h H)
theorem zdh(h:Heap)(H:Hp):(Ce h H).objs.size=h.objs.size:=PySem.W.hideAll_size _ _
theorem ze9(e:h.get? b=some o)(n:H b=none):(Ce h H).get? b=some o :=
 PySem.W.hideAll_get _ e fun hm=>by
  have q:(H b).isSome=true:=(zxz.mp hm).2;rw[n] at q;simp at q
theorem zhl(e:(Ce h H).get? b=some o):h.get? b=#[d]/\H b=none:=by
 have e':h.get? b=some o:=PySem.W.of_hideAll (trk h H) e;refine⟨e',?_⟩;cases q:H b with
 | none=>rfl
 | some x =>
   have hm:b∈trk h H:=zxz.mpr ⟨zxs.mpr (Heap.lt_size e'),by simp[q]⟩;have z:(Ce h H).get? b=none:=PySem.W.hideAll_none (trk h H) hm;rw[z] at e;cases e
structure Mod(K:Frag)(mg:#[U])(base:Heap):Prop where
 kin:K.In base
 glob:base.Ns mainGlobals mg
 blt:∃ mb,base.Ns builtinsNs mb/\∀ x:Str,x≠"__name__"->mb x=bootBuiltins x
 nolimit:base.NoLimit
structure Cx where
 prog:Program
 w:World
 K:Frag
 mg:#[U]
 base:Heap
 A:Around
 N:#[D]
 s₀:Shared
 H₀:Hp
 env:Env
 outer:List Env
 stack:List Env
 ex:#[B]
 fn:Str->Bool
 calm:Bool
 pn:#[z]
 xe:Value->Shared->Prop
 lk:List (Option V):=[]
def frs(l:List Env):#[B]:=l.filterMap (·.frame)
abbrev Cx.fs(X:Cx):#[B]:=frs X.outer
def Vis(sc:Scope)(x:Str):Prop:=sc.names.lookup x=some .local\/sc.names.lookup x=some .cell\/sc.names.lookup x=some .free
def Loc(sc:Scope)(x:Str):Prop:=sc.names.lookup x=some .local\/sc.names.lookup x=some .cell
def Look(env:Env)(h:Heap)(m:#[U])(x:Str)(u:Value):Prop :=
 (env.kindOf x=some .local/\m x=some u)\/((env.kindOf x=some .cell\/env.kindOf x=some .free)/\∃ c,env.cells.lookup x=some c/\h.IsCell c (some u))
structure Cx.Ok(X:Cx):Prop where
 mod:Mod X.K X.mg X.base
 kind:X.env.scope.kind=.function
 glob:X.env.globals=mainGlobals
 blt:X.env.builtins=builtinsNs
 above:X.s₀.heap.objs.size<=X.env.locals
 inj:∀ x y c,#[V,x]=some c->#[V,y]=some c->x=y
 has:∀ x,(X.env.kindOf x=some .cell\/X.env.kindOf x=some .free)->∃ c,#[V,x]=some c
 cab:∀ x c,X.fn x=true->#[V,x]=some c->X.s₀.heap.objs.size<=c
 hd:X.calm=true->X.A.handled=none
 frames:X.A.frames=some X.stack
 stk:X.stack=X.outer\/(X.stack=X.env :: X.outer/\X.env.frame=some X.env.locals)
 exf:∀ b∈X.ex,b≠X.env.locals/\∀ x c,#[V,x]=some c->c≠b
 bs:∀ b o,X.base.get? b=#[d]->X.s₀.heap.get? b=#[d]/\X.H₀ b=none
 bsz:X.base.objs.size<=X.s₀.heap.objs.size
 noex:∀ b o,X.base.get? b=#[d]->b∉X.ex
 exfs:∀ b∈X.ex,b∉X.fs
 funs:X.s₀.heap.FunFrames X.base X.outer
 frf:∀ b∈X.fs,X.H₀ b=none
structure Inv(X:Cx)(pins:#[z])(σ:List (Option V))(H:Hp)(s:Shared):Prop where
 ok:X.Ok
 os:s.os=X.s₀.os
 bare:AllBare s.gens
 base:Un X.fs X.ex X.H₀ H X.s₀.heap s.heap
 loc:∃ m,s.heap.Ns X.env.locals m/\∀ (i:Nat) (x:Str) (v:V),X.N[i]?=some x->(σ[i]?=#[b,some,v]\/X.lk[i]?=#[b,some,v])->Vis X.env.scope x->∃ u,RelV v u/\Look X.env s.heap m x u
 cell:∀ x c,#[V,x]=some c->∃ v,s.heap.IsCell c v
 free:H X.env.locals=none
 freeC:∀ x c,#[V,x]=some c->H c=none
 pin:∀ p∈X.pn++pins,#[O,p.1]=some p.2/\H p.1=none/\p.1≠X.env.locals/\p.1∉X.fs/\∀ v,p.2.data≠.cell v
 hok:HOk X.prog X.w H s.heap
 len:σ.length=X.N.length
section
variable{X:Cx}{pins:#[z]}{σ:List (Option V)}{H H':Hp}{s:Shared}{h':Heap}
theorem Cx.Ok.nofr(ok:X.Ok)(e:X.base.get? b=some o):b∉X.fs:=fun hb=>by
 have:=(ok.funs.mem hb).1;rw[e] at this;cases this
theorem Inv.bs(I:#[j]):∀ b o,X.base.get? b=#[d]->#[O,b]=#[d]/\H b=none:=fun b o e =>
 ⟨I.base.keep b o (I.ok.bs b o e).1 (I.ok.bs b o e).2 (I.ok.nofr e) (I.ok.noex b o e),I.base.free b o (I.ok.bs b o e).1 (I.ok.bs b o e).2 (I.ok.noex b o e)⟩
theorem Inv.bk(I:#[j]):∀ b o,X.base.get? b=#[d]->#[O,b]=#[d]:=fun b o e=>(I.bs b o e).1
theorem Inv.mod(I:#[j]):Mod X.K X.mg X.base:=I.ok.mod
theorem Inv.kIn(I:#[j]):X.K.In s.heap:=I.ok.mod.kin.keeps I.bk
theorem Inv.lt(I:#[j]):X.env.locals<s.heap.objs.size:=let ⟨_,hn,_⟩:=I.loc;hn.lt
theorem Inv.sz(I:#[j]):X.s₀.heap.objs.size<=s.heap.objs.size:=zw6 I.ok.above (Nat.le_of_lt I.lt)
theorem Inv.nofs(I:#[j])(h:s.heap.objs.size<=a):a∉X.fs:=fun hb=>by
 obtain⟨_,o,ho,_⟩:=I.ok.funs.mem hb;exact absurd (zw5 (Heap.lt_size ho) (zw6 I.sz h)) (zx8 _)
theorem Inv.cne(I:#[j]):∀ x c,#[V,x]=some c->c≠X.env.locals:=fun x c e z=>by
 obtain⟨v,o,ho,hd⟩:=I.cell x c e;obtain⟨m,⟨o',es,ep,ho',hd',_⟩,_⟩:=I.loc;rw[z,ho'] at ho;cases ho;rw[hd'] at hd;cases hd
theorem Inv.funs(I:#[j]):s.heap.FunFrames X.base X.outer:=by
 have all:∀ (l:List Env),(∀ b∈frs l,b∈X.fs)->X.s₀.heap.FunFrames X.base l->s.heap.FunFrames X.base l:=by
  intro l
  induction l with
  | nil=>intro _ _;trivial
  | cons env r ih =>
    intro hs hl;obtain⟨hk,⟨L,o,hf,hn,ho,hd⟩,hr⟩:=hl;have hL:L∈X.fs:=hs L (by unfold frs;rw[zyq,hf];exact zxi);obtain⟨sl,e⟩:=I.base.slot L o ho (I.ok.frf L hL) hL fun z=>I.ok.exfs L z hL;exact⟨hk,⟨L,_,hf,hn,e,hd⟩,ih (fun b hb=>hs b (by unfold frs;rw[zyq,hf];exact zw7 _ hb)) hr⟩
 exact all X.outer (fun _ hb=>hb) I.ok.funs
theorem Inv.stack(I:#[j]):s.heap.FunFrames X.base X.stack:=by
 rcases I.ok.stk with e|⟨e,hf⟩
 ·rw[e];exact I.funs
 ·rw[e];obtain⟨m,hn,_⟩:=I.loc;refine .cons (by rw[I.ok.kind];decide) hf hn ?_ I.funs;exact Heap.get?_none_of_le (zw6 I.ok.bsz I.ok.above)
theorem Inv.stkSub(I:#[j]):∀ b∈frs X.stack,b∈X.env.locals :: X.fs:=fun b hb=>by
 rcases I.ok.stk with e|⟨e,hf⟩
 ·rw[e] at hb;exact zw7 _ hb
 ·rw[e] at hb;unfold frs at hb;rw[zyq,hf] at hb;exact hb
theorem Inv.stkFree(I:#[j]):∀ b∈frs X.stack,H b=none:=fun b hb=>by
 rcases zwr.mp (I.stkSub b hb) with e|hb
 ·rw[e];exact I.free
 ·obtain⟨_,o,ho,_⟩:=I.ok.funs.mem hb;exact I.base.free b o ho (I.ok.frf b hb) fun z=>I.ok.exfs b z hb
theorem Inv.step{g':Array GenState}{t':Nat}{d':Drawn}{ch:#[B]}(I:#[j])
  (hch:#[aC])
  (keep:∀ b o,b≠X.env.locals->b∉X.fs->b∉ch->#[O,b]=#[d]->H b=none->h'.get? b=#[d])
  (slot:∀ b o,b≠X.env.locals->b∈X.fs->b∉ch->#[O,b]=#[d]->H b=none->∃ sl,h'.get? b=some { o with slots:=sl }) (free:∀ b o,b∉ch->#[O,b]=#[d]->H b=none->H' b=none)
  (there:∀ b o,b∉ch->#[O,b]=#[d]->∃ o',h'.get? b=some o')
  (tups:∀ b xs,H b=#[E,xs]->H' b=#[E,xs]) (frzs:∀ b o u,H b=some (.frz o u)->H' b=some (.frz o u)) (tbls:∀ b ps,H b=#[b,.tbl,ps]->∃ more,H' b=#[b,.tbl,ps++more])
  (ns:∀ m,s.heap.Ns X.env.locals m->h'.Ns X.env.locals m) (hok:HOk X.prog X.w H' h') (hg:AllBare g') :
  Inv X pins σ H' { s with heap:=h',gens:=g',drawn:=d',toks:=t' }:=by
 have neL:∀ b o,X.s₀.heap.get? b=#[d]->b≠X.env.locals:=fun b o e=>zxd (zw5 (Heap.lt_size e) I.ok.above);have neC:∀ b o,X.s₀.heap.get? b=#[d]->b∉X.ex->b∉ch:=fun b o e hx hb=>by
  rcases(hch b hb).1 with z|z
  ·exact hx z
  ·exact absurd (zw5 (Heap.lt_size e) z) (zx8 _)
 have cellK:∀ x c,#[V,x]=some c->∀ v,s.heap.IsCell c v->h'.IsCell c v:=fun x c e v ⟨o,ho,hd⟩=>by
  have nch:c∉ch:=fun z=>(hch c z).2.2.1 x c e rfl;by_cases hc:c∈X.fs
  ·obtain⟨sl,q⟩:=slot c o (I.cne x c e) hc nch ho (I.freeC x c e);exact⟨_,q,hd⟩
  ·exact⟨o,keep c o (I.cne x c e) hc nch ho (I.freeC x c e),hd⟩
 refine⟨I.ok,I.os,hg,⟨fun b o e n hb hx=>?_,fun b o e n hb hx=>?_,fun b o e n hx=>?_,fun b o e hx=>?_,fun b xs e=>tups b xs (I.base.tups b xs e),fun b o xs e=>frzs b o xs (I.base.frzs b o xs e),fun b ps e=>?_⟩,?_,fun x c e=>?_,?_,fun x c e=>?_,fun p hp=>?_,hok,I.len⟩
 ·exact keep b o (neL b o e) hb (neC b o e hx) (I.base.keep b o e n hb hx) (I.base.free b o e n hx)
 ·obtain⟨sl,e1⟩:=I.base.slot b o e n hb hx;obtain⟨sl',e2⟩:=slot b _ (neL b o e) hb (neC b o e hx) e1 (I.base.free b o e n hx);exact⟨sl',e2⟩
 ·obtain⟨o',e1⟩:=I.base.there b o e hx;exact free b o' (neC b o e hx) e1 (I.base.free b o e n hx)
 ·obtain⟨o',e1⟩:=I.base.there b o e hx;exact there b o' (neC b o e hx) e1
 ·obtain⟨m1,e1⟩:=I.base.tbls b ps e;obtain⟨m2,e2⟩:=tbls b _ e1;exact⟨m1++m2,by rw[e2,Array.append_assoc]⟩
 ·obtain⟨m,hn,hl⟩:=I.loc;refine⟨m,ns m hn,fun i x v e1 e2 e3=>?_⟩;obtain⟨u,r,l⟩:=hl i x v e1 e2 e3;refine⟨u,r,?_⟩;rcases l with l|⟨k,c,e,z⟩
  ·exact .inl l
  ·exact .inr ⟨k,c,e,cellK x c e _ z⟩
 ·obtain⟨v,z⟩:=I.cell x c e;exact⟨v,cellK x c e v z⟩
 ·obtain⟨m,⟨o,_,_,ho,_⟩,_⟩:=I.loc;exact free _ o (fun z=>(hch _ z).2.1 rfl) ho I.free
 ·obtain⟨v,o,ho,hd⟩:=I.cell x c e;exact free c o (fun z=>(hch c z).2.2.1 x c e rfl) ho (I.freeC x c e)
 ·obtain⟨e,n,ne,nf,d⟩:=I.pin p hp;have nch:p.1∉ch:=fun z=>(hch p.1 z).2.2.2 p hp rfl;exact⟨keep p.1 p.2 ne nf nch e n,free p.1 p.2 nch e n,ne,nf,d⟩
theorem Inv.un{t':Nat}(I:#[j])(u:Un X.fs [] H H' s.heap h')(hok:HOk X.prog X.w H' h'):#[J,H',{ s with heap:=h',toks:=t' }]:=by
 obtain⟨m,⟨o,es,ep,ho,r⟩,_⟩:=id I.loc;obtain⟨sl,hL⟩:=u.any ho I.free (by simp);exact I.step (g':=s.gens) (d':=s.drawn) (ch:=[]) (fun _ z=>nomatch z) (fun b o _ hb _ e n=>u.keep b o e n hb (by simp)) (fun b o _ hb _ e n=>u.slot b o e n hb (by simp)) (fun b o _ e n=>u.free b o e n (by simp)) (fun b o _ e=>u.there b o e (by simp)) u.tups u.frzs u.tbls (fun m' hm=>by
  obtain⟨o',es',ep',ho',r'⟩:=hm;rw[ho] at ho';cases ho';exact⟨_,es',ep',hL,r'⟩) hok I.bare
theorem Inv.call{g':Array GenState}{t':Nat}{d':Drawn}{ch:#[B]}(I:#[j])(u:Un (frs X.stack) ch H H' s.heap h')(hok:HOk X.prog X.w H' h')(hg:AllBare g')
  (hch:#[aC]) :
  Inv X pins σ H' { s with heap:=h',gens:=g',drawn:=d',toks:=t' }:=by
 obtain⟨m,⟨o,es,ep,ho,r⟩,_⟩:=id I.loc;obtain⟨sl,hL⟩:=u.any ho I.free fun z=>(hch _ z).2.1 rfl;exact I.step (ch:=ch) hch (fun b o hL hb hc e n=>u.keep b o e n (fun z=>(zwr.mp (I.stkSub b z)).elim hL hb) hc) (fun b o _ _ hc e n=>u.any e n hc) (fun b o hc e n=>u.free b o e n hc) (fun b o hc e=>u.there b o e hc) u.tups u.frzs u.tbls (fun m' hm=>by
  obtain⟨o',es',ep',ho',r'⟩:=hm;rw[ho] at ho';cases ho';exact⟨_,es',ep',hL,r'⟩) hok hg
theorem Inv.turned{t':Nat}{it:Addr}(I:#[j])(k:∀ b o,b≠it->#[O,b]=#[d]->h'.get? b=#[d])(hn:H it=none)(hL:it≠X.env.locals)
  (h1:it∈X.ex\/X.s₀.heap.objs.size<=it) (h2:∀ x c,#[V,x]=some c->c≠it) (h3:∀ p∈X.pn++pins,p.1≠it):#[J,H,{ s with heap:=h',toks:=t' }]:=by
 have nit:∀ b u,H b=some u->b≠it:=fun b u e z=>by rw[z,hn] at e;cases e
 refine I.step (g':=s.gens) (d':=s.drawn) (ch:=[it]) (fun b hb=>?_) (fun b o _ _ hc e _=>k b o (fun z=>hc (by simp[z])) e) (fun b o _ _ hc e _=>⟨o.slots,k b o (fun z=>hc (by simp[z])) e⟩) (fun _ _ _ _ n=>n)
  (fun b o hc e=>⟨o,k b o (fun z=>hc (by simp[z])) e⟩) (fun _ _ e=>e) (fun _ _ _ e=>e) (fun b ps e=>⟨#[],by rw[e];simp⟩) (fun m hm=>?_) (fun b u e=>?_) I.bare
 ·have e:b=it:=by simpa using hb
  subst e;exact⟨h1,hL,h2,h3⟩
 ·obtain⟨o,es,ep,ho,r⟩:=hm;exact⟨o,es,ep,k _ o (Ne.symm hL) ho,r⟩
 ·refine(I.hok b u e).stay (fun c v hc q=>k c v ?_ q) (fun _ q=>q) fun _ _ q=>q;rcases hc with z|z
  ·rw[z];exact nit b u e
  ·exact nit c _ z
theorem Inv.tok(I:#[j])(t:Nat):#[J,H,{ s with toks:=t }]:=I.un (h':=s.heap) (t':=t) Un.refl I.hok
theorem Inv.kept(I:#[j])(k:∀ b u,#[O,b]=some u->h'.get? b=some u):#[J,H,{ s with heap:=h',toks:=t' }]:=I.un (Un.kept k) (I.hok.kept k)
theorem Inv.laid(I:#[j])(k:∀ b u,#[O,b]=some u->h'.get? b=some u)(hp:s.heap.objs.size<=a)(new:Y9 X.prog X.w (upd H a o) h' a o) :
  Inv X pins σ (upd H a o) { s with heap:=h',toks:=t' }:=I.un (Un.laid k hp (I.hok.fresh hp)) (I.hok.laid k hp new)
theorem Inv.write(I:#[j])(mu:Mut (H x))(he:e=x\/H e=#[b,.own,x])(k:∀ b u,b≠e->#[O,b]=some u->h'.get? b=some u)(heo:∃ u,h'.get? e=some u)
  (new:Y9 X.prog X.w (upd H x o) h' x o):#[J,upd H x o,{ s with heap:=h',toks:=t' }]:=I.un (Un.write mu he k heo) (I.hok.write mu he k heo new)
theorem Inv.weak(I:#[j])(hl:σ'.length=σ.length)(w:∀ (i:Nat) v,σ'[i]?=#[b,some,v]->σ[i]?=#[b,some,v]):Inv X pins σ' H s :=
 ⟨I.ok,I.os,I.bare,I.base,let ⟨m,hn,hl'⟩:=I.loc;⟨m,hn,fun i x v e1 e2 e3=>hl' i x v e1 (e2.imp_left (w i v)) e3⟩,I.cell,I.free,I.freeC,I.pin,I.hok,hl.trans I.len⟩
theorem Inv.pins_of(I:#[j])(h:∀ p∈pins',#[O,p.1]=some p.2/\H p.1=none/\p.1≠X.env.locals/\p.1∉X.fs/\∀ v,p.2.data≠.cell v):Inv X pins' σ H s :=
 ⟨I.ok,I.os,I.bare,I.base,I.loc,I.cell,I.free,I.freeC,fun p hp=>(zwy.mp hp).elim (fun z=>I.pin p (zxb _ z)) (h p),I.hok,I.len⟩
theorem Hc{N:#[D]}(hN:N.Nodup){i j:Nat}{x:Str}(a:N[i]?=some x)(b:N[j]?=some x):i=j:=by
 obtain⟨h1,e1⟩:=zwo.mp a;obtain⟨h2,e2⟩:=zwo.mp b;exact(List.getElem_inj hN).mp (e1.trans e2.symm)
def za3(X:Cx)(i:Nat)(x:Str):Prop:=(X.fn x=true\/X.env.scope.names.lookup x=some .local)/\∀ v,X.lk[i]?≠#[b,some,v]
theorem Wk{i:Nat}:∀ v:V,([]:List (Option V))[i]?≠some (some v):=fun _ h=>by simp at h
theorem Ez{M:Model}{A:Around}{E:Value->Shared->Prop}{i:Nat}{x:Str}{v:V}{u:Value}{Q:Unit->Shared->Prop}(I:#[j])(hN:X.N.Nodup)(hi:X.N[i]?=some x)(hx:Loc X.env.scope x)(r:RelV v u)
  (h:∀ s',Inv X pins (σ.set i (some v)) H s'->(∃ a,Heap.SameBut a s.heap s'.heap/\(a=X.env.locals\/X.env.cells.lookup x=some a))->Q () s') (hf:za3 X i x:=by first|exact⟨.inl rfl,Wk⟩|exact⟨.inr rfl,Wk⟩|assumption|exact⟨.inl rfl,by assumption⟩|exact⟨.inr rfl,by assumption⟩):wpAny M A (storeName X.env x u) Q E s:=by
 obtain⟨m,hn,hl⟩:=id I.loc;have hcls:(X.env.scope.kind == .class||(X.env.scope.kind == .module&&X.env.locals != X.env.globals))=false:=by rw[I.ok.kind];rfl
 have hiσ:i<σ.length:=by rw[I.len];exact(zwo.mp hi).1
 have cne:=I.cne;have tracked:∀ {a:Addr} {h':Heap},(∃ o,s.heap.get? a=some o/\H a=none)->Heap.SameBut a s.heap h'->HOk X.prog X.w H h':=fun {a h'} ha hs b ob e=>by
  obtain⟨_,_,hfree⟩:=ha;refine(I.hok b ob e).stay (fun c w' hc q=>(hs.2 c ?_).trans q) (fun _ q=>q) fun _ _ q=>q;rintro rfl;rcases hc with rfl|hc
  ·rw[hfree] at e;cases e
  ·rw[hfree] at hc;cases hc
 rcases hx with hk|hk
 ·refine wpAny_storeName_local hk hn (fun h' hn' hs=>?_) hcls;obtain⟨oL,_,_,hoL,_⟩:=id hn;refine h _ ⟨I.ok,I.os,I.bare,⟨fun b o e n hb hx=>?_,fun b o e n hb hx=>?_,I.base.free,fun b o e hx=>?_,I.base.tups,I.base.frzs,I.base.tbls⟩,⟨_,hn',fun j y v' e1 e2 e3=>?_⟩,fun y c e=>?_,I.free,I.freeC,fun p hp=>?_,tracked ⟨oL,hoL,I.free⟩ hs,by simpa using I.len⟩ ⟨_,hs,.inl rfl⟩
  ·exact(hs.2 b (zxd (zw5 (Heap.lt_size e) I.ok.above))).trans (I.base.keep b o e n hb hx)
  ·obtain⟨sl,e1⟩:=I.base.slot b o e n hb hx;exact⟨sl,(hs.2 b (zxd (zw5 (Heap.lt_size e) I.ok.above))).trans e1⟩
  ·obtain⟨o',e1⟩:=I.base.there b o e hx;exact⟨o',(hs.2 b (zxd (zw5 (Heap.lt_size e) I.ok.above))).trans e1⟩
  ·by_cases hj:j=i
   ·subst hj;rw[hi] at e1;cases e1;rcases e2 with e2|e2
    case' inr=>exact absurd e2 (hf.2 _)
    rw[zxp hiσ] at e2;cases e2;exact⟨u,r,#[T,hk,by simp]⟩
   ·have e2:σ[j]?=#[b,some,v']\/X.lk[j]?=#[b,some,v']:=e2.imp_left fun z=>by rw[zxn (Ne.symm hj)] at z;exact z
    obtain⟨u',r',q⟩:=hl j y v' e1 e2 e3;refine⟨u',r',?_⟩;rcases q with ⟨k,e⟩|⟨k,c,e,z⟩
    ·refine #[T,k,?_];have:y≠x:=fun e=>hj (Hc hN e1 (e▸hi));simp[this,e]
    ·exact .inr ⟨k,c,e,z.sameBut hs (cne y c e)⟩
  ·obtain⟨w',z⟩:=I.cell y c e;exact⟨w',z.sameBut hs (cne y c e)⟩
  ·obtain⟨e,n,ne,nf,d⟩:=I.pin p hp;exact⟨(hs.2 p.1 ne).trans e,n,ne,nf,d⟩
 ·have hfn:X.fn x=true:=by
   rcases hf.1 with z|z
   ·exact z
   ·rw[z] at hk;cases hk
  obtain⟨c,hc⟩:=I.ok.has x (.inl hk);obtain⟨w',z⟩:=I.cell x c hc;refine wpAny_storeName_cell I.ok.kind hk hc z fun h' hc' hs=>?_;obtain⟨oc,hoc,hocd⟩:=id z;refine h { s with heap:=h' } ⟨I.ok,I.os,I.bare,⟨fun b o e n hb hx=>?_,fun b o e n hb hx=>?_,I.base.free,fun b o e hx=>?_,I.base.tups,I.base.frzs,I.base.tbls⟩,⟨m,hn.sameBut hs (Ne.symm (cne x c hc)),fun j y v' e1 e2 e3=>?_⟩,fun y c' e=>?_,I.free,I.freeC,fun p hp=>?_,tracked ⟨oc,hoc,I.freeC x c hc⟩ hs,by simpa using I.len⟩ ⟨c,hs,.inr hc⟩
  ·exact(hs.2 b (zxd (zw5 (Heap.lt_size e) (I.ok.cab x c hfn hc)))).trans (I.base.keep b o e n hb hx)
  ·obtain⟨sl,e1⟩:=I.base.slot b o e n hb hx;exact⟨sl,(hs.2 b (zxd (zw5 (Heap.lt_size e) (I.ok.cab x c hfn hc)))).trans e1⟩
  ·obtain⟨o',e1⟩:=I.base.there b o e hx;exact⟨o',(hs.2 b (zxd (zw5 (Heap.lt_size e) (I.ok.cab x c hfn hc)))).trans e1⟩
  ·by_cases hj:j=i
   ·subst hj;rw[hi] at e1;cases e1;rcases e2 with e2|e2
    case' inr=>exact absurd e2 (hf.2 _)
    rw[zxp hiσ] at e2;cases e2;exact⟨u,r,.inr ⟨.inl hk,c,hc,hc'⟩⟩
   ·have e2:σ[j]?=#[b,some,v']\/X.lk[j]?=#[b,some,v']:=e2.imp_left fun z=>by rw[zxn (Ne.symm hj)] at z;exact z
    obtain⟨u',r',q⟩:=hl j y v' e1 e2 e3;refine⟨u',r',?_⟩;rcases q with q|⟨k,c',e,z'⟩
    ·exact .inl q
    ·refine .inr ⟨k,c',e,z'.sameBut hs ?_⟩;rintro rfl;exact hj (Hc hN e1 (I.ok.inj _ _ _ e hc▸hi))
  ·by_cases hcc:c'=c
   ·subst hcc;exact⟨_,hc'⟩
   ·obtain⟨w2,z2⟩:=I.cell y c' e;exact⟨w2,z2.sameBut hs hcc⟩
  ·obtain⟨e,n,ne,nf,d⟩:=I.pin p hp;refine⟨(hs.2 p.1 ?_).trans e,n,ne,nf,d⟩;intro q;rw[q,hoc] at e;have q':oc=p.2:=Option.some.inj e;exact d w' (by rw[<- q'];exact hocd)
theorem He(I:#[j])(hN:X.N.Nodup)(hi:X.N[i]?=some x)(hx:Loc X.env.scope x)(r:RelV v u)
  (h:∀ s',Inv X pins (σ.set i (some v)) H s'->Q () s') (hf:za3 X i x:=by first|exact⟨.inl rfl,Wk⟩|exact⟨.inr rfl,Wk⟩|assumption|exact⟨.inl rfl,by assumption⟩|exact⟨.inr rfl,by assumption⟩):wpAny M A (storeName X.env x u) Q E s :=
 Ez I hN hi hx r (fun s' I' _=>h s' I') hf
theorem Inv.call'(I:#[j])(ho:s'.os=s.os)(u:Un (frs X.stack) ch H H' s.heap s'.heap)(hok:HOk X.prog X.w H' s'.heap)(hg:AllBare s'.gens)
  (hch:#[aC]):#[J,H',s']:=by
 obtain⟨h',g',d',t',o'⟩:=s';have e:o'=s.os:=ho;subst e;exact I.call (g':=g') (t':=t') (d':=d') u hok hg hch
end
abbrev XK:=Value->Option Addr->Hp->Prop
abbrev St:=List (Option V)
abbrev VK:=V->Hp->Prop
abbrev TE:=St->Hp->VK->Prop
abbrev TT:=St->Hp->(Bool->Hp->Prop)->Prop
abbrev TA:=St->Hp->(#[a]->Hp->Prop)->Prop
structure Q7 where
 nx:St->Hp->Prop
 rt:VK
 bk:St->Hp->Prop:=fun _ _=>False
 ct:St->Hp->Prop:=fun _ _=>False
abbrev TS:=Q7->St->Hp->Prop
def EP(X:Cx)(pins:#[z])(σ:St)(Q:VK)(u:Value)(s':Shared):Prop:=∃ v H',#[J,H',s']/\RelV v u/\Q v H'
def TP(X:Cx)(pins:#[z])(σ:St)(Q:Bool->Hp->Prop)(b:Bool)(s':Shared):Prop:=∃ H',#[J,H',s']/\Q b H'
def AP(X:Cx)(pins:#[z])(σ:St)(Q:#[a]->Hp->Prop)(us:#[R])(s':Shared):Prop:=∃ vs H',#[J,H',s']/\Vals vs us/\Q vs H'
def SP(X:Cx)(pins:#[z])(D:Q7)(f:Flow)(s':Shared):Prop :=
 match f with
 | .next=>∃ σ' H',Inv X pins σ' H' s'/\D.nx σ' H'
 | .brk=>∃ σ' H',Inv X pins σ' H' s'/\D.bk σ' H'
 | .cont=>∃ σ' H',Inv X pins σ' H' s'/\D.ct σ' H'
 | .ret u=>∃ v σ' H',Inv X pins σ' H' s'/\RelV v u/\D.rt v H'
def PE(X:Cx)(e:Expr)(t:TE):Prop :=
 ∀ (pins:#[z]) (s:Shared) (σ:St) (H:Hp) (Q:VK),#[j]->t σ H Q->wpAny (model X.prog X.w) X.A #[F,e] (EP X pins σ Q) X.xe s
def PT(X:Cx)(e:Expr)(t:TT):Prop :=
 ∀ (pins:#[z]) (s:Shared) (σ:St) (H:Hp) (Q:Bool->Hp->Prop),#[j]->t σ H Q->wpAny (model X.prog X.w) X.A (isTrue e X.env #[F,e]) (TP X pins σ Q) X.xe s
def PW(X:Cx)(e:Expr)(t:TT):Prop :=
 ∀ (whole:Sem Value) (pins:#[z]) (s:Shared) (σ:St) (H:Hp) (Q:Bool->Hp->Prop),#[j]->t σ H Q->wpAny (model X.prog X.w) X.A (isTrue e X.env whole) (TP X pins σ Q) X.xe s
theorem PW.pt(h:PW X e t):PT X e t:=h _
def PA(X:Cx)(es:List Expr)(t:TA):Prop :=
 ∀ (pos:Pos) (pins:#[z]) (s:Shared) (σ:St) (H:Hp) (Q:#[a]->Hp->Prop),#[j]->t σ H Q->wpAny (model X.prog X.w) X.A (spliced (backTo pos (starEach es X.env))) (AP X pins σ Q) X.xe s
def PS(X:Cx)(st:Stmt)(t:TS):Prop :=
 ∀ (pins:#[z]) (s:Shared) (σ:St) (H:Hp) (D:Q7),#[j]->t D σ H->wpAny (model X.prog X.w) X.A (exec st X.env) (SP X pins D) X.xe s
def PSs(X:Cx)(st:List Stmt)(t:TS):Prop :=
 ∀ (pins:#[z]) (s:Shared) (σ:St) (H:Hp) (D:Q7),#[j]->t D σ H->wpAny (model X.prog X.w) X.A (execs st X.env) (SP X pins D) X.xe s
theorem thn(h:wpAny M A t Q E s)(hQ:∀ a s,Q a s->Q' a s):wpAny M A t Q' E s:=wpAny_mono h hQ fun _ _ x=>x
section
variable{X:Cx}
inductive tVar(i:Nat)(σ:L2.St)(H:Hp)(Q:VK):Prop where
 | mk(v)(_:σ[i]?=#[b,some,v])(_:Q v H)
def tC(v:V):TE:=fun _ H Q=>Q v H
theorem zjf(hN:X.N[i]?=some x)(hv:Vis X.env.scope x)(hd:(x == ("__debug__":Str))=false:=by decide)(hcd:(x == ("__classdict__":Str))=false:=by decide):PE X (.Name x pos) (tVar i):=by
 intro pins s σ H Q I h;obtain⟨v,e,h⟩:=h;obtain⟨m,hn,hl⟩:=I.loc;obtain⟨u,r,l⟩:=hl i x v hN (.inl e) hv;have fin:EP X pins σ Q u s:=⟨v,H,I,r,h⟩;rcases l with ⟨hk,hm⟩|⟨hk,c,hc,hcell⟩
 ·exact wpAny_Name (wpAny_loadName_local I.ok.kind hk hn hm fin) hd
 ·rcases hk with hk|hk
  ·exact wpAny_Name (wpAny_loadName_cell I.ok.kind hk hc hcell fin) hd
  ·exact wpAny_Name (wpAny_loadName_free I.ok.kind hk hc hcell fin hcd) hd
theorem Zg{i j pos}:PE X (.Constant (.int i) j pos) (tC (.int i)):=fun _ _ _ H _ I h=>wpAny_Constant_int ⟨.int i,H,I.tok _,#[y,_],h⟩
theorem Xe{b j pos}:PE X (.Constant (.bool b) j pos) (tC (.bl b)):=fun _ _ _ H _ I h=>Constant_bool ⟨.bl b,H,I,rfl,h⟩
theorem Y8{j pos}:PE X (.Constant .none j pos) (tC .non):=fun _ _ _ H _ I h=>Constant_none ⟨.non,H,I,rfl,h⟩
theorem Zn{x j pos}:PE X (.Constant (.str x) j pos) (tC (.str x)):=fun _ _ _ H _ I h=>Calls.Constant_str ⟨.str x,H,I.tok _,#[y,_],h⟩
def Gl(X:Cx)(x:Str):Prop:=X.env.kindOf x=some .globalImplicit
theorem Od(I:#[j])(hg:Gl X x)(hm:X.mg x=some u)(h:Q u s)
  (hd:(x == ("__debug__":Str))=false:=by decide):#[aa,X.A,#[F,.Name x pos],Q,E,s] :=
 Calls.Name_function_global I.ok.kind hg (Calls.loadGlobal_global (by rw[I.ok.glob];exact I.mod.glob.keeps I.bk) hm h) hd
theorem O9(I:#[j])(hg:Gl X x)(hm:X.mg x=none)(hv:bootBuiltins x=some u)(h:Q u s)
  (hn:x≠"__name__":=by decide) (hd:(x == ("__debug__":Str))=false:=by decide):#[aa,X.A,#[F,.Name x pos],Q,E,s]:=by
 obtain⟨mb,h1,h2⟩:=I.mod.blt;exact Calls.Name_function_global I.ok.kind hg (Calls.loadGlobal_builtin (by rw[I.ok.glob];exact I.mod.glob.keeps I.bk) hm (by rw[I.ok.blt];exact h1.keeps I.bk) ((h2 x hn).trans hv) h) hd
theorem zcb(hg:Gl X x)(hm:X.mg x=some u)(r:RelV v u)(hd:(x == ("__debug__":Str))=false:=by decide):PE X (.Name x pos) (tC v) :=
 fun _ _ _ H _ I h=>Od I hg hm ⟨v,H,I,r,h⟩ hd
theorem W8(hg:Gl X x)(hm:X.mg x=none)(hv:bootBuiltins x=some u)(r:RelV v u)(hn:x≠"__name__":=by decide)(hd:(x == ("__debug__":Str))=false:=by decide):PE X (.Name x pos) (tC v) :=
 fun _ _ _ H _ I h=>O9 I hg hm hv ⟨v,H,I,r,h⟩ hn hd
variable{a b:Expr}{ta tb:TE}{pos:Pos}
def PC(X:Cx)(op:CmpOp)(a b:Expr)(t:TE):Prop :=
 ∀ (pins:#[z]) (s:Shared) (σ:St) (H:Hp) (Q:VK),#[j]->t σ H Q ->
   wpAny (model X.prog X.w) X.A (eval a X.env) (fun v s₁=>#[aa,X.A,#[F,b],fun u s₂=>#[aa,X.A,compareOp op v u,EP X pins σ Q,X.xe,s₂],X.xe,s₁]) X.xe s
inductive tBI(Q:Bool->Hp->Prop)(x:V)(H1:Hp):Prop where
 | mk(c)(_:x=.bl c)(_:Q c H1)
def tB(t:TE):TT:=fun σ H Q=>t σ H fun x H1=>tBI Q x H1
theorem zjg(h:PC X op a b t)(h1:behindInMarks op b=false:=by first|exact nobehind _ ⋯ ⋯|rfl):PE X (.Compare a [op] [b] pos) t:=fun pins s σ H Q I hw=>wpAny_Compare1 (h pins s σ H Q I hw) h1
theorem S4(h:PC X op a b t)(h1:behindInMarks op b=false:=by first|exact nobehind _ ⋯ ⋯|rfl):PT X (.Compare a [op] [b] pos) (tB t):=by
 intro pins s σ H Q I hw;refine wpAny_isTrue_Compare1 (thn (h pins s σ H _ I hw) fun v s1 h1=>thn h1 fun u s2 h2=>thn h2 fun c s3 ⟨x,H1,I1,r1,q1⟩=>?_) h1;obtain⟨d,rfl,q⟩:=q1;cases r1;exact wpAny_truthy_bool ⟨H1,I1,q⟩
theorem Yx(h:PE X e t)(he:∀ whole,isTrue e X.env whole=(do let v <- whole;standAt e.pos;holding [v] (truthy v)):=by intro _;rfl):PT X e (tB t):=by
 intro pins s σ H Q I hw;refine isTrue_plain (thn (h pins s σ H _ I hw) fun v s1 ⟨x,H1,I1,r1,q1⟩=>?_) (he _);obtain⟨d,rfl,q⟩:=q1;cases r1;exact wpAny_truthy_bool ⟨H1,I1,q⟩
variable{tA tB':TT}{rest:List Expr}
def zk1(t u:TT):TT:=fun σ H Q=>t σ H fun c H1=>if c=true then u σ H1 Q else Q false H1
def tOr(t u:TT):TT:=fun σ H Q=>t σ H fun c H1=>if c=true then Q true H1 else u σ H1 Q
def zmf(t:TT):TT:=fun σ H Q=>t σ H fun c H1=>Q (!c) H1
theorem Mg(ha:PT X a tA):PW X (.BoolOp .And [a] pos) tA:=by
 intro wh pins s σ H Q I h;refine isTrue_and (thn (ha pins s σ H Q I h) fun c s1 e=>?_);cases c with
 | true=>exact isTrue_and_nil e
 | false=>exact e
theorem Xt(ha:PT X a tA):PW X (.BoolOp .Or [a] pos) tA:=by
 intro wh pins s σ H Q I h;refine isTrue_or (thn (ha pins s σ H Q I h) fun c s1 e=>?_);cases c with
 | false=>exact isTrue_or_nil e
 | true=>exact e
theorem Hf(ha:PT X a tA)(hb:PW X (.BoolOp .And (b :: rest) pos) tB'):PW X (.BoolOp .And (a :: b :: rest) pos) (zk1 tA tB'):=by
 intro wh pins s σ H Q I h;refine isTrue_and (thn (ha pins s σ H _ I h) fun c s1 ⟨H1,I1,q1⟩=>?_);cases c with
 | true=>exact hb wh pins s1 σ H1 Q I1 q1
 | false=>exact⟨H1,I1,q1⟩
theorem X3(ha:PT X a tA)(hb:PW X (.BoolOp .Or (b :: rest) pos) tB'):PW X (.BoolOp .Or (a :: b :: rest) pos) (tOr tA tB'):=by
 intro wh pins s σ H Q I h;refine isTrue_or (thn (ha pins s σ H _ I h) fun c s1 ⟨H1,I1,q1⟩=>?_);cases c with
 | true=>exact⟨H1,I1,q1⟩
 | false=>exact hb wh pins s1 σ H1 Q I1 q1
theorem Xa(ha:PT X a tA):PT X (.UnaryOp .Not a pos) (zmf tA):=by
 intro pins s σ H Q I h;exact isTrue_not (ha pins s σ H (fun c H1=>Q (!c) H1) I h)
inductive zjh(tb:TE)(σ:L2.St)(Q:VK)(x:V)(H1:Hp):Prop where
 | mk(c)(_:x=.bl c)(_:if c=true then tb σ H1 Q else Q (.bl false) H1)
def zk2(ta tb:TE):TE:=fun σ H Q=>ta σ H fun x H1=>zjh tb σ Q x H1
inductive zji(Q:VK)(x:V)(H1:Hp):Prop where
 | mk(c)(_:x=.bl c)(_:Q (.bl (!c)) H1)
def zk3(ta:TE):TE:=fun σ H Q=>ta σ H fun x H1=>zji Q x H1
theorem Hg{op}(h:PE X a t):PE X (.BoolOp op [a] pos) t:=fun pins s σ H Q I hw=>BoolOp_one (h pins s σ H Q I hw)
theorem Ln(ha:PE X a ta)(hb:PE X (.BoolOp .And (b :: rest) pos) tb):PE X (.BoolOp .And (a :: b :: rest) pos) (zk2 ta tb):=by
 intro pins s σ H Q I h;refine BoolOp_and (thn (ha pins s σ H _ I h) fun v s1 ⟨x,H1,I1,r1,q1⟩=>?_);obtain⟨c,rfl,q1⟩:=q1;cases r1;refine wpAny_truthy_bool ?_;cases c with
 | true=>exact hb pins s1 σ H1 Q I1 q1
 | false=>exact⟨.bl false,H1,I1,rfl,q1⟩
theorem zjj(ha:PE X a ta):PE X (.UnaryOp .Not a pos) (zk3 ta):=by
 intro pins s σ H Q I h;refine UnaryOp_ (thn (ha pins s σ H _ I h) fun v s1 ⟨x,H1,I1,r1,q1⟩=>?_);obtain⟨c,rfl,q1⟩:=q1;cases r1;exact not_of (wpAny_truthy_bool ⟨.bl (!c),H1,I1,rfl,q1⟩)
def tIf(t:TT)(ta tb:TE):TE:=fun σ H Q=>t σ H fun c H1=>if c=true then ta σ H1 Q else tb σ H1 Q
theorem Br(hc:PT X c tA)(ha:PE X a ta)(hb:PE X b tb):PE X (.IfExp c a b pos) (tIf tA ta tb):=by
 intro pins s σ H Q I h;refine wpAny_IfExp (thn (hc pins s σ H _ I h) fun d s1 ⟨H1,I1,q1⟩=>?_);cases d with
 | true=>exact ha pins s1 σ H1 Q I1 q1
 | false=>exact hb pins s1 σ H1 Q I1 q1
end
def SqL(K:Frag)(H:Hp)(a:Addr)(xs:#[a]):Prop :=
 Rd H a (.lst xs) \/
  ∃ (o:Obj) (its:Array Value) (n:Nat),K.lookup a=#[d]/\o.cls=.type "list"/\o.dict=none/\o.data=.seq its n/\its.size<=sizeLine/\Vals xs its.toList
def SqT(K:Frag)(H:Hp)(a:Addr)(xs:#[a]):Prop :=
 Rd H a (.tup xs) \/
  ∃ (o:Obj) (its:Array Value) (n:Nat),K.lookup a=#[d]/\o.cls=.type "tuple"/\o.data=.seq its n/\its.size<=sizeLine/\Vals xs its.toList
def zmg:Value->Option V
 | .none=>some .non
 | .bool b=>#[b,.bl,b]
 | .int i _=>#[q,i]
 | .str x _=>#[b,.str,x]
 | .bytes b _=>#[b,.byt,b]
 | .float b _=>#[b,.flt,b]
 | .ref a=>#[e,a]
 | .type n=>#[b,.ty,n]
 | _=>none
theorem RelV.abs(r:RelV x u):zmg u=some x:=by
 cases x with
 | non=>cases r;rfl
 | bl _=>cases r;rfl
 | int _=>obtain⟨t,rfl⟩:=r;rfl
 | str _=>obtain⟨t,rfl⟩:=r;rfl
 | byt _=>obtain⟨t,rfl⟩:=r;rfl
 | flt _=>obtain⟨t,rfl⟩:=r;rfl
 | ref _=>cases r;rfl
 | ty _=>cases r;rfl
theorem RelV.inj(r:RelV x u)(q:RelV y u):x=y:=Option.some.inj (r.abs.symm.trans q.abs)
theorem Vals.inj:∀ {xs ys:List V} {us:List Value},Vals xs us->Vals ys us->xs=ys
 | _,_,_,.nil,.nil=>rfl
 | _,_,_,.cons r t,.cons r' t'=>by rw[r.inj r',Vals.inj t t']
section
variable{X:Cx}{pins:#[z]}{σ:St}{H:Hp}{s:Shared}{a:Addr}{xs ys:#[a]}
theorem SqL.of{K:Frag}(h:#[A,H,a,xs]):SqL K H a xs:=.inl (.inl h)
theorem SqT.of{K:Frag}(h:H a=#[b,.tup,xs]):SqT K H a xs:=.inl (.inl h)
theorem Inv.list(I:#[j])(h:SqL X.K H a xs):∃ its:#[R],Vals xs its/\PlainL s.heap a its.toArray/\xs.length<=sizeLine:=by
 rcases h with h|⟨o,its,n,hk,hc,hd,hs,hz,r⟩
 ·obtain⟨z,its,n,r,e⟩:=h.ok I.hok;exact⟨its,r,⟨_,n,e,rfl,rfl,rfl⟩,z⟩
 ·refine⟨its.toList,r,⟨o,n,I.kIn a o hk,hc,hd,by simpa using hs⟩,?_⟩;have e:=r.length;simp only[Array.length_toList] at e;omega
theorem Inv.tuple(I:#[j])(h:SqT X.K H a xs):∃ its:#[R],Vals xs its/\IsTup s.heap a its.toArray/\xs.length<=sizeLine:=by
 rcases h with h|⟨o,its,n,hk,hc,hs,hz,r⟩
 ·obtain⟨z,its,r,p⟩:=h.ok I.hok;exact⟨its,r,p,z⟩
 ·refine⟨its.toList,r,⟨o,I.kIn a o hk,hc,n,by simpa using hs⟩,?_⟩;have e:=r.length;simp only[Array.length_toList] at e;omega
theorem Inv.list_inj(I:#[j])(h:SqL X.K H a xs)(h':SqL X.K H a ys):xs=ys:=by
 obtain⟨its,r,⟨o,n,e,_,_,d⟩,_⟩:=I.list h;obtain⟨its',r',⟨o',n',e',_,_,d'⟩,_⟩:=I.list h';rw[e] at e';cases e';rw[d] at d';injection d' with d1 _;have:its=its':=by simpa using congrArg Array.toList d1
 subst this;exact r.inj r'
end
section
variable{X:Cx}{st:Stmt}{rest:List Stmt}{t u:TS}{e:Expr}{te:TE}{pos:Pos}
def zfa:TS:=fun D σ H=>D.nx σ H
def Z1(t u:TS):TS:=fun D σ H=>t { D with nx:=u D } σ H
theorem Zq:PSs X [] zfa:=fun _ _ σ H _ I h=>wpAny_execs_nil ⟨σ,H,I,h⟩
theorem Zb(h1:PS X st t)(h2:PSs X rest u):PSs X (st :: rest) (Z1 t u):=by
 intro pins s σ H D I h;refine wpAny_execs_cons (thn (h1 pins s σ H { D with nx:=u D } I h) fun f s1 q=>?_);cases f with
 | next =>
   obtain⟨σ',H',I',q⟩:=q;exact h2 pins s1 σ' H' D I' q
 | ret v=>exact q
 | brk=>exact q
 | cont=>exact q
theorem Zf(h1:PS X st t):PSs X [st] t:=by
 intro pins s σ H D I h;refine wpAny_execs_cons (thn (h1 pins s σ H D I h) fun f s1 q=>?_);cases f with
 | next=>exact wpAny_execs_nil q
 | ret v=>exact q
 | brk=>exact q
 | cont=>exact q
theorem Inv.quiet(I:#[j]):interactive X.env=false:=by simp[interactive,I.ok.kind]
def zk4(te:TE):TS:=fun D σ H=>te σ H fun _ H1=>D.nx σ H1
theorem Yb(he:PE X e te)(hs:swapsWith e none pos.line X.env=pure false:=by rfl):PS X (.Expr e pos) (zk4 te):=by
 intro pins s σ H D I h;exact wpAny_Expr_any (thn (he pins s σ H _ I h) fun v s1 ⟨x,H1,I1,r1,q1⟩=>⟨σ,H1,I1,q1⟩) I.quiet hs
def zk5(te:TE):TS:=fun D σ H=>te σ H D.rt
theorem Zl(he:PE X e te):PS X (.Return (some e) pos) (zk5 te):=by
 intro pins s σ H D I h;exact wpAny_Return_some (thn (he pins s σ H _ I h) fun v s1 ⟨x,H1,I1,r1,q1⟩=>⟨x,σ,H1,I1,r1,q1⟩)
def Cf(c:TT)(t u:TS):TS:=fun D σ H=>c σ H fun b H1=>if b=true then t D σ H1 else u D σ H1
theorem Zy(hc:PT X c tc)(ha:PSs X a t)(hb:PSs X b u):PS X (.If c a b pos) (Cf tc t u):=by
 intro pins s σ H D I h;refine wpAny_If (thn (hc pins s σ H _ I h) fun d s1 ⟨H1,I1,q1⟩=>?_);cases d with
 | true=>exact ha pins s1 σ H1 D I1 q1
 | false=>exact hb pins s1 σ H1 D I1 q1
end
abbrev TG:=V->St->Hp->(St->Hp->Prop)->Prop
abbrev TGs:=#[a]->St->Hp->(St->Hp->Prop)->Prop
def PG(X:Cx)(target:Expr)(t:TG):Prop :=
 ∀ (pins:#[z]) (s:Shared) (σ:St) (H:Hp) (v:V) (u:Value) (Q:St->Hp->Prop),#[j]->RelV v u->t v σ H Q ->
   wpAny (model X.prog X.w) X.A (assign target X.env u) (fun _ s'=>∃ σ' H',Inv X pins σ' H' s'/\Q σ' H') X.xe s
def PGs(X:Cx)(ts:List Expr)(t:TGs):Prop :=
 ∀ (pins:#[z]) (s:Shared) (σ:St) (H:Hp) (vs:#[a]) (us:#[R]) (Q:St->Hp->Prop),#[j]->Vals vs us->t vs σ H Q ->
   wpAny (model X.prog X.w) X.A (assignInOrder ((assignEach ts X.env).map (·.2)) us) (fun _ s'=>∃ σ' H',Inv X pins σ' H' s'/\Q σ' H') X.xe s
abbrev zk6:=V->V->V->Hp->(Hp->Prop)->Prop
def zk7(X:Cx)(t:zk6):Prop :=
 ∀ (pins:#[z]) (s:Shared) (σ:St) (H:Hp) (o i v:V) (ov iv u:Value) (Q:Hp->Prop),#[j]->RelV o ov->RelV i iv->RelV v u->t o i v H Q ->
   wpAny (model X.prog X.w) X.A (setItem ov iv u) (fun _ s'=>∃ H',#[J,H',s']/\Q H') X.xe s
section
variable{X:Cx}{pos:Pos}
def Ws(i:Nat):TG:=fun v σ H Q=>Q (σ.set i (some v)) H
theorem Tf(hN:X.N.Nodup)(hi:X.N[i]?=some x)(hx:Loc X.env.scope x)(hf:za3 X i x:=by first|exact⟨.inl rfl,Wk⟩|exact⟨.inr rfl,Wk⟩|assumption|exact⟨.inl rfl,by assumption⟩|exact⟨.inr rfl,by assumption⟩):PG X (.Name x pos) (Ws i):=by
 intro pins s σ H v u Q I r h;exact wpAny_assign_Name (He I hN hi hx r (fun s' I'=>⟨_,H,I',h⟩) hf)
def zmh:TGs:=fun vs σ H Q=>vs=[]/\Q σ H
def zk8(t:TG)(u:TGs):TGs:=fun vs σ H Q=>∃ v r,vs=v :: r/\t v σ H fun σ' H'=>u r σ' H' Q
theorem Xl:PGs X [] zmh:=by
 intro pins s σ H vs us Q I r h;obtain⟨e,h⟩:=h;subst e;cases r;exact assignInOrder_nil ⟨σ,H,I,h⟩
theorem Zv(h1:PG X e t)(h2:PGs X es u)
  (hs:(assignEach (e :: es) X.env).map (·.2)=assign e X.env :: (assignEach es X.env).map (·.2):=by rfl):PGs X (e :: es) (zk8 t u):=by
 intro pins s σ H vs us Q I r h;obtain⟨v,vr,e1,h⟩:=h;subst e1;cases r with
 | cons r rr =>
   rw[hs];refine assignInOrder_cons (thn (h1 pins s σ H _ _ _ I r h) fun _ s1 ⟨σ1,H1,I1,q1⟩=>?_);exact h2 pins s1 σ1 H1 _ _ Q I1 rr q1
def zk9(K:Frag)(n:Nat)(t:TGs):TG:=fun v σ H Q=>∃ a xs,v=.ref a/\SqT K H a xs/\xs.length=n/\t xs σ H Q
theorem zjk(hc:X.calm=true)(h:PGs X es t)
  (hn:(assignEach es X.env).length=n:=by rfl) (hst:(assignEach es X.env).findIdx? (·.1)=none:=by rfl):PG X (.Tuple es k pos) (zk9 X.K n t):=by
 intro pins s σ H v u Q I r hw;obtain⟨a,xs,e1,hq,hl,hw⟩:=hw;subst e1;cases r;obtain⟨its,rv,ht,hz⟩:=I.tuple hq;refine assign_Tuple_tuple (I.ok.hd hc) ht (by simp[hn,<- hl,rv.length]) hst fun h' hx=>?_;have I1:#[J,H,{ s with heap:=h' }]:=I.kept (t':=s.toks) fun b o e=>hx b o (zxd (Heap.lt_size e)) e;exact h pins _ σ H xs _ Q I1 (by simpa using rv) hw
def zmi(to ti:TE)(t:zk6):TG:=fun v σ H Q=>to σ H fun o H1=>ti σ H1 fun i H2=>t o i v H2 fun H3=>Q σ H3
theorem zfb(ho:PE X o to)(hi:PE X i ti)(hs:zk7 X t)
  (ha:∀ v,assign (.Subscript o i pos) X.env v=(do
   let ov <- holding [v] (eval o X.env)
   let iv <- holding [v,ov] (eval i X.env)
   standAt pos
   holding [v,ov,iv] (setItem ov iv v)
   release [v,ov,iv] []):=by intro _;rfl):PG X (.Subscript o i pos) (zmi to ti t):=by
 intro pins s σ H v u Q I r h;rw[ha];refine wpAny_bind (wpAny_holding (thn (ho pins s σ H _ I h) fun ov s1 ⟨x,H1,I1,r1,q1⟩=>?_));refine wpAny_bind (wpAny_holding (thn (hi pins s1 σ H1 _ I1 q1) fun iv s2 ⟨y,H2,I2,r2,q2⟩=>?_));refine wpAny_bind (wpAny_standAt (wpAny_bind (wpAny_holding (thn (hs pins s2 σ H2 x y v ov iv u _ I2 r1 r2 r q2) fun _ s3 ⟨H3,I3,q3⟩=>?_))));exact wpAny_release ⟨σ,H3,I3,q3⟩
def Bs(te:TE)(g:TG):TS:=fun D σ H=>te σ H fun x H1=>g x σ H1 D.nx
theorem S5(he:PE X e te)(hg:PG X tg g)(hs:swapsWithSole [tg] e pos.line X.env=pure false:=by rfl)(hw:swappedStores [tg] e X.env=pure none:=by rfl)
  (h1:(assignEach [tg] X.env).map (·.2)=[assign tg X.env]:=by rfl):PS X (.Assign [tg] e pos) (Bs te g):=by
 intro pins s σ H D I h;refine wpAny_Assign_stores (thn (he pins s σ H _ I h) fun v s1 ⟨x,H1,I1,r1,q1⟩=>?_) hs hw;rw[h1];exact thn (hg pins s1 σ H1 x v _ I1 r1 q1) fun _ s2 q=>q
theorem zjl(hN:X.N.Nodup)(hi:X.N[i]?=some x)(hx:Loc X.env.scope x)(he:PE X e te)(hs:swapsWith e (some (.Name x pos')) pos.line X.env=pure false:=by rfl)(hf:za3 X i x:=by first|exact⟨.inl rfl,Wk⟩|exact⟨.inr rfl,Wk⟩|assumption|exact⟨.inl rfl,by assumption⟩|exact⟨.inr rfl,by assumption⟩) :
  PS X (.Assign [.Name x pos'] e pos) (Bs te (Ws i)):=by
 intro pins s σ H D I h;refine wpAny_Assign_Name (thn (he pins s σ H _ I h) fun v s1 ⟨y,H1,I1,r1,q1⟩=>?_) hs;exact He I1 hN hi hx r1 (fun s2 I2=>⟨_,H1,I2,q1⟩) hf
end
section
variable{X:Cx}{pos:Pos}
def zfc(c:TT)(tb:TS):TS:=fun D σ H=>∃ W:Nat->St->Hp->Prop,(∃ m,W m σ H)/\∀ m σ H,W m σ H ->
 c σ H fun b H1=>if b=true then ∃ N:St->Hp->Prop,(∀ σ' H',N σ' H'->∃ m',m' < m/\W m' σ' H')/\tb { D with nx:=N,ct:=N,bk:=D.nx } σ H1 else D.nx σ H1
theorem Bt(hp:PassesOwn (model X.prog X.w) X.A X.env X.xe)(hc:PT X c tc)(hb:PSs X body tb):PS X (.While c body [] pos) (zfc tc tb):=by
 intro pins s σ H D I h;obtain⟨W,⟨m0,w0⟩,turn⟩:=h;refine wpAny_While (codeAny_whileLoop (fun n s'=>∃ σ' H',Inv X pins σ' H' s'/\W n σ' H') ?_ m0 ⟨σ,H,I,w0⟩);rintro n s1 ⟨σ1,H1,I1,w1⟩;refine wpAny_passesOwn hp (thn (hc pins s1 σ1 H1 _ I1 (turn n σ1 H1 w1)) fun b s2 ⟨H2,I2,q2⟩=>?_);cases b with
 | true =>
   obtain⟨N,hN,q2⟩:=q2;rw[#[f,rfl]];refine wpAny_passesOwn hp (thn (hb pins s2 σ1 H2 _ I2 q2) fun f s3 q3=>?_);cases f with
   | next =>
     obtain⟨σ3,H3,I3,n3⟩:=q3;obtain⟨m',hm,w3⟩:=hN σ3 H3 n3;exact⟨m',hm,σ3,H3,I3,w3⟩
   | cont =>
     obtain⟨σ3,H3,I3,n3⟩:=q3;obtain⟨m',hm,w3⟩:=hN σ3 H3 n3;exact⟨m',hm,σ3,H3,I3,w3⟩
   | brk=>exact q3
   | ret v=>exact q3
 | false =>
   rw[#[c,zw4]];exact wpAny_execs_nil ⟨σ1,H2,I2,q2⟩
end
structure It where
 go:Nat->Hp->Prop
 yld:Nat->Hp->V->Hp->Prop
 stop:Nat->Hp->Prop
def FpOk(X:Cx)(pins:#[z])(H:Hp)(b:Addr):Prop :=
 H b=none/\b≠X.env.locals/\b∉X.fs/\(b∈X.ex\/X.s₀.heap.objs.size<=b)/\(∀ x c,#[V,x]=some c->c≠b)/\∀ p∈X.pn++pins,p.1≠b
theorem Inv.fpOk(I:#[j])(hb:s.heap.objs.size<=b)(hn:H' b=none):FpOk X pins H' b:=by
 refine⟨hn,Nat.ne_of_gt (zw5 I.lt hb),I.nofs hb,.inr (zw6 I.sz hb),fun x c e z=>?_,fun p hp z=>?_⟩
 ·obtain⟨v,q⟩:=I.cell x c e;exact absurd (zw5 q.lt (by rw[z];exact hb)) (zx8 _)
 ·exact absurd (zw5 (Heap.lt_size (I.pin p hp).1) (by rw[z];exact hb)) (zx8 _)
structure Bu(P:Program)(w:World)(K:Frag)(tg:Expr)(J:It)(fp:#[B])(it:Addr)(tn:Nat->Heap->Prop):Prop where
 mem:it∈fp
 obj:∀ i h,tn i h->∀ b∈fp,∃ o,h.get? b=#[d]/\∀ v,o.data≠.cell v
 keep:∀ i h h',tn i h->(∀ b∈fp,∀ o,h.get? b=some o->h'.get? b=some o)->tn i h'
 item:∀ (X:Cx),X.prog=P->X.w=w->X.K=K->X.calm=true->∀ (i:Nat) (pins:#[z]) (s:Shared) (σ:St) (H:Hp) (E:Value->Shared->Prop),#[j]->(∀ b∈fp,FpOk X pins H b)->tn i s.heap->J.go i H ->
  wpAny (model P w) X.A (pyNext (.ref it)) (fun r s1=>∃ u,r=some u /\
   wpAny (model P w) X.A (letOwnedTupleGo tg (.ref it) u) (fun _ s2=>∃ x H',#[J,H',s2]/\RelV x u/\J.yld i H x H'/\tn (i+1) s2.heap/\∀ b∈fp,H' b=none) E s1) E s
 done:∀ (X:Cx),X.prog=P->X.w=w->X.K=K->X.calm=true->∀ (i:Nat) (pins:#[z]) (s:Shared) (σ:St) (H:Hp) (E:Value->Shared->Prop),#[j]->(∀ b∈fp,FpOk X pins H b)->tn i s.heap->J.stop i H ->
  wpAny (model P w) X.A (pyNext (.ref it)) (fun r s1=>r=none/\#[J,H,s1]) E s
 self:∀ (A:Around) (i:Nat) (s:Shared) (Q:Value->Shared->Prop) (E:Value->Shared->Prop),tn i s.heap->Q (.ref it) s->wpAny (model P w) A (pyIter (.ref it)) Q E s
abbrev TI:=St->Hp->(It->Hp->Prop)->Prop
def PIE(X:Cx)(pins:#[z])(σ:St)(tg:Expr)(R:It->Hp->Prop)(itv:Value)(s2:Shared):Prop :=
 ∃ (it:Addr) (fp:#[B]) (tn:Nat->Heap->Prop) (J:It) (H':Hp),itv=.ref it/\#[J,H',s2]/\Bu X.prog X.w X.K tg J fp it tn/\tn 0 s2.heap/\(∀ b∈fp,FpOk X pins H' b)/\R J H'
def PI(X:Cx)(tg iter:Expr)(wi:TI):Prop :=
 ∀ (pins:#[z]) (s:Shared) (σ:St) (H:Hp) (R:It->Hp->Prop),#[j]->wi σ H R ->
   wpAny (model X.prog X.w) X.A (eval iter X.env) (fun v s1=>#[aa,X.A,pyIter v,PIE X pins σ tg R,X.xe,s1]) X.xe s
theorem zfd(ho:s.heap.get? it=some o)(hc:o.cls=.type n)(hd:o.data=.fields vs)
  (hn:["enumerate","zip","dict_itemiterator","dict_reverseitemiterator","odict_iterator","itertools.zip_longest","itertools.pairwise"].contains n=false) (hQ:Q () s):wpAny M A (letOwnedTupleGo tg (.ref it) u) Q E s:=by
 unfold letOwnedTupleGo;cases tg<;>first
  | exact wpAny_pure hQ
  | (cases u<;>first
    | exact wpAny_pure hQ
    | (refine wpAny_bind (wpAny_load ho ?_)
       rw[hc,hd];show wpAny M A (if (["enumerate","zip","dict_itemiterator","dict_reverseitemiterator","odict_iterator","itertools.zip_longest","itertools.pairwise"].contains n&&vs[0]? == some (rawInt _))=true then _ else _) Q E s;rw[if_neg (by intro h;rw[hn,Bool.false_and] at h;cases h)];exact wpAny_pure hQ))
def Itl(K:Frag)(a:Addr):It :=
 ⟨fun i H=>∃ xs x,SqL K H a xs/\xs[i]?=some x,fun i H x H'=>H'=H/\∀ xs,SqL K H a xs->xs[i]?=some x,fun i H=>∃ xs,SqL K H a xs/\xs.length<=i⟩
def Itr(lo:Int)(n:Nat):It:=⟨fun i _=>i<n,fun i H x H'=>H'=H/\x=.int (lo+i),fun i _=>n<=i⟩
theorem zdi{P:Program}{w:World}{K:Frag}{tg:Expr}(a it:Addr):Bu P w K tg (Itl K a) [it] it (fun i h=>h.IsListIter it a i) where
 mem:=by simp
 obj:=fun i h st b hb=>by
  have e:b=it:=by simpa using hb
  subst e;obtain⟨o,e,c,d⟩:=st;exact⟨o,e,fun v z=>by rw[d] at z;cases z⟩
 keep:=fun i h h' st k=>st.at fun o e=>k it (by simp) o e
 item:=by
  intro X hP hw hK hc i pins s σ H E I hf st hg;subst hP hw hK;obtain⟨xs,x,hq,hx⟩:=hg;obtain⟨its,rv,p,hz⟩:=I.list hq;obtain⟨u,hu,ru⟩:=rv.get hx;obtain⟨f0,f1,f2,f3,f4,f5⟩:=hf it (by simp);refine wpAny_pyNext_list_item st p.isList (x:=u) (by simpa using hu) fun h' st' sb=>?_;have I1:#[J,H,{ s with heap:=h' }]:=I.turned (t':=s.toks) (fun b o hb e=>(sb.2 b hb).trans e) f0 f1 f3 f4 f5;obtain⟨o,e,c,d⟩:=id st';exact#[w,u,zfd (s:={ s with heap:=h' }) e c d ⋯ ⟨x,H,I1,ru,⟨rfl,fun ys hy=>by rw[I.list_inj hy hq];exact hx⟩,st',fun b hb=>(hf b hb).1⟩]
 done:=by
  intro X hP hw hK hc i pins s σ H E I hf st hg;subst hP hw hK;obtain⟨xs,hq,hx⟩:=hg;obtain⟨its,rv,p,hz⟩:=I.list hq;obtain⟨f0,f1,f2,f3,f4,f5⟩:=hf it (by simp);have hl:=rv.length;exact wpAny_pyNext_list_end (I.ok.hd hc) st p.isList (by simp;omega) fun h' eb=>⟨rfl,I.turned (t':=s.toks) (fun b o hb e=>eb b o hb e) f0 f1 f3 f4 f5⟩
 self:=fun _ _ _ _ _ st h=>wpAny_pyIter_listiter st h
theorem za4{P:Program}{w:World}{K:Frag}{tg:Expr}(it:Addr)(lo:Int)(n:Nat):Bu P w K tg (Itr lo n) [it] it (fun i h=>IsRangeIter h it (lo+(i:Nat)*1) ((n:Int)-(i:Nat)) 1) where
 mem:=by simp
 obj:=fun i h st b hb=>by
  have e:b=it:=by simpa using hb
  subst e;exact⟨_,st,fun v z=>by
   have z':Data.fields _=Data.cell v:=z;cases z'⟩
 keep:=fun i h h' st k=>k it (by simp) _ st
 item:=by
  intro X hP hw hK hc i pins s σ H E I hf st hg;subst hP hw hK;obtain⟨f0,f1,f2,f3,f4,f5⟩:=hf it (by simp);have W:=Walks.range (prog:=X.prog) (w:=X.w) (I.ok.hd hc) it lo 1 n;refine W.item i s _ _ hg st fun v h' tk hv st' kk=>?_;obtain⟨t,rfl⟩:=hv;have I1:#[J,H,{ s with heap:=h',toks:=tk }]:=I.turned (fun b o hb e=>kk b o (by simpa using hb) e) f0 f1 f3 f4 f5;refine#[w,_,zfd (s:={ s with heap:=h',toks:=tk }) (n:="range_iterator") st' rfl rfl ⋯ ⟨.int (lo+i),H,I1,⟨t,?_⟩,#[y,rfl],st',fun b hb=>(hf b hb).1⟩];rw[Int.mul_one]
 done:=by
  intro X hP hw hK hc i pins s σ H E I hf st hg;subst hP hw hK;obtain⟨f0,f1,f2,f3,f4,f5⟩:=hf it (by simp);exact wpAny_pyNext_range_end (I.ok.hd hc) st (by have:n<=i:=hg;omega) fun h' eb=>⟨rfl,I.turned (t':=s.toks) (fun b o hb e=>eb b o hb e) f0 f1 f3 f4 f5⟩
 self:=fun _ _ _ _ _ st h=>wpAny_pyIter_rangeiter st h
section
variable{X:Cx}{tg:Expr}
inductive zjm(K:Frag)(R:It->Hp->Prop)(x:V)(H1:Hp):Prop where
 | mk(a)(_:x=.ref a)(_:(∃ xs,SqL K H1 a xs))(_:R (Itl K a) H1)
def Bv(K:Frag)(tl:TE):TI:=fun σ H R=>tl σ H fun x H1=>zjm K R x H1
theorem zhm{l:Expr}{tl:TE}(hl:PE X l tl):PI X tg l (Bv X.K tl):=by
 intro pins s σ H R I h;refine thn (hl pins s σ H _ I h) fun v s1 ⟨x,H1,I1,r1,q1⟩=>?_;obtain⟨a,e,⟨xs,hq⟩,q⟩:=q1;subst e;cases r1;obtain⟨its,rv,p,hz⟩:=I1.list hq;refine wpAny_pyIter_list p.isList ?_;refine⟨s1.heap.objs.size,[s1.heap.objs.size],_,_,H1,rfl,I1.kept (t':=s1.toks) fun b o e=>#[ag,_,e],zdi a _,⟨_,Heap.get?_push_size _ rfl,rfl,rfl⟩,fun b hb=>?_,q⟩;have e:b=s1.heap.objs.size:=by simpa using hb
 subst e;exact I1.fpOk (zww _) (I1.hok.fresh (zww _))
theorem Bw{pins:#[z]}{σ:St}{H:Hp}{s:Shared}{R:It->Hp->Prop}{E:Value->Shared->Prop}{lo hi:Int}{t u v:Tok}{tk:Nat}(I:#[j])(h1:-(2 ^ 62)<=lo)(h2:lo<2 ^ 62)(h3:-(2 ^ 62)<=hi)(h4:hi<2 ^ 62)
  (q:R (Itr lo (hi-lo).toNat) H):#[aa,X.A,pyIter (.ref s.heap.objs.size),PIE X pins σ tg R,E,{ s with heap:=s.heap.push { cls:=.type "range",data:=.fields #[.int lo t,.int hi u,.int 1 v] },toks:=tk }]:=by
 refine wpAny_pyIter_range (IsRange.new ..) (small_one h1 h2 h3 h4) ?_;have I1:#[J,H,{ s with heap:=s.heap.push { cls:=.type "range",data:=.fields #[.int lo t,.int hi u,.int 1 v] },toks:=tk }]:=I.kept fun b o e=>#[ag,_,e];refine⟨(s.heap.push { cls:=.type "range",data:=.fields #[.int lo t,.int hi u,.int 1 v] }).objs.size,[(s.heap.push { cls:=.type "range",data:=.fields #[.int lo t,.int hi u,.int 1 v] }).objs.size],_,_,H,rfl,
  I1.kept (t':=tk) fun b o e=>#[ag,_,e],za4 _ lo (hi-lo).toNat,?_,fun b hb=>?_,q⟩
 ·have e1:lo+((0:Nat):Int)*1=lo:=by simp
  have e2:(((hi-lo).toNat:Nat):Int)-((0:Nat):Int)=Builtin.Range.rangeSize lo hi 1:=by rw[rangeSize_one];split<;>omega
  show IsRangeIter _ _ (lo+((0:Nat):Int)*1) ((((hi-lo).toNat:Nat):Int)-((0:Nat):Int)) 1;rw[e1,e2];exact Heap.get?_push_size _ rfl
 ·have e:b=(s.heap.push { cls:=.type "range",data:=.fields #[.int lo t,.int hi u,.int 1 v] }).objs.size:=by simpa using hb
  subst e;exact I1.fpOk (zww _) (I1.hok.fresh (zww _))
def zla(ta:TA):TI:=fun σ H R=>ta σ H fun vs H1=>∃ j:Int,vs=[.int j]/\-(2 ^ 62)<=j/\j<2 ^ 62/\R (Itr 0 j.toNat) H1
def zlb(ta:TA):TI:=fun σ H R=>ta σ H fun vs H1=>∃ i j:Int,vs=#[M,i,j]/\(-(2 ^ 62)<=i/\i<2 ^ 62/\-(2 ^ 62)<=j/\j<2 ^ 62)/\R (Itr i (j-i).toNat) H1
theorem Xb{a:Expr}{ta:TA}{p pos:Pos}(hg:Gl X "range")(hm:X.mg "range"=none)(ha:PA X [a] ta)(hs:starEach [a] X.env=[(false,#[F,a])]:=by rfl):PI X tg (.Call (.Name "range" p) [a] [] pos) (zla ta):=by
 intro pins s σ H R I h;refine Call_ (O9 I hg hm boot_range (PyProof.Rows.callWith_type1 (thn (ha pos pins s σ H _ I h) fun us s1 ⟨vs,H1,I1,r1,q1⟩=>?_) hs rfl));obtain⟨j,e,q1,q2,q⟩:=q1;subst e;cases r1 with
 | cons r rr =>
   cases rr;obtain⟨t,rfl⟩:=r;exact call_range_1 (Bw I1 ⋯ ⋯ q1 q2 (by simpa using q))
theorem Lo(hg:Gl X "range")(hm:X.mg "range"=none)(ha:PA X [a,b] ta)(hs:starEach [a,b] X.env=[(false,eval a X.env),(false,eval b X.env)]:=by rfl)(hs2:starEach [b] X.env=[(false,#[F,b])]:=by rfl) :
  PI X tg (.Call (.Name "range" p) [a,b] [] pos) (zlb ta):=by
 intro pins s σ H R I h;refine Call_ (O9 I hg hm boot_range (PyProof.Rows.callWith_type1 (thn (ha pos pins s σ H _ I h) fun us s1 ⟨vs,H1,I1,r1,q1⟩=>?_) (by rw[hs,hs2]) (by rw[hs2];rfl)));obtain⟨i,j,e,⟨q1,q2,q3,q4⟩,q⟩:=q1;subst e;cases r1 with
 | cons r rr =>
   cases rr with
   | cons r' rr =>
     cases rr;obtain⟨t,rfl⟩:=r;obtain⟨t',rfl⟩:=r';exact call_range_2 (Bw I1 q1 q2 q3 q4 q)
def zhn(wi:TI)(g:TG)(tb:TS):TS:=fun D σ H=>wi σ H fun J H1=>∃ W:Nat->Nat->St->Hp->Prop,(∃ m,W 0 m σ H1)/\∀ i m σ H,W i m σ H ->
 (J.stop i H/\D.nx σ H)\/(J.go i H/\∃ N:St->Hp->Prop,(∀ σ' H',N σ' H'->∃ m',m' < m/\W (i+1) m' σ' H')/\∀ x H',J.yld i H x H'->g x σ H' fun σ2 H2=>tb { D with nx:=N,ct:=N,bk:=D.nx } σ2 H2)
def Lp(fp:#[B])(h:Heap):#[z]:=fp.filterMap fun b=>(h.get? b).map fun o=>(b,o)
theorem R8(hb:b∈fp)(e:h.get? b=some o):(b,o)∈Lp fp h:=zyu.mpr ⟨b,hb,by rw[e];rfl⟩
theorem zdj(hp:p∈Lp fp h):p.1∈fp/\h.get? p.1=some p.2:=by
 obtain⟨b,hb,e⟩:=zyu.mp hp;cases q:h.get? b with
 | none=>rw[q] at e;cases e
 | some o =>
   rw[q] at e;have e':(b,o)=p:=Option.some.inj e;subst e';exact⟨hb,q⟩
theorem Inv.pinned(I:#[j])(hf:∀ b∈fp,FpOk X pins H b)(ho:∀ b∈fp,∃ o,#[O,b]=#[d]/\∀ v,o.data≠.cell v):Inv X (pins++Lp fp s.heap) σ H s :=
 I.pins_of fun p hp=>(zwy.mp hp).elim (fun z=>I.pin p (zw8 _ z)) fun z=>by
  obtain⟨hb,e⟩:=zdj z;obtain⟨f0,f1,f2,_⟩:=hf p.1 hb;obtain⟨o,e',d⟩:=ho p.1 hb;rw[e] at e';cases e';exact⟨e,f0,f1,f2,d⟩
theorem Inv.unpinned(I:Inv X (pins++pl) σ H s):#[j]:=I.pins_of fun p hp=>I.pin p (zw8 _ (zxb _ hp))
theorem Xc(hp:PassesOwn (model X.prog X.w) X.A X.env X.xe)(hc:X.calm=true)(hi:PI X tg iter wi)(hg:PG X tg g)(hb:PSs X body tb)
  (hs:∀ x,foldedSetIterable iter X.env x=pure x:=by intro _;rfl):PS X (.For tg iter body [] pos) (zhn wi g tb):=by
 intro pins s σ H D I h;refine wpAny_For (thn (hi pins s σ H _ I h) fun v s1 h1=>thn h1 fun itv s2 h2=>?_) hs;obtain⟨it,fp,tn,J,H2,e,I2,T,st2,f2,W,⟨m0,w0⟩,turn⟩:=h2;subst e;have stat:∀ {H':Hp},(∀ b∈fp,H' b=none)->∀ b∈fp,FpOk X pins H' b:=fun hn b hb=>⟨hn b hb,(f2 b hb).2⟩
 refine codeAny_forLoop_any (fun n s'=>∃ i σ' H',Inv X pins σ' H' s'/\tn i s'.heap/\(∀ b∈fp,H' b=none)/\W i n σ' H') ?_ m0 ⟨0,σ,H2,I2,st2,fun b hb=>(f2 b hb).1,w0⟩;rintro n s3 ⟨i,σ3,H3,I3,st3,fr3,w3⟩;rcases turn i n σ3 H3 w3 with ⟨stop,qn⟩|⟨go,N,hN,step⟩
 ·refine wpAny_passesOwn hp (thn (T.done X rfl rfl rfl hc i pins s3 σ3 H3 X.xe I3 (stat fr3) st3 stop) fun r s4 ⟨hr,I4⟩=>?_);subst hr;exact wpAny_execs_nil ⟨σ3,H3,I4,qn⟩
 ·refine wpAny_passesOwn hp (thn (T.item X rfl rfl rfl hc i pins s3 σ3 H3 X.xe I3 (stat fr3) st3 go) fun r s4 ⟨u,hr,h4⟩=>?_);subst hr;refine wpAny_passesOwn hp (thn h4 fun _ s5 ⟨x,H5,I5,r5,y5,st5,fr5⟩=>?_);have I5':=I5.pinned (stat fr5) (T.obj _ _ st5);refine wpAny_passesOwn hp (thn (hg _ s5 σ3 H5 x u _ I5' r5 (step x H5 y5)) fun _ s6 ⟨σ6,H6,I6,q6⟩=>?_);refine wpAny_passesOwn hp (thn (hb _ s6 σ6 H6 _ I6 q6) fun f s7 q7=>?_);have again:∀ {σ7:St} {H7:Hp},Inv X (pins++Lp fp s5.heap) σ7 H7 s7->N σ7 H7->∃ m,m<n/\∃ i σ' H',Inv X pins σ' H' s7/\tn i s7.heap/\(∀ b∈fp,H' b=none)/\W i m σ' H':=fun {σ7 H7} I7 n7=>by
   obtain⟨m',hm,w7⟩:=hN σ7 H7 n7;refine⟨m',hm,i+1,σ7,H7,I7.unpinned,T.keep _ _ _ st5 fun b hb o e=>(I7.pin (b,o) (zw8 _ (zw8 _ (R8 hb e)))).1,fun b hb=>?_,w7⟩;obtain⟨o,e,d⟩:=T.obj _ _ st5 b hb;exact(I7.pin (b,o) (zw8 _ (zw8 _ (R8 hb e)))).2.1
  cases f with
  | next=>obtain⟨σ7,H7,I7,n7⟩:=q7;exact again I7 n7
  | cont=>obtain⟨σ7,H7,I7,n7⟩:=q7;exact again I7 n7
  | brk=>obtain⟨σ7,H7,I7,q7⟩:=q7;exact⟨σ7,H7,I7.unpinned,q7⟩
  | ret v=>obtain⟨x7,σ7,H7,I7,r7,q7⟩:=q7;exact⟨x7,σ7,H7,I7.unpinned,r7,q7⟩
end
theorem Wy{K:Frag}{a:Addr}{xs:#[a]}{g:TG}{tb:TS}{D:Q7}{σ:St}{H:Hp}(Pv:Nat->St->Hp->Prop)(h0:Pv 0 σ H)(hl:∀ i σ H,i<=xs.length->Pv i σ H->SqL K H a xs)
  (hs:∀ i x σ H,xs[i]?=some x->Pv i σ H->g x σ H fun σ2 H2=>tb { D with nx:=Pv (i+1),ct:=Pv (i+1),bk:=D.nx } σ2 H2) (hd:∀ σ H,Pv xs.length σ H->D.nx σ H) :
  ∃ W:Nat->Nat->St->Hp->Prop,(∃ m,W 0 m σ H)/\∀ i m σ H,W i m σ H ->
    ((Itl K a).stop i H/\D.nx σ H)\/((Itl K a).go i H/\∃ N:St->Hp->Prop,(∀ σ' H',N σ' H'->∃ m',m' < m/\W (i+1) m' σ' H')/\∀ x H',(Itl K a).yld i H x H'->g x σ H' fun σ2 H2=>tb { D with nx:=N,ct:=N,bk:=D.nx } σ2 H2):=by
 refine⟨fun i m σ H=>m=xs.length-i/\i<=xs.length/\Pv i σ H,⟨xs.length,by simp,zxh _,h0⟩,?_⟩;rintro i m σ H ⟨rfl,hi,p⟩;have q:=hl i σ H hi p;by_cases hlt:i<xs.length
 ·refine .inr ⟨⟨xs,xs[i],q,by simp[hlt]⟩,Pv (i+1),fun σ' H' p'=>⟨xs.length-(i+1),by omega,rfl,hlt,p'⟩,fun x H' y=>?_⟩;obtain⟨e,y⟩:=y;subst e;exact hs i x σ _ (y xs q) p
 ·have e:i=xs.length:=by omega
  subst e;exact #[T,⟨xs,q,zww _⟩,hd σ H p]
theorem Xs{lo:Int}{n:Nat}{g:TG}{tb:TS}{D:Q7}{σ:St}{H:Hp}(Pv:Nat->St->Hp->Prop)(h0:Pv 0 σ H)
  (hs:∀ i σ H,i<n->Pv i σ H->g (.int (lo+i)) σ H fun σ2 H2=>tb { D with nx:=Pv (i+1),ct:=Pv (i+1),bk:=D.nx } σ2 H2) (hd:∀ σ H,Pv n σ H->D.nx σ H) :
  ∃ W:Nat->Nat->St->Hp->Prop,(∃ m,W 0 m σ H)/\∀ i m σ H,W i m σ H ->
    ((Itr lo n).stop i H/\D.nx σ H)\/((Itr lo n).go i H/\∃ N:St->Hp->Prop,(∀ σ' H',N σ' H'->∃ m',m' < m/\W (i+1) m' σ' H')/\∀ x H',(Itr lo n).yld i H x H'->g x σ H' fun σ2 H2=>tb { D with nx:=N,ct:=N,bk:=D.nx } σ2 H2):=by
 refine⟨fun i m σ H=>m=n-i/\i<=n/\Pv i σ H,⟨n,by simp,zxh _,h0⟩,?_⟩;rintro i m σ H ⟨rfl,hi,p⟩;by_cases hlt:i<n
 ·refine .inr ⟨hlt,Pv (i+1),fun σ' H' p'=>⟨n-(i+1),by omega,rfl,hlt,p'⟩,fun x H' y=>?_⟩;obtain⟨e,y⟩:=y;subst e y;exact hs i σ _ hlt p
 ·have e:i=n:=by omega
  subst e;exact #[T,zww _,hd σ H p]
abbrev R2:=V->V->Hp->VK->Prop
def OpR(X:Cx)(f:Value->Value->Sem Value)(r:R2):Prop :=
 ∀ (pins:#[z]) (s:Shared) (σ:St) (H:Hp) (x y:V) (v u:Value) (Q:VK),#[j]->RelV x v->RelV y u->r x y H Q ->
   wpAny (model X.prog X.w) X.A (f v u) (EP X pins σ Q) X.xe s
def UnR(X:Cx)(f:Value->Sem Value)(r:V->Hp->VK->Prop):Prop :=
 ∀ (pins:#[z]) (s:Shared) (σ:St) (H:Hp) (x:V) (v:Value) (Q:VK),#[j]->RelV x v->r x H Q ->
   wpAny (model X.prog X.w) X.A (f v) (EP X pins σ Q) X.xe s
def Vx(X:Cx)(f:Value)(r:#[a]->Hp->VK->Prop):Prop :=
 ∀ (pins:#[z]) (s:Shared) (σ:St) (H:Hp) (xs:#[a]) (us:#[R]) (Q:VK),#[j]->Vals xs us->r xs H Q ->
   wpAny (model X.prog X.w) X.A (call f us) (EP X pins σ Q) X.xe s
def zmj(X:Cx)(r:V->Hp->(Bool->Hp->Prop)->Prop):Prop :=
 ∀ (pins:#[z]) (s:Shared) (σ:St) (H:Hp) (x:V) (v:Value) (Q:Bool->Hp->Prop),#[j]->RelV x v->r x H Q ->
   wpAny (model X.prog X.w) X.A (truthy v) (TP X pins σ Q) X.xe s
def tOp(r:R2)(ta tb:TE):TE:=fun σ H Q=>ta σ H fun x H1=>tb σ H1 fun y H2=>r x y H2 Q
def tUn(r:V->Hp->VK->Prop)(ta:TE):TE:=fun σ H Q=>ta σ H fun x H1=>r x H1 Q
inductive rI(C:Int->Int->Prop)(g:Int->Int->V)(x:V)(y:V)(H:Hp)(Q:VK):Prop where
 | mk(i)(j)(_:x=.int i)(_:y=.int j)(_:C i j/\Q (g i j) H)
inductive rI0(g:Int->Int->V)(x:V)(y:V)(H:Hp)(Q:VK):Prop where
 | mk(i)(j)(_:x=.int i)(_:y=.int j)(_:Q (g i j) H)
inductive rU(g:Int->V)(x:V)(H:Hp)(Q:VK):Prop where
 | mk(i)(_:x=.int i)(_:Q (g i) H)
section
variable{X:Cx}{a b c:Expr}{ta tb tc:TE}{pos:Pos}
theorem binT(ha:PE X a ta)(hb:PE X b tb){pins:#[z]}{s:Shared}{σ:St}{H:Hp}{R:V->V->Hp->Prop}(I:#[j])
  (h:ta σ H fun x H1=>tb σ H1 fun y H2=>R x y H2) {Q:Value->Shared->Prop} {f:Value->Value->Sem Value}
  (hf:∀ v u s2 x y H2,#[J,H2,s2]->RelV x v->RelV y u->R x y H2->#[aa,X.A,f v u,Q,X.xe,s2]) :
  wpAny (model X.prog X.w) X.A (eval a X.env) (fun v s₁=>#[aa,X.A,#[F,b],fun u s₂=>#[aa,X.A,f v u,Q,X.xe,s₂],X.xe,s₁]) X.xe s:=by
 refine thn (ha pins s σ H _ I h) fun v s1 ⟨x,H1,I1,r1,q1⟩=>?_;refine thn (hb pins s1 σ H1 _ I1 q1) fun u s2 ⟨y,H2,I2,r2,q2⟩=>?_;exact hf v u s2 x y H2 I2 r1 r2 q2
theorem Zs{op:Operator}{r:R2}(ho:OpR X (binaryOp op) r)(ha:PE X a ta)(hb:PE X b tb):PE X (.BinOp a op b pos) (tOp r ta tb):=by
 intro pins s σ H Q I h;exact wpAny_BinOp (binT ha hb I h fun v u s2 x y H2 I2 rx ry q=>ho pins s2 σ H2 x y v u Q I2 rx ry q)
theorem Td(ho:UnR X (unaryOp op) r)(ha:PE X a ta):PE X (.UnaryOp op a pos) (tUn r ta):=by
 intro pins s σ H Q I h;exact UnaryOp_ (thn (ha pins s σ H _ I h) fun v s1 ⟨x,H1,I1,r1,q1⟩=>ho pins s1 σ H1 x v Q I1 r1 q1)
theorem opI{f:Value->Value->Sem Value}{C:Int->Int->Prop}{g:Int->Int->Int}
  (rule:∀ (i j:Int) (t u:Tok) (s:Shared) (Q:Value->Shared->Prop) (E:Value->Shared->Prop),C i j->Q (.int (g i j) s.toks) { s with toks:=s.toks+1 }->#[aa,X.A,f (.int i t) (.int j u),Q,E,s]) :
  OpR X f (rI C fun i j=>.int (g i j)):=by
 intro pins s σ H x y v u Q I rx ry h;obtain⟨i,j,rfl,rfl,hc,q⟩:=h;obtain⟨t,rfl⟩:=rx;obtain⟨t',rfl⟩:=ry;exact rule i j t t' s _ _ hc ⟨.int (g i j),H,I.tok _,#[y,_],q⟩
theorem zlc{f:Value->Value->Sem Value}{g:Int->Int->Int}
  (rule:∀ (i j:Int) (t u:Tok) (s:Shared) (Q:Value->Shared->Prop) (E:Value->Shared->Prop),Q (.int (g i j) s.toks) { s with toks:=s.toks+1 }->#[aa,X.A,f (.int i t) (.int j u),Q,E,s]) :
  OpR X f (rI0 fun i j=>.int (g i j)):=by
 intro pins s σ H x y v u Q I rx ry h;obtain⟨i,j,rfl,rfl,q⟩:=h;obtain⟨t,rfl⟩:=rx;obtain⟨t',rfl⟩:=ry;exact rule i j t t' s _ _ ⟨.int (g i j),H,I.tok _,#[y,_],q⟩
theorem zho{f:Value->Value->Sem Value}{g:Int->Int->Bool}
  (rule:∀ (i j:Int) (t u:Tok) (s:Shared) (Q:Value->Shared->Prop) (E:Value->Shared->Prop),Q (.bool (g i j)) s->#[aa,X.A,f (.int i t) (.int j u),Q,E,s]) :
  OpR X f (rI0 fun i j=>.bl (g i j)):=by
 intro pins s σ H x y v u Q I rx ry h;obtain⟨i,j,rfl,rfl,q⟩:=h;obtain⟨t,rfl⟩:=rx;obtain⟨t',rfl⟩:=ry;exact rule i j t t' s _ _ ⟨.bl (g i j),H,I,rfl,q⟩
def CDiv(i j:Int):Prop:=0<j/\j<1073741824
def CPow(i j:Int):Prop:=0<=j/\j<=1000000/\i.natAbs<2 ^ 64
def CMul(i j:Int):Prop:=(-(2 ^ 64)<i/\i<2 ^ 64)\/(-(2 ^ 64)<j/\j<2 ^ 64)
theorem CMul.ok(h:CMul i j):IntMulOk i j:=by
 rcases h with ⟨h1,h2⟩|⟨h1,h2⟩
 ·exact .of_left (intBits_le_64 h1 h2)
 ·exact .of_right (intBits_le_64 h1 h2)
theorem Yo:OpR X (binaryOp .Add) (rI0 fun i j=>.int (i+j)):=zlc fun _ _ _ _ _ _ _ q=>add_int q
theorem S6:OpR X (binaryOp .Sub) (rI0 fun i j=>.int (i-j)):=zlc fun _ _ _ _ _ _ _ q=>sub_int q
theorem Q8:OpR X (binaryOp .Mult) (rI CMul fun i j=>.int (i*j)):=opI fun _ _ _ _ _ _ _ hc q=>mul_int q hc.ok
theorem Yt:OpR X (binaryOp .FloorDiv) (rI CDiv fun i j=>.int (i/j)):=opI fun i j _ _ _ _ _ hc q=>by
 have h1:(0:Int)<j:=hc.1;have h2:j<1073741824:=hc.2;exact floordiv_int ⋯ (by rw[Int.fdiv_eq_ediv_of_nonneg i ⋯];exact q) (.inl (PyProof.noPylong_small ⋯))
theorem Ye:OpR X (binaryOp .Mod) (rI (fun _ j=>0<j) fun i j=>.int (i%j)):=opI fun i j _ _ _ _ _ hc q=>by
 have h1:(0:Int)<j:=hc;exact mod_int' ⋯ (by rw[Int.fmod_eq_emod_of_nonneg i ⋯];exact q)
theorem Hh:OpR X (binaryOp .Pow) (rI CPow fun i j=>.int (i ^ j.toNat)):=opI fun _ _ _ _ _ _ _ hc q=>pow_int_small hc.1 hc.2.1 hc.2.2 q
theorem unI{f:Value->Sem Value}{g:Int->Int}
  (rule:∀ (i:Int) (t:Tok) (s:Shared) (Q:Value->Shared->Prop) (E:Value->Shared->Prop),Q (.int (g i) s.toks) { s with toks:=s.toks+1 }->#[aa,X.A,f (.int i t),Q,E,s]) :
  UnR X f (rU fun i=>.int (g i)):=by
 intro pins s σ H x v Q I rx h;obtain⟨i,rfl,q⟩:=h;obtain⟨t,rfl⟩:=rx;exact rule i t s _ _ ⟨.int (g i),H,I.tok _,#[y,_],q⟩
theorem Vd:UnR X (unaryOp .USub) (rU fun i=>.int (-i)):=unI fun _ _ _ _ _ q=>neg_int q
end
def zld:V->V->Bool
 | .non,.non=>true|.non,.int _=>true|.int _,.non=>true|.non,.bl _=>true|.bl _,.non=>true|.non,.str _=>true|.str _,.non=>true
 | .int _,.int _=>true|.bl _,.bl _=>true|.str _,.str _=>true|.byt _,.byt _=>true
 | .int _,.str _=>true|.str _,.int _=>true|.bl _,.str _=>true|.str _,.bl _=>true
 | _,_=>false
inductive rEq(x:V)(y:V)(H:Hp)(Q:VK):Prop where
 | mk(_:zld x y=true)(_:Q (.bl (decide (x=y))) H)
inductive rNe(x:V)(y:V)(H:Hp)(Q:VK):Prop where
 | mk(_:zld x y=true)(_:Q (.bl (!#[g,x=y])) H)
theorem zcc:#[g,V.int i=V.int j]=(i == j):=by
 rw[zyh];simp
theorem zfe:#[g,V.bl i=V.bl j]=(i == j):=by
 rw[zyh];simp
theorem zcd:#[g,V.str i=V.str j]=(i == j):=by
 rw[zyh];simp
theorem zce:#[g,V.byt i=V.byt j]=(i.toList == j.toList):=by
 rw[zyh];cases i;cases j;simp
section
variable{X:Cx}{a b c:Expr}{ta tb tc:TE}{pos:Pos}
theorem Yp(I:#[j])(q:Q (.bl k) H)(e:k=k'):EP X pins σ Q (.bool k') s:=by
 subst e;exact⟨.bl k,H,I,rfl,q⟩
theorem Y6:OpR X (compareOp .Eq) rEq:=by
 intro pins s σ H x y v u Q I rx ry h;obtain⟨hs,q⟩:=h;cases x with
 | non =>
   cases rx;cases y with
   | non=>cases ry;exact #[ae,PySem.EqNone.eq_none_none]
   | bl j=>cases ry;exact #[ae,PySem.EqNone.eq_none_bool]
   | int j=>obtain⟨t',rfl⟩:=ry;exact #[ae,PySem.EqNone.eq_none_int]
   | str j=>obtain⟨t',rfl⟩:=ry;exact #[ae,PySem.EqNone.eq_none_str]
   | _=>exact #[ar]
 | bl i =>
   cases rx;cases y with
   | non=>cases ry;exact #[ae,PySem.EqNone.eq_bool_none]
   | bl j=>cases ry;exact eq_bool (Yp I q zfe)
   | str j=>obtain⟨t',rfl⟩:=ry;exact #[ae,PySem.EqMixed.eq_bool_str]
   | _=>exact #[ar]
 | int i =>
   obtain⟨t,rfl⟩:=rx;cases y with
   | non=>cases ry;exact #[ae,PySem.EqNone.eq_int_none]
   | int j=>obtain⟨t',rfl⟩:=ry;exact eq_int (Yp I q zcc)
   | str j=>obtain⟨t',rfl⟩:=ry;exact #[ae,PySem.EqMixed.eq_int_str]
   | _=>exact #[ar]
 | str i =>
   obtain⟨t,rfl⟩:=rx;cases y with
   | non=>cases ry;exact #[ae,PySem.EqNone.eq_str_none]
   | bl j=>cases ry;exact #[ae,PySem.EqMixed.eq_str_bool]
   | int j=>obtain⟨t',rfl⟩:=ry;exact #[ae,PySem.EqMixed.eq_str_int]
   | str j=>obtain⟨t',rfl⟩:=ry;exact eq_str (Yp I q zcd)
   | _=>exact #[ar]
 | byt i =>
   obtain⟨t,rfl⟩:=rx;cases y with
   | byt j=>obtain⟨t',rfl⟩:=ry;exact PySem.W.eq_bytes (Yp I q zce)
   | _=>exact #[ar]
 | _=>cases y<;>exact #[ar]
theorem Q9:OpR X (compareOp .NotEq) rNe:=by
 intro pins s σ H x y v u Q I rx ry h;obtain⟨hs,q⟩:=h;cases x with
 | non =>
   cases rx;cases y with
   | non=>cases ry;exact #[ae,PySem.EqNone.ne_none_none]
   | bl j=>cases ry;exact #[ae,PySem.EqNone.ne_none_bool]
   | int j=>obtain⟨t',rfl⟩:=ry;exact #[ae,PySem.EqNone.ne_none_int]
   | str j=>obtain⟨t',rfl⟩:=ry;exact #[ae,PySem.EqNone.ne_none_str]
   | _=>exact #[ar]
 | bl i =>
   cases rx;cases y with
   | non=>cases ry;exact #[ae,PySem.EqNone.ne_bool_none]
   | bl j=>cases ry;exact ne_bool (Yp I q (congrArg not zfe))
   | str j=>obtain⟨t',rfl⟩:=ry;exact #[ae,PySem.EqMixed.ne_bool_str]
   | _=>exact #[ar]
 | int i =>
   obtain⟨t,rfl⟩:=rx;cases y with
   | non=>cases ry;exact #[ae,PySem.EqNone.ne_int_none]
   | int j=>obtain⟨t',rfl⟩:=ry;exact ne_int (Yp I q (congrArg not zcc))
   | str j=>obtain⟨t',rfl⟩:=ry;exact #[ae,PySem.EqMixed.ne_int_str]
   | _=>exact #[ar]
 | str i =>
   obtain⟨t,rfl⟩:=rx;cases y with
   | non=>cases ry;exact #[ae,PySem.EqNone.ne_str_none]
   | bl j=>cases ry;exact #[ae,PySem.EqMixed.ne_str_bool]
   | int j=>obtain⟨t',rfl⟩:=ry;exact #[ae,PySem.EqMixed.ne_str_int]
   | str j=>obtain⟨t',rfl⟩:=ry;exact ne_str (Yp I q (congrArg not zcd))
   | _=>exact #[ar]
 | byt i =>
   obtain⟨t,rfl⟩:=rx;cases y with
   | byt j=>obtain⟨t',rfl⟩:=ry;exact PySem.W.ne_bytes (Yp I q (congrArg not zce))
   | _=>exact #[ar]
 | _=>cases y<;>exact #[ar]
theorem Sn:OpR X (compareOp .Lt) (rI0 fun i j=>.bl (decide (i<j))):=zho fun _ _ _ _ _ _ _ q=>lt_int q
theorem zff:OpR X (compareOp .LtE) (rI0 fun i j=>.bl (decide (i<=j))):=zho fun _ _ _ _ _ _ _ q=>le_int q
theorem Ui:OpR X (compareOp .Gt) (rI0 fun i j=>.bl (decide (j<i))):=zho fun _ _ _ _ _ _ _ q=>gt_int q
theorem zfg:OpR X (compareOp .GtE) (rI0 fun i j=>.bl (decide (j<=i))):=zho fun _ _ _ _ _ _ _ q=>ge_int q
theorem Pa:OpR X (compareOp .Is) fun x y H Q=>y=.non/\Q (.bl (decide (x=.non))) H:=by
 intro pins s σ H x y v u Q I rx ry h;obtain⟨rfl,q⟩:=h;cases ry;refine is_none_gen (Yp I q ?_);cases x<;>first
  | (cases rx;rfl)
  | (obtain⟨t,rfl⟩:=rx;rfl)
theorem Tg:OpR X (compareOp .IsNot) fun x y H Q=>y=.non/\Q (.bl (!#[g,x=.non])) H:=by
 intro pins s σ H x y v u Q I rx ry h;obtain⟨rfl,q⟩:=h;cases ry;refine isnot_none_gen (Yp I q ?_);cases x<;>first
  | (cases rx;rfl)
  | (obtain⟨t,rfl⟩:=rx;rfl)
theorem Zr(b:Expr)(h:op≠.In:=by decide)(h2:op≠.NotIn:=by decide):behindInMarks op b=false:=by
 have e1:(op == CmpOp.In)=false:=by cases op<;>first|rfl|exact absurd rfl h
 have e2:(op == CmpOp.NotIn)=false:=by cases op<;>first|rfl|exact absurd rfl h2
 cases b<;>simp[behindInMarks,e1,e2]
theorem W9{op:CmpOp}{r:R2}(ho:OpR X (compareOp op) r)(ha:PE X a ta)(hb:PE X b tb)(hm:behindInMarks op b=false):PE X (.Compare a [op] [b] pos) (tOp r ta tb):=by
 intro pins s σ H Q I h;exact wpAny_Compare1 (binT ha hb I h fun v u s2 x y H2 I2 rx ry q=>ho pins s2 σ H2 x y v u Q I2 rx ry q) hm
def zle(t:TE):TT:=fun σ H Q=>t σ H fun x H'=>∃ k,x=.bl k/\Q k H'
theorem Zp(ho:OpR X (compareOp op) r)(ha:PE X a ta)(hb:PE X b tb)(hm:behindInMarks op b=false):PT X (.Compare a [op] [b] pos) (zle (tOp r ta tb)):=by
 intro pins s σ H Q I h;refine wpAny_isTrue_Compare1 (thn (ha pins s σ H _ I h) fun v s1 ⟨x,H1,I1,r1,q1⟩=>thn (hb pins s1 σ H1 _ I1 q1) fun u s2 ⟨y,H2,I2,r2,q2⟩ =>
  thn (ho pins s2 σ H2 x y v u _ I2 r1 r2 q2) fun c s3 ⟨z,H3,I3,r3,k,e,q3⟩=>?_) hm
 subst e;cases r3;exact wpAny_truthy_bool ⟨H3,I3,q3⟩
def TruV(K:Frag)(x:V)(H:Hp)(k:Bool):Prop :=
 match x with
 | .non=>k=false
 | .bl b=>k=b
 | .int i=>k=(i != 0)
 | .str y=>y.length<=sizeLine/\k=((y.length:Int) != 0)
 | .byt y=>y.size<=sizeLine/\k=((y.size:Int) != 0)
 | .ref p=>(∃ xs,SqL K H p xs/\k=!xs.isEmpty)\/(∃ xs,SqT K H p xs/\k=!xs.isEmpty)\/∃ kvs,H p=#[b,.dK,kvs]/\k=!kvs.isEmpty
 | _=>False
theorem za5(r:KV kvs vs):(!vs.isEmpty)=!kvs.isEmpty:=by
 cases r<;>rfl
theorem Hi(r:Vals xs its):(!its.toArray.isEmpty)=!xs.isEmpty:=by
 cases r<;>simp
theorem Na:(sizeLine:Nat)<2 ^ 63:=by rw[sizeLine_eq];decide
theorem zjn:zmj X (fun x H Q=>∃ k,TruV X.K x H k/\Q k H):=by
 intro pins s σ H x v Q I rx h;obtain⟨k,e,q⟩:=h;have hl:=Na;have hs:sizeLine=16777216:=sizeLine_eq;cases x with
 | non =>
   cases rx;have e':k=false:=e;subst e';exact truthy_none ⟨H,I,q⟩
 | bl b =>
   cases rx;have e':k=b:=e;subst e';exact wpAny_truthy_bool ⟨H,I,q⟩
 | int i =>
   obtain⟨t,rfl⟩:=rx;have e':k=(i != 0):=e;subst e';exact PySem.P.truthy_int ⟨H,I,q⟩
 | str y =>
   obtain⟨t,rfl⟩:=rx;obtain⟨hy,e'⟩:y.length<=sizeLine/\k=((y.length:Int) != 0):=e;subst e';exact PySem.P.truthy_str ⋯ ⟨H,I.tok _,q⟩
 | byt y =>
   obtain⟨t,rfl⟩:=rx;obtain⟨hy,e'⟩:y.size<=sizeLine/\k=((y.size:Int) != 0):=e;subst e';exact PySem.W.truthy_bytes ⋯ ⟨H,I.tok _,q⟩
 | ref p =>
   cases rx;have e':(∃ xs,SqL X.K H p xs/\k=!xs.isEmpty)\/(∃ xs,SqT X.K H p xs/\k=!xs.isEmpty)\/∃ kvs,H p=#[b,.dK,kvs]/\k=!kvs.isEmpty:=e;rcases e' with ⟨xs,hx,e'⟩|⟨xs,hx,e'⟩|⟨kvs,hx,e'⟩
   ·subst e';obtain⟨its,r,pl,hz⟩:=I.list hx;have hlen:=r.length;exact wpAny_truthy_list pl.isList (by simp only[zw1];omega) ⟨H,I.tok _,by rw[Hi r];exact q⟩
   ·subst e';obtain⟨its,r,pl,hz⟩:=I.tuple hx;have hlen:=r.length;exact truthy_tuple pl (by simp only[zw1];omega) ⟨H,I.tok _,by rw[Hi r];exact q⟩
   ·subst e';obtain⟨hz,hS,vs,r,m⟩:kvs.length<=sizeLine/\(p == sysModules)=false/\∃ vs,KV kvs vs/\s.heap.DictOf (Yr X.prog X.w) p vs:=I.hok p _ hx;have hlen:kvs.length=vs.length:=Paired.length r;exact wpAny_truthy_dict hS m ⋯ ⟨H,I.tok _,by rw[za5 r];exact q⟩
 | _=>exact(show False from e).elim
theorem zfh(ha:PE X a ta)(he:∀ whole,isTrue a X.env whole=(do let v <- whole;standAt a.pos;holding [v] (truthy v))) :
  PT X a (fun σ H Q=>ta σ H fun x H'=>∃ k,TruV X.K x H' k/\Q k H'):=by
 intro pins s σ H Q I h;exact isTrue_plain (thn (ha pins s σ H _ I h) fun v s1 ⟨x,H1,I1,r1,q1⟩=>zjn pins s1 σ H1 x v Q I1 r1 q1) (he _)
theorem Qq(r:Vals [x] us):∃ u,us=[u]/\RelV x u:=by
 cases r with
 | cons r1 r2=>cases r2;exact#[w,_,r1]
theorem zcf(r:Vals [x,y] us):∃ u w',us=[u,w']/\RelV x u/\RelV y w':=by
 cases r with
 | cons r1 r2 =>
   cases r2 with
   | cons r3 r4=>cases r4;exact⟨_,_,rfl,r1,r3⟩
theorem Oe(hc:X.calm=true):Vx X (.builtin "max") (fun xs H Q=>∃ i j,xs=#[M,i,j]/\Q (.int (if j>i then j else i)) H):=by
 intro pins s σ H xs us Q I r h;obtain⟨i,j,rfl,q⟩:=h;obtain⟨u,w',rfl,⟨t,rfl⟩,⟨t',rfl⟩⟩:=zcf r;refine max_two_ints (I.ok.hd hc) fun h' tk k=>⟨_,H,I.kept k,?_,q⟩
 by_cases hj:j>i
 ·rw[#[f,hj],#[f,hj]];exact#[y,_]
 ·rw[#[c,hj],#[c,hj]];exact#[y,_]
theorem E2(hc:X.calm=true):Vx X (.builtin "min") (fun xs H Q=>∃ i j,xs=#[M,i,j]/\Q (.int (if j<i then j else i)) H):=by
 intro pins s σ H xs us Q I r h;obtain⟨i,j,rfl,q⟩:=h;obtain⟨u,w',rfl,⟨t,rfl⟩,⟨t',rfl⟩⟩:=zcf r;refine min_two_ints (I.ok.hd hc) fun h' tk k=>⟨_,H,I.kept k,?_,q⟩
 by_cases hj:j<i
 ·rw[#[f,hj],#[f,hj]];exact#[y,_]
 ·rw[#[c,hj],#[c,hj]];exact#[y,_]
theorem Ro:Vx X (.type "int") (fun xs H Q=>(∃ i,xs=[.int i]/\Q (.int i) H)\/∃ k,xs=[.bl k]/\Q (.int (if k then 1 else 0)) H):=by
 intro pins s σ H xs us Q I r h;rcases h with ⟨i,rfl,q⟩|⟨k,rfl,q⟩
 ·obtain⟨u,rfl,t,rfl⟩:=Qq r;exact call_int_int ⟨.int i,H,I,#[y,_],q⟩
 ·obtain⟨u,rfl,r1⟩:=Qq r;cases r1;exact call_int_bool ⟨.int (if k then 1 else 0),H,I.tok _,#[y,_],q⟩
end
structure ObjM(h:Heap)(x dx C:Addr)(mA:#[U]):Prop where
 obj:h.get? x=some (PySem.W.instObj C dx)
 ns:h.Ns1 dx mA
 ne:dx≠x
theorem zdk{h:Heap}{dx:Addr}{mA:#[U]}(n:h.Ns1 dx mA):∃ od,h.get? dx=some od/\∀ name,PySem.W.lookIn name od=#[b,mA,name]:=by
 obtain⟨o,es,ep,ho,hd,hk,_,hm⟩:=n;refine⟨o,ho,fun name=>?_⟩;have e:=hm name;unfold nsFind findBy at e;rw[<- Array.find?_toList] at e;unfold PySem.W.lookIn;rw[hd];dsimp only;split
 ·rename_i y q;rw[q] at e;exact congrArg some e
 ·rename_i q;rw[q] at e;have a:es.toList.any (·.refKey)=false:=by
   rw[List.any_eq_false];intro y hy;obtain⟨z,t,hkey⟩:=hk y (Array.mem_toList_iff.mp hy);simp[DictEntry.refKey,hkey]
  have a':¬ es.toList.any (·.refKey)=true:=by rw[a];exact zw4
  rw[#[c,a']];exact congrArg some e
theorem ObjM.look(I:ObjM h x dx C mA):∃ od,PySem.W.InstAt h x (PySem.W.instObj C dx) C (some od)/\∀ name,PySem.W.lookIn name od=#[b,mA,name] :=
 let ⟨od,ho,hl⟩:=zdk I.ns
 ⟨od,⟨I.obj,rfl,rfl,ho⟩,hl⟩
section
variable{prog:Program}{w:World}{A:Around}{E:Value->Shared->Prop}{s:Shared}{K:Frag}{x dx C f:Addr}{mA:#[U]}{name:Str}{v:Value}
theorem zhp(X:K.In s.heap)(I:ObjM s.heap x dx C mA)(hg:PySem.W.plainGet K C name=true)(hh:PySem.W.hasDictIn K C=true)
  (ha:PySem.W.findIn K (.ref C) name=some none) (hv:mA name=some v) (hv':PySem.W.handedIn v=true) (h:Q v { s with toks:=s.toks+1 }) :
  wpAny (model prog w) A (getAttr (.ref x) name expr) Q E s:=by
 obtain⟨od,J,hl⟩:=I.look;exact PySem.W.get_value X J (PySem.W.plainGet_of hg).1 (PySem.W.findObj_own hh ha rfl (by rw[hl,hv])) hv' h
theorem zfi(X:K.In s.heap)(I:ObjM s.heap x dx C mA)(hg:PySem.W.plainGet K C name=true)
  (hf:PySem.W.findIn K (.ref C) name=some #[e,f]) (ht:PySem.W.isFn K (.ref f)=true) (hv:mA name=none) (h:Q (.ref f,[.ref x]) s) :
  wpAny (model prog w) A (getMethod (.ref x) name pl) Q E s:=by
 obtain⟨od,J,hl⟩:=I.look;exact PySem.W.method_fn X J (PySem.W.plainGet_of hg).1 (PySem.W.plainGet_of hg).2 hf (beq_iff_eq.mp ht) (by show (PySem.W.lookIn name od).map (·.isSome)=some false;rw[hl,hv];rfl) h
theorem zhq(X:K.In s.heap)(I:ObjM s.heap x dx C mA)
  (hs:PySem.W.findIn K (.ref C) "__setattr__"=some #[b,.builtin,"object.__setattr__"]) (hp:PySem.W.plainOver K C=true) (ht:PySem.W.takerIn K C name=some none) (hh:PySem.W.hasDictIn K C=true)
  (hw:PySem.Within mA ns) (hsz:ns.length<=sizeLine)
  (h:∀ h',ObjM h' x dx C (fun y=>if y=name then some v else mA y)->Heap.SameBut dx s.heap h'->Q () { s with heap:=h',toks:=s.toks+2 }) :
  wpAny (model prog w) A (setAttr (.ref x) name v) Q E s:=by
 obtain⟨od,J,hl⟩:=I.look;refine PySem.W.set_plain X J hs (PySem.W.osa_open (s:={ s with toks:=s.toks+1 }) (r:=none) X J hp ht fun b=>?_);obtain⟨cd,hc,hd'⟩:=PySem.W.any_some hh;have hx:s.heap.get? x=some ⟨.ref C,some dx,.plain,#[]⟩:=I.obj;refine wpAny_bind (wpAny_pure (wpAny_bind (wpAny_bind (wpAny_loadPart hx (wpAny_bind (PySem.W.Looks.here (s:={ s with toks:=s.toks+1 }) (PySem.W.looks_clsIn X hc) ?_))))));rw[hd'];refine wpAny_pure (a:=some dx) (wpAny_bind (wpAny_pure (wpAny_bind ?_)));refine wpAny_nsSet1 (s:={ s with toks:=s.toks+1 }) I.ns fun h' hn2 hs2=>?_;obtain⟨oD,esD,epD,hoD,hdD,hcD⟩:=hn2.count (PySem.Within.cons name v hw);refine wpAny_bind (wpAny_lookBehind hoD (by rw[hdD];exact pastItsLine_dict (zw6 hcD (by rw[zw9];omega))) ?_);exact wpAny_pure (h _ ⟨(hs2.2 _ (Ne.symm I.ne)).trans I.obj,hn2,I.ne⟩ hs2)
theorem zfj(X:K.In s.heap)(hm:PySem.W.makesIn K C=true)
  (hi:PySem.W.findIn K (.ref C) "__init__"=some #[e,f]) (hf:PySem.W.typeIn K (.ref f)=#[b,.type,"function"])
  (h:codeAny (model prog w) (A.under (.builtin "type.__call__" ⟨.ref C :: vs,kw⟩)) (.call (.ref f) ⟨.ref (s.heap.objs.size+1) :: vs,kw⟩) (PySem.W.InitBack (s.heap.objs.size+1) R)
   { s with heap:=(s.heap.push PySem.W.emptyDict).push (PySem.W.instObj C s.heap.objs.size) }) :
  codeAny (model prog w) A (.call (.ref C) ⟨vs,kw⟩) R s:=by
 obtain⟨hh,g,d,t,os⟩:=s;exact PySem.W.make_core (PySem.W.makes_of X hm) (PySem.W.looks_findIn X hi) (fun self=>PySem.W.bind_fn X self hf) (.inl rfl) h
end
def putF(f:Str)(v:V):#[ab]->#[ab]
 | []=>[(f,v)]
 | (g,x) :: r=>if g=f then (g,v) :: r else (g,x) :: putF f v r
theorem K0(f g:Str)(v:V):∀ fs:#[ab],(putF f v fs).lookup g=if g=f then some v else fs.lookup g
 | []=>by
   show List.lookup g [(f,v)]=_;by_cases h:g=f
   ·have hb:(g == f)=true:=beq_iff_eq.mpr h;simp only[List.lookup,hb,#[f,h]]
   ·have hb:(g == f)=false:=zxa.mpr h;simp only[List.lookup,hb,#[c,h]]
 | (k,x) :: r=>by
   have ih:=K0 f g v r;rw[show putF f v ((k,x) :: r)=(if k=f then (k,v) :: r else (k,x) :: putF f v r) from rfl];by_cases hk:k=f
   ·rw[#[f,hk]];by_cases h:g=k
    ·have hb:(g == k)=true:=beq_iff_eq.mpr h;simp only[List.lookup,hb,if_pos (h.trans hk)]
    ·have hb:(g == k)=false:=zxa.mpr h;simp only[List.lookup,hb,#[c,(fun e:g=f=>h (e.trans hk.symm))]]
   ·rw[#[c,hk]];by_cases h:g=k
    ·have hb:(g == k)=true:=beq_iff_eq.mpr h;simp only[List.lookup,hb,#[c,(fun e:g=f=>hk (h.symm.trans e))]]
    ·have hb:(g == k)=false:=zxa.mpr h;simp only[List.lookup,hb];exact ih
theorem Lq(f:Str)(v:V):∀ fs:#[ab],f∈(putF f v fs).map (·.1)/\∀ g,g∈fs.map (·.1)->g∈(putF f v fs).map (·.1)
 | []=>⟨by simp[putF],fun g h=>by simp at h⟩
 | (k,x) :: r=>by
   obtain⟨i1,i2⟩:=Lq f v r;rw[show putF f v ((k,x) :: r)=(if k=f then (k,v) :: r else (k,x) :: putF f v r) from rfl];by_cases hk:k=f
   ·rw[#[f,hk]];subst hk;exact⟨by simp,fun g h=>by simpa using h⟩
   ·rw[#[c,hk]];refine⟨?_,fun g h=>?_⟩
    ·rw[zwz];exact zw7 _ i1
    ·rw[zwz] at h ⊢;rcases zwr.mp h with e|e
     ·exact zwr.mpr (.inl e)
     ·exact zw7 _ (i2 g e)
theorem K1(f:Str)(v:V):∀ fs:#[ab],(putF f v fs).length<=fs.length+1
 | []=>by simp[putF]
 | (k,x) :: r=>by
   have ih:=K1 f v r;rw[show putF f v ((k,x) :: r)=(if k=f then (k,v) :: r else (k,x) :: putF f v r) from rfl];by_cases hk:k=f
   ·rw[#[f,hk],zw9,zw9];omega
   ·rw[#[c,hk],zw9,zw9];omega
theorem RelO.some_of(r:RelO (some v) o):∃ u,o=some u/\RelV v u:=by
 cases o with
 | none=>exact(show False from r).elim
 | some u=>exact#[w,u,r]
theorem RelO.none_of(r:RelO none o):o=none:=by
 cases o with
 | none=>rfl
 | some u=>exact(show False from r).elim
theorem zdl(r:RelV v u):PySem.W.handedIn u=true:=by
 cases v with
 | non=>cases (show u=Value.none from r);rfl
 | bl b=>cases (show u=Value.bool b from r);rfl
 | int i=>obtain⟨t,e⟩:=(show ∃ t,u=Value.int i t from r);cases e;rfl
 | str x=>obtain⟨t,e⟩:=(show ∃ t,u=Value.str x t from r);cases e;rfl
 | byt b=>obtain⟨t,e⟩:=(show ∃ t,u=Value.bytes b t from r);cases e;rfl
 | flt b=>obtain⟨t,e⟩:=(show ∃ t,u=Value.float b t from r);cases e;rfl
 | ref a=>cases (show u=Value.ref a from r);rfl
 | ty n=>cases (show u=Value.type n from r);rfl
section
variable{P:Program}{w:World}{H H':Hp}{h h':Heap}{a C dx:Addr}{fs fs':#[ab]}
theorem Io(hok:HOk P w H h)(e:H a=some (.ins C dx fs)):∃ mA,ObjM h a dx C mA/\(∀ f,RelO (fs.lookup f) (mA f))/\PySem.Within mA (fs.map (·.1))/\fs.length<=1000/\H dx=#[b,.own,a]:=by
 obtain⟨d,z,ne,ob,mA,n,r,q⟩:=(show Y9 P w H h a (.ins C dx fs) from hok a _ e);exact⟨mA,⟨ob,n,ne⟩,r,q,z,d⟩
end
structure Cls(K:Frag)(C:Addr):Prop where
 pg:PySem.W.plainGet K C Str.empty=true
 hd:PySem.W.hasDictIn K C=true
 po:PySem.W.plainOver K C=true
 sa:PySem.W.findIn K (.ref C) "__setattr__"=some #[b,.builtin,"object.__setattr__"]
theorem Cls.get{K:Frag}{C:Addr}(c:Cls K C)(f:Str):PySem.W.plainGet K C f=true:=c.pg
def X8(K:Frag)(C:Addr)(f:Str):Prop:=PySem.W.findIn K (.ref C) f=some none
theorem X8.taker{K:Frag}{C:Addr}{f:Str}(n:X8 K C f):PySem.W.takerIn K C f=some none:=by
 unfold PySem.W.takerIn;rw[show PySem.W.findIn K (.ref C) f=some none from n];rfl
structure Con(K:Frag)(C:Addr)(f:Str)(v:V)(u:Value):Prop where
 at_:PySem.W.findIn K (.ref C) f=#[b,some,u]
 rel:RelV v u
 get:PySem.W.specialIn K u "__get__"=some none
 cp:PySem.W.copiedNames.contains f=false
structure zfk(K:Frag)(C:Addr)(m:Str)(f:Addr):Prop where
 at_:PySem.W.findIn K (.ref C) m=some #[e,f]
 fn:PySem.W.isFn K (.ref f)=true
 kp:PySem.W.keepIn K (.ref f)=true
section
variable{X:Cx}{pins:#[z]}{σ:St}{H:Hp}{s:Shared}{a C dx:Addr}{fs:#[ab]}{f:Str}{v:V}{A:Around}{E:Value->Shared->Prop}
theorem za6(I:#[j])(e:H a=some (.ins C dx fs))(c:Cls X.K C)(n:X8 X.K C f)(l:fs.lookup f=some v)
  (h:∀ u s',#[J,H,s']->RelV v u->Q u s'):#[aa,A,getAttr (.ref a) f b,Q,E,s]:=by
 obtain⟨mA,O,r,_,_,_⟩:=Io I.hok e;obtain⟨u,hu,ru⟩:=RelO.some_of (v:=v) (o:=mA f) (by rw[<- l];exact r f);exact zhp I.kIn O (c.get f) c.hd n hu (zdl ru) (h u _ (I.tok _) ru)
theorem Hj(I:#[j])(e:H a=some (.ins C dx fs))(c:Cls X.K C)(k:zfk X.K C m g)(l:fs.lookup m=none)
  (h:Q (.ref g,[.ref a]) s):#[aa,A,getMethod (.ref a) m pl,Q,E,s]:=by
 obtain⟨mA,O,r,_,_,_⟩:=Io I.hok e;have hn:mA m=none:=RelO.none_of (by rw[<- l];exact r m);exact zfi I.kIn O (c.get m) k.at_ k.fn hn h
theorem za7(I:#[j])(e:H a=some (.ins C dx fs))(c:Cls X.K C)(n:X8 X.K C f)(hl:fs.length<1000)(ry:RelV y u)
  (h:∀ s',#[J,upd H a (.ins C dx (putF f y fs)),s']->Q () s'):#[aa,A,setAttr (.ref a) f u,Q,E,s]:=by
 obtain⟨mA,O,r,wi,_,ho⟩:=Io I.hok e;have hz:(fs.map (·.1)).length<=sizeLine:=by rw[zwm,sizeLine_eq];omega
 refine zhq I.kIn O c.sa c.po n.taker c.hd wi hz fun h' O' sb=>h _ ?_;have hd:∃ o,h'.get? dx=#[d]:=let ⟨o,_,_,e',_⟩:=O'.ns;⟨o,e'⟩;refine I.write (x:=a) (e:=dx) (by rw[e];exact True.intro) (.inr ho) (fun b q hb z=>(sb.2 b hb).trans z) hd ?_;refine⟨by rw[Zh O.ne];exact ho,?_,O.ne,O'.obj,_,O'.ns,fun g=>?_,fun g hg=>?_⟩
 ·have:=K1 f y fs;omega
 ·show RelO ((putF f y fs).lookup g) (if g=f then some u else mA g);rw[K0];by_cases q:g=f
  ·rw[#[f,q],#[f,q]];exact ry
  ·rw[#[c,q],#[c,q]];exact r g
 ·by_cases q:g=f
  ·rw[q];exact(Lq f y fs).1
  ·refine(Lq f y fs).2 g (wi g fun z=>hg ?_);show (if g=f then some u else mA g)=none;rw[#[c,q]];exact z
theorem Inv.made(I:#[j]):Inv X pins σ (upd (upd H s.heap.objs.size (.own (s.heap.objs.size+1))) (s.heap.objs.size+1) (.ins C s.heap.objs.size []))
  { s with heap:=(s.heap.push PySem.W.emptyDict).push (PySem.W.instObj C s.heap.objs.size) }:=by
 have e1:(s.heap.push PySem.W.emptyDict).get? s.heap.objs.size=some PySem.W.emptyDict:=Heap.get?_push_size s.heap rfl;have e2:((s.heap.push PySem.W.emptyDict).push (PySem.W.instObj C s.heap.objs.size)).get? (s.heap.objs.size+1)=some (PySem.W.instObj C s.heap.objs.size):=by
  have:=Heap.get?_push_size (s.heap.push PySem.W.emptyDict) (o:=PySem.W.instObj C s.heap.objs.size) rfl
  rwa [Heap.size_push] at this
 have e3:(s.heap.push PySem.W.emptyDict).Ns s.heap.objs.size fun _=>none:=⟨PySem.W.emptyDict,#[],_,e1,rfl,fun e he=>absurd he (by simp),fun _=>rfl⟩;have I1:=I.laid (a:=s.heap.objs.size) (o:=.own (s.heap.objs.size+1)) (h':=s.heap.push PySem.W.emptyDict) (t':=s.toks) (fun b u q=>#[ag,_,q]) (zww _) ⟨_,e1⟩;refine I1.laid (a:=s.heap.objs.size+1) (o:=.ins C s.heap.objs.size []) (t':=s.toks) (fun b u q=>#[ag,_,q]) (Nat.le_of_eq (Heap.size_push _ _)) ?_;have ne:s.heap.objs.size≠s.heap.objs.size+1:=zxd (Nat.lt_succ_self _);refine⟨by rw[Zh ne,Zd],zxh _,ne,e2,fun _=>none,(Heap.Ns1.of_empty e3).at fun o q=>#[ag,_,q],fun _=>True.intro,fun y hy=>absurd rfl hy⟩
theorem zhr(hb:attributeBase e f env (eval e env)=eval e env)
  (h:wpAny (model prog w) A (eval e env) (fun o s₁=>wpAny (model prog w) A (getAttr o f true) Q E s₁) E s):wpAny (model prog w) A (eval (.Attribute e f pos) env) Q E s :=
 Attribute_any_ h (by rw[arm_eval_Attribute,hb])
end
inductive zlf(K:Frag)(f:Str)(Q:VK)(x:V)(H1:Hp):Prop where
 | mk(a)(C)(dx)(fs)(v)(_:x=.ref a)(_:H1 a=some (.ins C dx fs))(_:Cls K C)(_:X8 K C f)(_:fs.lookup f=some v)(_:Q v H1)
def zlg(K:Frag)(ta:TE)(f:Str):TE:=fun σ H Q=>ta σ H fun x H1=>zlf K f Q x H1
inductive zlh(K:Frag)(f:Str)(D:Q7)(σ:L2.St)(y:V)(x:V)(H2:Hp):Prop where
 | mk(a)(C)(dx)(fs)(_:x=.ref a)(_:H2 a=some (.ins C dx fs))(_:Cls K C)(_:X8 K C f)(_:fs.length<1000)(_:D.nx σ (upd H2 a (.ins C dx (putF f y fs))))
def zli(K:Frag)(ta tv:TE)(f:Str):TS:=fun D σ H=>tv σ H fun y H1=>ta σ H1 fun x H2=>zlh K f D σ y x H2
section
variable{X:Cx}{o e value:Expr}{f:Str}{pos pos' tpos:Pos}{ta tv:TE}
theorem zjo(he:PE X e ta)(hb:attributeBase e f X.env #[F,e]=#[F,e]):PE X (.Attribute e f pos) (zlg X.K ta f):=by
 intro pins s σ H Q I h;refine zhr hb (thn (he pins s σ H _ I h) fun u s1 ⟨x,H1,I1,rx,a,C,dx,fs,v,ex,ea,c,n,l,q⟩=>?_);subst ex;obtain rfl:u=Value.ref a:=rx;exact za6 I1 ea c n l fun u' s2 I2 ru=>⟨v,H1,I2,ru,q⟩
theorem zjp(ha:PE X o ta)(hv:PE X value tv)(hs:swapsWith value (some (.Attribute o f pos')) pos.line X.env=pure false):PS X (.Assign [.Attribute o f pos'] value pos) (zli X.K ta tv f):=by
 intro pins s σ H D I h;refine plainObj_wpAny_Assign_Attribute (thn (hv pins s σ H _ I h) fun u s1 ⟨y,H1,I1,ry,q⟩=>thn (ha pins s1 σ H1 _ I1 q) fun ov s2 ⟨x,H2,I2,rx,a,C,dx,fs,ex,ea,c,n,l,q2⟩=>?_) hs;subst ex;obtain rfl:ov=Value.ref a:=rx;exact za7 I2 ea c n l ry fun s3 I3=>⟨σ,_,I3,q2⟩
end
section
variable{X:Cx}{pins:#[z]}{σ:St}{H:Hp}{s:Shared}{A:Around}{E:Value->Shared->Prop}{Q:Value->Shared->Prop}{c:Value}{b:Bool}
inductive Lr(K:Frag)(H:Hp):V->Value->Prop where
 | non:Lr K H .non (.type "NoneType")
 | bl (x:Bool):Lr K H (.bl x) (.type "bool")
 | int (i:Int):Lr K H (.int i) (.type "int")
 | str (x:Str):Lr K H (.str x) (.type "str")
 | flt (x:UInt64):Lr K H (.flt x) (.type "float")
 | lst {a:Addr} {xs:#[a]} (e:#[A,H,a,xs]):Lr K H (.ref a) (.type "list")
 | frz {a:Addr} {o:Obj} {xs:#[a]} (e:H a=some (.frz o (.lst xs))):Lr K H (.ref a) (.type "list")
 | tup {a:Addr} {xs:#[a]} (e:H a=#[b,.tup,xs]):Lr K H (.ref a) (.type "tuple")
 | dK {a:Addr} {kvs:#[W]} (e:H a=#[b,.dK,kvs]):Lr K H (.ref a) (.type "dict")
 | dT {a:Addr} {kvs:List (List Key×V)} (e:H a=#[b,.dT,kvs]):Lr K H (.ref a) (.type "dict")
 | ins {a C dx:Addr} {fs:#[ab]} (e:H a=some (.ins C dx fs)) (cl:Cls K C) (ha:PySem.W.findIn K (.ref C) "__class__"=some #[b,.builtin,"object.__class__"])
   (hn:PySem.W.specialIn K (.builtin "object.__class__") "__get__"=some #[b,.builtin,"getset_descriptor.__get__"]) (htk:PySem.W.takesIn K (.builtin "object.__class__")=some true)
   (hm:PySem.W.mroIn K C (.type "object")=some true):Lr K H (.ref a) (.ref C)
theorem zdm(I:#[j])(rx:RelV x u)(ty:Lr X.K H x t)(e:PySem.W.kitOne X.K t c=some b)(h:∀ tk,Q (.bool b) { s with toks:=tk }) :
  wpAny (model X.prog X.w) A (call (.builtin "isinstance") [u,c]) Q E s:=by
 cases ty with
 | non=>cases (show u=Value.none from rx);exact #[au,PySem.W.kitx_none,True.intro,e,h]
 | bl y=>cases (show u=Value.bool y from rx);exact #[au,PySem.W.kitx_bool,True.intro,e,h]
 | int i=>obtain⟨t,q⟩:=(show ∃ t,u=Value.int i t from rx);cases q;exact #[au,PySem.W.kitx_int,True.intro,e,h]
 | str y=>obtain⟨t,q⟩:=(show ∃ t,u=Value.str y t from rx);cases q;exact #[au,PySem.W.kitx_str,True.intro,e,h]
 | flt y=>obtain⟨t,q⟩:=(show ∃ t,u=Value.float y t from rx);cases q;exact #[au,PySem.W.kitx_float,True.intro,e,h]
 | @lst a xs ea =>
   cases (show u=Value.ref a from rx);obtain⟨_,_,n,_,h1⟩:=(show Y9 X.prog X.w H s.heap a (.lst xs) from I.hok a _ ea);exact #[au,PySem.W.kitx_list,⟨_,h1,rfl⟩,e,h]
 | @frz a ob xs ea =>
   cases (show u=Value.ref a from rx);obtain⟨_,_,_,n,_,h1⟩:=(show Y9 X.prog X.w H s.heap a (.frz ob (.lst xs)) from I.hok a _ ea);exact #[au,PySem.W.kitx_list,⟨_,h1,rfl⟩,e,h]
 | @tup a xs ea =>
   cases (show u=Value.ref a from rx);obtain⟨_,_,_,p⟩:=(show Y9 X.prog X.w H s.heap a (.tup xs) from I.hok a _ ea);obtain⟨o,h1,h2,_⟩:=p;exact #[au,PySem.W.kitx_tuple,⟨o,h1,h2⟩,e,h]
 | @dK a kvs ea =>
   cases (show u=Value.ref a from rx);obtain⟨_,_,vs,_,p⟩:=(show Y9 X.prog X.w H s.heap a (.dK kvs) from I.hok a _ ea);obtain⟨o,es,ep,h1,h2,_⟩:=p;exact #[au,PySem.W.kitx_dict,⟨o,h1,h2.1⟩,e,h]
 | @dT a kvs ea =>
   cases (show u=Value.ref a from rx);obtain⟨_,_,xs,_,o,es,ep,h1,h2,_⟩:=(show Y9 X.prog X.w H s.heap a (.dT kvs) from I.hok a _ ea);exact #[au,PySem.W.kitx_dict,⟨o,h1,h2.1⟩,e,h]
 | @ins a C dx fs ea cl ha hn htk hm =>
   cases (show u=Value.ref a from rx);obtain⟨mA,O,_⟩:=Io I.hok ea;obtain⟨od,J,_⟩:=O.look;exact #[au,PySem.W.kitx_own (cl.get _) cl.hd ha hn htk hm,J,e,h]
end
structure Vj(k:Nat)(A:Around):Prop where
 hd:A.handled=none
 dp:A.depth+3*k+5<recursionLimit
 un:A.units+16*k+200<cLine
theorem Vj.mono(r:Vj k A)(h:j<=k):Vj j A:=⟨r.hd,by have:=r.dp;omega,by have:=r.un;omega⟩
theorem Vj.deeper(r:Vj (k+1) A)(env:Env):Vj k (A.deeper env) :=
 ⟨r.hd,by have:=r.dp;show A.depth+1+3*k+5<_;omega,by have:=r.un;show A.units+3+16*k+200<_;omega⟩
theorem za8{A:Around}{C:Addr}{us:#[R]}{kw:List (Str×Value)}:(A.under (.builtin "type.__call__" ⟨.ref C :: us,kw⟩)).depth=A.depth+1:=by
 first|rfl|simp[Around.under,Code.weight,Code.isCreation,Code.isGuard,Code.isCaller,Code.frames,Code.isFrame,guardIds]
theorem za9{A:Around}{C:Addr}{us:#[R]}{kw:List (Str×Value)}:(A.under (.builtin "type.__call__" ⟨.ref C :: us,kw⟩)).units=A.units+1:=by
 first|rfl|simp[Around.under,Code.cUnits,Code.frames,Code.isFrame]
theorem Vj.make(r:Vj (k+1) A)(C:Addr)(us:#[R])(kw:List (Str×Value)):Vj k (A.under (.builtin "type.__call__" ⟨.ref C :: us,kw⟩)) :=
 ⟨r.hd,by have:=r.dp;rw[za8];omega,by have:=r.un;rw[za9];omega⟩
theorem Vj.depth(r:Vj k A):A.depth<recursionLimit:=by have:=r.dp;omega
theorem Vj.units(r:Vj k A):A.units+64<cLine:=by have:=r.un;omega
def tNil:TA:=fun _ H Q=>Q [] H
def Te(ta:TE)(tr:TA):TA:=fun σ H Q=>ta σ H fun x H1=>tr σ H1 fun xs H2=>Q (x :: xs) H2
section
variable{X:Cx}{e:Expr}{es:List Expr}{te:TE}{t:TA}{pos:Pos}
theorem Zc:PA X [] tNil:=fun _ _ _ _ H Q I h=>Calls.spliced_nil ⟨[],H,I,.nil,h⟩
theorem Za(ha:PE X e te)(hr:PA X es t)(hs:starEach (e :: es) X.env=(false,#[F,e]) :: starEach es X.env:=by rfl):PA X (e :: es) (Te te t):=by
 intro pos pins s σ H Q I h;rw[hs];show wpAny _ _ (spliced ((false,eval e X.env) :: backTo pos (starEach es X.env))) _ _ s;refine Calls.spliced_cons (thn (ha pins s σ H _ I h) fun u s1 ⟨x,H1,I1,r1,q1⟩=>?_);exact thn (hr pos pins s1 σ H1 _ I1 q1) fun us s2 ⟨xs,H2,I2,r2,q2⟩=>⟨x :: xs,H2,I2,.cons r1 r2,q2⟩
inductive zlj(Q:VK)(xs:#[a])(H1:Hp):Prop where
 | mk(_:xs.length<=sizeLine)(_:∀ p,H1 p=none->Q (.ref p) (upd H1 p (.tup xs)))
def zmk(t:TA):TE:=fun σ H Q=>t σ H fun xs H1=>zlj Q xs H1
inductive zlk(Q:VK)(xs:#[a])(H1:Hp):Prop where
 | mk(_:xs.length<=sizeLine)(_:∀ p,H1 p=none->Q (.ref p) (upd H1 p (.lst xs)))
def tLst(t:TA):TE:=fun σ H Q=>t σ H fun xs H1=>zlk Q xs H1
theorem Z9{x1}(h:PA X es t):PE X (.Tuple es x1 pos) (zmk t):=by
 intro pins s σ H Q I hq;refine wpAny_Tuple_spliced (thn (h pos pins s σ H _ I hq) fun us s1 ⟨xs,H1,I1,r,z,q⟩=>⟨by rw[<- r.length];exact z,?_⟩);have hf:H1 s1.heap.objs.size=none:=I1.hok.fresh (zww _);refine⟨.ref s1.heap.objs.size,upd H1 s1.heap.objs.size (.tup xs),I1.laid (t':=s1.toks) (fun b u e=>#[ag,_,e]) (zww _) ?_,rfl,q _ hf⟩;exact⟨z,us,r,⟨_,Heap.get?_push_size _ rfl,rfl,_,rfl⟩⟩
theorem Z2(h:PA X es t):PE X (.List es pos) (tLst t):=by
 intro pins s σ H Q I hq;refine wpAny_List_spliced (thn (h pos pins s σ H _ I hq) fun us s1 ⟨xs,H1,I1,r,z,q⟩=>⟨by rw[<- r.length];exact z,?_⟩);have hf:H1 s1.heap.objs.size=none:=I1.hok.fresh (zww _);refine⟨.ref s1.heap.objs.size,upd H1 s1.heap.objs.size (.lst xs),I1.laid (t':=s1.toks) (fun b u e=>#[ag,_,e]) (zww _) ?_,rfl,q _ hf⟩;exact⟨z,us,0,r,Heap.get?_push_size _ rfl⟩
end
abbrev Sp:=#[a]->Hp->VK->XK->Prop
abbrev CXT:=List Env->Hp->Shared->XK->Value->Shared->Prop
structure zba(P:Program)(w:World)(K:Frag)(mg:#[U])(base:Heap)(A:Around)(outer:List Env)(s:Shared)(H:Hp):Prop where
 frames:A.frames=some outer
 mod:Mod K mg base
 bs:∀ b o,base.get? b=#[d]->#[O,b]=#[d]/\H b=none
 bsz:base.objs.size<=s.heap.objs.size
 funs:s.heap.FunFrames base outer
 frf:∀ b∈frs outer,H b=none
 hok:HOk P w H s.heap
 bare:AllBare s.gens
def CE(outer:List Env)(P:Program)(w:World)(H:Hp)(s:Shared)(Q:VK)(u:Value)(s':Shared):Prop :=
 ∃ v H',s'.os=s.os/\AllBare s'.gens/\Un (frs outer) [] H H' s.heap s'.heap/\HOk P w H' s'.heap/\RelV v u/\Q v H'
def CR(CX:CXT)(outer:List Env)(P:Program)(w:World)(H:Hp)(s:Shared)(Q:VK)(E:XK)(r:Result)(s':Shared):Prop :=
 match r with
 | .ok (.ret u)=>CE outer P w H s Q u s'
 | .ok _=>False
 | .error e=>CX outer H s E e s'
structure FnOk(P:Program)(w:World)(K:Frag)(mg:#[U])(base:Heap)(CX:CXT)(k:Nat)(f:Addr)(fd:FuncData)(ps:#[D])(sp:Sp):Prop where
 len:∀ vs H Q E,sp vs H Q E->vs.length=ps.length
 run:∀ (A:Around) (outer:List Env) (s:Shared) (H:Hp) (args:Args) (us:#[R]) (vs:#[a]) (Q:VK) (E:XK),Vj k A->zba P w K mg base A outer s H->BindsTo s fd args (ps.zip us)->Vals vs us->sp vs H Q E ->
  codeAny (model P w) A (.call (.ref f) args) (CR CX outer P w H s Q E) s
theorem zba.make{P:Program}{w:World}{K:Frag}{mg:#[U]}{base:Heap}{A:Around}{outer:List Env}{s:Shared}{H:Hp}(e:zba P w K mg base A outer s H)(C:Addr)(us:#[R])(kw:List (Str×Value)) :
  zba P w K mg base (A.under (.builtin "type.__call__" ⟨.ref C :: us,kw⟩)) outer s H:=⟨by first|exact e.frames|(simpa [Around.under,Code.envs,Code.isFrame,pushEnvs] using e.frames),e.mod,e.bs,e.bsz,e.funs,e.frf,e.hok,e.bare⟩
section
variable{X:Cx}{pins:#[z]}{σ:St}{H:Hp}{s s':Shared}
theorem Inv.env0(I:#[j]):zba X.prog X.w X.K X.mg X.base X.A X.stack s H :=
 ⟨I.ok.frames,I.ok.mod,I.bs,zw6 I.ok.bsz I.sz,I.stack,I.stkFree,I.hok,I.bare⟩
theorem Inv.after(I:#[j])(h:CE X.stack X.prog X.w H s Q u s'):EP X pins σ Q u s':=by
 obtain⟨v,H',os,bare,un,hok,r,q⟩:=h;obtain⟨hh,g,d,t,os'⟩:=s';obtain rfl:os'=s.os:=os;exact⟨v,H',I.call (h':=hh) (g':=g) (d':=d) (t':=t) (ch:=[]) un hok bare fun b z=>absurd z (by simp),r,q⟩
end
def zcg(sp:Sp)(dvs:#[a])(E:XK)(t:TA):TE:=fun σ H Q=>t σ H fun vs H1=>sp (vs++dvs) H1 Q E
inductive zjq(C:Addr)(m:Str)(sp:Sp)(dvs:#[a])(E:XK)(t:TA)(σ:L2.St)(Q:VK)(x:V)(H1:Hp):Prop where
 | mk(a)(dx)(fs)(_:x=.ref a)(_:H1 a=some (.ins C dx fs))(_:fs.lookup m=none)(_:t σ H1 fun vs H2=>sp (x :: (vs++dvs)) H2 Q E)
def Bx(C:Addr)(m:Str)(sp:Sp)(dvs:#[a])(E:XK)(ta:TE)(t:TA):TE:=fun σ H Q=>ta σ H fun x H1=>zjq C m sp dvs E t σ Q x H1
def zch(C:Addr)(sp:Sp)(dvs:#[a])(E:XK)(t:TA):TE:=fun σ H Q=>t σ H fun vs H1=>∀ x dx,H1 x=none->H1 dx=none->dx≠x ->
 sp (.ref x :: (vs++dvs)) (upd (upd H1 dx (.own x)) x (.ins C dx [])) (fun v H2=>v=.non/\Q (.ref x) H2) E
def Rp(K:Frag)(fd:FuncData)(ps:#[D])(ds:#[R]):Prop :=
 ∀ (s:Shared) (us:#[R]),K.In s.heap->(us++ds).length=ps.length->BindsTo s fd ⟨us,[]⟩ (ps.zip (us++ds))
theorem Rp.all{K:Frag}{fd:FuncData}{ps:#[D]}(h:∀ us:#[R],us.length=ps.length->bindArgs fd ⟨us,[]⟩=pure (ps.zip us)):Rp K fd ps []:=fun s us _ hl=>by
 rw[zyv] at hl ⊢;exact .of_eq (h us hl)
def Ve(CX:CXT)(X:Cx)(E:XK):Prop:=∀ (pins:List (Addr×Obj)) (σ:St) (H:Hp) (s:Shared) (e:Value) (s':Shared),#[j]->CX X.stack H s E e s'->X.xe e s'
section
variable{X:Cx}{CX:CXT}{k:Nat}{f C:Addr}{fd:FuncData}{ps:#[D]}{sp:Sp}{dvs:#[a]}{ds:#[R]}{E:XK}{x m:Str}{p pos apos:Pos}{e o:Expr}{es:List Expr}{ta:TE}{t:TA}
theorem zbb(F:FnOk X.prog X.w X.K X.mg X.base CX k f fd ps sp)(hr:Vj k X.A)(hb:Rp X.K fd ps ds)(hd:Vals dvs ds)(hx:Ve CX X E)
  (I:#[j]) (r:Vals vs us) (h:sp (vs++dvs) H Q E):#[aa,X.A,call (.ref f) us,EP X pins σ Q,X.xe,s]:=by
 have r2:Vals (vs++dvs) (us++ds):=r.append hd;have hl:(us++ds).length=ps.length:=by rw[<- r2.length];exact F.len _ _ _ _ h
 refine wpAny_call (codeAny_mono (F.run X.A X.stack s H ⟨us,[]⟩ (us++ds) (vs++dvs) Q E hr I.env0 (hb s us I.kIn hl) r2 h) fun r s' hq=>?_);cases r with
 | error e=>exact hx pins σ H s e s' I hq
 | ok fl =>
   cases fl with
   | ret u=>exact I.after hq
   | next=>exact False.elim hq
   | brk=>exact False.elim hq
   | cont=>exact False.elim hq
theorem zhs(F:FnOk X.prog X.w X.K X.mg X.base CX k f fd ps sp)(hr:Vj k X.A)(hg:Gl X x)(hm:X.mg x=#[b,.ref,f])(hk:PySem.W.keepIn X.K (.ref f)=true)(hb:Rp X.K fd ps ds)(hd:Vals dvs ds)(hx:Ve CX X E)
  (ha:PA X (e :: es) t) (hdb:(x == ("__debug__":Str))=false:=by decide) (he:starEach (e :: es) X.env=(false,#[F,e]) :: starEach es X.env:=by rfl) (hpl:#[ax]=false:=by rfl) :
  PE X (.Call (.Name x p) (e :: es) [] pos) (zcg sp dvs E t):=by
 intro pins s σ H Q I h;refine wpAny_Call_Name_kw (Od I hg hm ?_ hdb);refine PySem.W.callWith_K (h₀:=X.base) I.ok.mod.kin hk (thn (ha pos pins s σ H _ I h) fun us s1 ⟨vs,H1,I1,r,q⟩=>⟨I1.kIn,?_⟩) he hpl;exact zbb F hr hb hd hx I1 r q
theorem zht(he:PE X o ta)(c:Cls X.K C)(hm:zfk X.K C m f)(F:FnOk X.prog X.w X.K X.mg X.base CX k f fd ps sp)(hr:Vj k X.A)(hb:Rp X.K fd ps ds)(hd:Vals dvs ds)(hx:Ve CX X E)(ha:PA X (e :: es) t)
  (hst:starEach (e :: es) X.env=(false,#[F,e]) :: starEach es X.env:=by rfl) (hpl:#[ax]=false:=by rfl)
  (ht:#[F,.Call (.Attribute o m apos) (e :: es) [] pos]=(do
   let ov <- #[F,o]
   standAt apos.atName
   let (f,first) <- holding [ov] (getMethod ov m pl)
   callWith pos f first (backTo pos (starEach (e :: es) X.env)) (backToKw pos (keywordEach [] X.env))):=by rfl) :
  PE X (.Call (.Attribute o m apos) (e :: es) [] pos) (Bx C m sp dvs E ta t):=by
 intro pins s σ H Q I h;refine PySem.W.methodCall_KW (pl:=pl) (thn (he pins s σ H _ I h) fun u s1 ⟨x,H1,I1,rx,a,dx,fs,ex,ea,l,q⟩=>?_) ht;subst ex;obtain rfl:u=Value.ref a:=rx;refine Hj I1 ea c hm l ?_;refine PySem.W.callWith_K (first:=[.ref a]) (h₀:=X.base) I.ok.mod.kin hm.kp (thn (ha pos pins s1 σ H1 _ I1 q) fun us s2 ⟨vs,H2,I2,r,q2⟩=>⟨I2.kIn,?_⟩) hst hpl;exact zbb (us:=.ref a :: us) (vs:=.ref a :: vs) F hr hb hd hx I2 (.cons rfl r) q2
theorem zfl(he:PE X o ta)(c:Cls X.K C)(hm:zfk X.K C m f)(F:FnOk X.prog X.w X.K X.mg X.base CX k f fd ps sp)(hr:Vj k X.A)(hb:Rp X.K fd ps ds)(hd:Vals dvs ds)(hx:Ve CX X E)
  (ht:#[F,.Call (.Attribute o m apos) [] [] pos]=(do
   let ov <- #[F,o]
   standAt apos.atName
   let (f,first) <- holding [ov] (getMethod ov m pl)
   callWith pos f first (backTo pos (starEach [] X.env)) (backToKw pos (keywordEach [] X.env))):=by rfl) :
  PE X (.Call (.Attribute o m apos) [] [] pos) (Bx C m sp dvs E ta tNil):=by
 intro pins s σ H Q I h;refine PySem.W.methodCall_KW (pl:=pl) (thn (he pins s σ H _ I h) fun u s1 ⟨x,H1,I1,rx,a,dx,fs,ex,ea,l,q⟩=>?_) ht;subst ex;obtain rfl:u=Value.ref a:=rx;refine Hj I1 ea c hm l ?_;exact PySem.W.callWith_K0 (first:=[.ref a]) I1.kIn hm.kp (zbb (us:=[.ref a]) (vs:=[.ref a]) F hr hb hd hx I1 (.cons rfl .nil) q)
structure Mk(K:Frag)(C f:Addr):Prop where
 makes:PySem.W.makesIn K C=true
 init:PySem.W.findIn K (.ref C) "__init__"=some #[e,f]
 fn:PySem.W.isFn K (.ref f)=true
 kp:PySem.W.keepIn K (.ref C)=true
theorem By(M:Mk X.K C f)(F:FnOk X.prog X.w X.K X.mg X.base CX k f fd ps sp)(hr:Vj (k+1) X.A)(hb:Rp X.K fd ps ds)(hd:Vals dvs ds)
  (hx:Ve CX X E) (I:#[j]) (r:Vals vs us)
  (h:∀ x dx,H x=none->H dx=none->dx≠x->sp (.ref x :: (vs++dvs)) (upd (upd H dx (.own x)) x (.ins C dx [])) (fun v H2=>v=.non/\Q (.ref x) H2) E) :
  wpAny (model X.prog X.w) X.A (call (.ref C) us) (EP X pins σ Q) X.xe s:=by
 have hq:=h (s.heap.objs.size+1) s.heap.objs.size (I.hok.fresh (Nat.le_succ _)) (I.hok.fresh (zww _)) (zxd (Nat.lt_succ_self _));have I2:=Inv.made (C:=C) I;have r2:Vals (V.ref (s.heap.objs.size+1) :: (vs++dvs)) (Value.ref (s.heap.objs.size+1) :: (us++ds)):=.cons rfl (r.append hd);have hl:(Value.ref (s.heap.objs.size+1) :: us++ds).length=ps.length:=by
  have e:=r2.length;rw[F.len _ _ _ _ hq] at e;exact e.symm
 refine wpAny_call (zfj (f:=f) I.kIn M.makes M.init (beq_iff_eq.mp M.fn) (codeAny_mono (F.run _ X.stack _ _ ⟨Value.ref (s.heap.objs.size+1) :: us,[]⟩ (Value.ref (s.heap.objs.size+1) :: (us++ds)) _ _ E (hr.make C us [])
  (I2.env0.make C us []) (hb _ (Value.ref (s.heap.objs.size+1) :: us) I2.kIn hl) r2 hq) fun r s' hq'=>?_))
 cases r with
 | error e=>exact hx pins σ _ _ e s' I2 hq'
 | ok fl =>
   cases fl with
   | ret u =>
     obtain⟨v,H',I3,rv,ev,q3⟩:=I2.after hq';subst ev;exact⟨rv,⟨V.ref (s.heap.objs.size+1),H',I3,rfl,q3⟩⟩
   | next=>exact False.elim hq'
   | brk=>exact False.elim hq'
   | cont=>exact False.elim hq'
theorem zhu(M:Mk X.K C f)(F:FnOk X.prog X.w X.K X.mg X.base CX k f fd ps sp)(hr:Vj (k+1) X.A)(hg:Gl X x)(hm:X.mg x=#[b,.ref,C])(hb:Rp X.K fd ps ds)(hd:Vals dvs ds)(hx:Ve CX X E)
  (ha:PA X (e :: es) t) (hdb:(x == ("__debug__":Str))=false:=by decide) (he:starEach (e :: es) X.env=(false,#[F,e]) :: starEach es X.env:=by rfl) (hpl:#[ax]=false:=by rfl) :
  PE X (.Call (.Name x p) (e :: es) [] pos) (zch C sp dvs E t):=by
 intro pins s σ H Q I h;refine wpAny_Call_Name_kw (Od I hg hm ?_ hdb);refine PySem.W.callWith_K (h₀:=X.base) I.ok.mod.kin M.kp (thn (ha pos pins s σ H _ I h) fun us s1 ⟨vs,H1,I1,r,q⟩=>⟨I1.kIn,?_⟩) he hpl;exact By M F hr hb hd hx I1 r q
theorem zfm(M:Mk X.K C f)(F:FnOk X.prog X.w X.K X.mg X.base CX k f fd ps sp)(hr:Vj (k+1) X.A)(hg:Gl X x)(hm:X.mg x=#[b,.ref,C])(hb:Rp X.K fd ps ds)(hd:Vals dvs ds)(hx:Ve CX X E)
  (hdb:(x == ("__debug__":Str))=false:=by decide):PE X (.Call (.Name x p) [] [] pos) (zch C sp dvs E tNil):=by
 intro pins s σ H Q I h;refine wpAny_Call_Name_kw (Od I hg hm ?_ hdb);exact PySem.W.callWith_K0 I.kIn M.kp (By (us:=[]) M F hr hb hd hx I .nil h)
end
section
variable{X:Cx}{CX:CXT}{k:Nat}{f C:Addr}{fd:FuncData}{ps ks:#[D]}{sp:Sp}{E:XK}{x m:Str}{p pos apos kpos:Pos}{e o:Expr}{es:List Expr}{kws:List Keyword}{te ta:TE}{t tk:TA}{nm:Option Str}
structure zml(K:Frag)(fd:FuncData)(ps ks:#[D])(g:#[R]->#[R]->#[R])(gV:#[a]->#[a]->#[a]):Prop where
 to:∀ (s:Shared) (us ws:List Value),K.In s.heap->(g us ws).length=ps.length->BindsTo s fd ⟨us,ks.zip ws⟩ (ps.zip (g us ws))
 rel:∀ {vs:List V} {us:List Value} {zs:List V} {ws:List Value},Vals vs us->Vals zs ws->Vals (gV vs zs) (g us ws)
variable{g:#[R]->#[R]->#[R]}{gV:#[a]->#[a]->#[a]}
end
structure Zo(N P:#[D])(sc:Scope):Prop where
 kind:sc.kind=.function
 co:sc.isCoroutine=false
 gen:sc.isGenerator=false
 nd:N.Nodup
 pre:N.take P.length=P
 par:∀ x∈P,sc.names.lookup x=some .local\/sc.names.lookup x=some .cell
 nofree:∀ y∈sc.names,y.2≠.free
theorem E3{kindOf:Str->Option NameKind}{x:Str}:∀ {binds:List (Str×Value)} {m:Str->Option Value},(∀ v,(x,v)∉binds)->bindL kindOf binds m x=m x
 | [],_,_=>rfl
 | (n,v) :: r,m,h=>by
   unfold bindL;rw[E3 fun w hw=>h w (zw7 _ hw)];split
   ·have:x≠n:=by rintro rfl;exact h v zxi
    simp[this]
   ·rfl
theorem E4{kindOf:Str->Option NameKind}{x:Str}:∀ {binds:List (Str×Value)} {m:Str->Option Value},(∀ v,(x,v)∉binds)->bindC kindOf binds m x=m x
 | [],_,_=>rfl
 | (n,v) :: r,m,h=>by
   unfold bindC;rw[E4 fun w hw=>h w (zw7 _ hw)];split
   ·rfl
   ·have:x≠n:=by rintro rfl;exact h v zxi
    simp[this]
theorem E5{kindOf:Str->Option NameKind}{x:Str}{v:Value}:∀ {P:#[D]} {vs:#[R]} {i:Nat} {m:#[U]},P.Nodup->P[i]?=some x->vs[i]?=some v->kindOf x=some .local ->
  bindL kindOf (P.zip vs) m x=some v
 | [],_,_,_,_,h,_,_=>by simp at h
 | _ :: _,[],_,_,_,_,h,_=>by simp at h
 | p :: P,w :: vs,0,m,nd,h1,h2,hk=>by
   simp at h1 h2;subst h1;subst h2;show bindL kindOf ((p,w) :: P.zip vs) m p=_;unfold bindL;rw[E3 fun v hv=>(zxe.mp nd).1 (List.of_mem_zip hv).1,#[f,hk]];simp
 | p :: P,w :: vs,i+1,m,nd,h1,h2,hk=>by
   show bindL kindOf ((p,w) :: P.zip vs) m x=_;unfold bindL;exact E5 (i:=i) (zxe.mp nd).2 (by simpa using h1) (by simpa using h2) hk
theorem E6{kindOf:Str->Option NameKind}{x:Str}{v:Value}:∀ {P:#[D]} {vs:#[R]} {i:Nat} {m:#[U]},P.Nodup->P[i]?=some x->vs[i]?=some v->kindOf x≠some .local ->
  bindC kindOf (P.zip vs) m x=some v
 | [],_,_,_,_,h,_,_=>by simp at h
 | _ :: _,[],_,_,_,_,h,_=>by simp at h
 | p :: P,w :: vs,0,m,nd,h1,h2,hk=>by
   simp at h1 h2;subst h1;subst h2;show bindC kindOf ((p,w) :: P.zip vs) m p=_;unfold bindC;rw[E4 fun v hv=>(zxe.mp nd).1 (List.of_mem_zip hv).1,#[c,hk]];simp
 | p :: P,w :: vs,i+1,m,nd,h1,h2,hk=>by
   show bindC kindOf ((p,w) :: P.zip vs) m x=_;unfold bindC;exact E6 (i:=i) (zxe.mp nd).2 (by simpa using h1) (by simpa using h2) hk
def K2(N:#[D])(vs:#[a]):St:=vs.map some++List.replicate (N.length-vs.length) none
def cxOf(CX:CXT)(P:Program)(w:World)(K:Frag)(mg:#[U])(base:Heap)(N:#[D])(qual:Str)(scope:Scope)(f:Addr)(cd:Value)(A:Around)(outer:List Env)(s:Shared)(H:Hp)(E:XK):Cx where
 prog:=P
 w:=w
 K:=K
 mg:=mg
 base:=base
 A:=A.deeper (envOfC qual scope s.heap.objs.size f cd)
 N:=N
 s₀:=s
 H₀:=H
 env:=envOfC qual scope s.heap.objs.size f cd
 outer:=outer
 stack:=envOfC qual scope s.heap.objs.size f cd :: outer
 ex:=[]
 calm:=true
 fn:=fun _=>true
 pn:=[]
 xe:=fun e s'=>wpAny (model P w) (A.deeper (envOfC qual scope s.heap.objs.size f cd)) (leaving (envOfC qual scope s.heap.objs.size f cd) e) (fun _ s''=>CX outer H s E e s'') (fun e' s''=>CX outer H s E e' s'') s'
theorem Bz{sc:Scope}{n:Nat}{x:Str}(h:sc.names.lookup x=some .cell):∃ c,(cellsFrom n sc.names []).lookup x=some c:=by
 have q:=PySem.W.cellsFrom_some sc.names n [] (.inl h);exact zx4.mp q
theorem zdn{CX:CXT}{P:Program}{w:World}{K:Frag}{mg:#[U]}{base:Heap}{N ps:#[D]}{qual:Str}{scope:Scope}{f:Addr}{cd:Value}{A:Around}{outer:List Env}{s s1:Shared}{H:Hp}{E:XK}{us:#[R]}{vs:#[a]}
  (S:Zo N ps scope) (hd:A.handled=none) (e0:zba P w K mg base A outer s H) (hl:vs.length=ps.length) (r:Vals vs us)
  (x:InCallC s s.heap.objs.size (bindL (envOfC qual scope s.heap.objs.size f cd).kindOf (ps.zip us) fun _=>none) (cellsFrom (s.heap.objs.size+1) scope.names []) (bindC (envOfC qual scope s.heap.objs.size f cd).kindOf (ps.zip us) fun _=>none) s1) :
  Inv (cxOf CX P w K mg base N qual scope f cd A outer s H E) [] (K2 N vs) H s1:=by
 have hpl:ps.length<=N.length:=by have:=congrArg List.length S.pre;rw[zx6] at this;omega
 obtain⟨h1,tk,rfl,hk⟩:=x.done;have noA:∀ b:Addr,b∉(cxOf CX P w K mg base N qual scope f cd A outer s H E).ex:=fun b z=>absurd (show b∈([]:List Addr) from z) (by simp);refine⟨⟨e0.mod,S.kind,rfl,rfl,zww _,fun y z c h1 h2=>?_,fun y hy=>?_,fun y c _ h=>?_,fun _=>hd,Around.frames_deeper e0.frames,.inr ⟨rfl,rfl⟩,fun b z=>absurd z (noA b),e0.bs,e0.bsz,fun b _ _=>noA b,fun b z=>absurd z (noA b),e0.funs,e0.frf⟩,
  rfl,e0.bare,Un.kept hk,⟨_,x.toInCall.ns,fun i y v h1 h2 h3=>?_⟩,fun y c h=>⟨_,x.cell y c h⟩,e0.hok.fresh (zww _),fun y c h=>?_,fun p hp=>absurd (show p∈([]:List (Addr×Obj)) from hp) (by simp),e0.hok.kept hk,?_⟩
 ·exact name_of_addr x.apart (PySem.mem_of_lookup h1) (PySem.mem_of_lookup h2)
 ·have hy:scope.names.lookup y=some .cell\/scope.names.lookup y=some .free:=hy;rcases hy with hy|hy
  ·exact Bz hy
  ·exact absurd rfl (S.nofree _ (PySem.mem_of_lookup hy))
 ·exact Nat.le_of_lt (x.above y c (PySem.mem_of_lookup h))
 ·have h2:=h2.resolve_right (Wk _);have hi:i<vs.length:=by
   unfold K2 at h2;by_cases hi:i<vs.length
   ·exact hi
   ·rw[zxj (by simpa using hi)] at h2;rw[List.getElem?_replicate] at h2;split at h2<;>cases h2
  have ha:vs[i]?=some v:=by
   unfold K2 at h2;rw[zxl (by simpa using hi),zwu] at h2;cases e:vs[i]? with
   | none=>rw[e] at h2;cases h2
   | some a=>rw[e] at h2;cases h2;rfl
  obtain⟨u,hu,rv⟩:=r.get ha;have hp:ps[i]?=some y:=by
   rw[<- S.pre,List.getElem?_take_of_lt ⋯];exact h1
  have ndP:ps.Nodup:=by rw[<- S.pre];exact S.nd.sublist (List.take_sublist _ _)
  refine⟨u,rv,?_⟩;rcases S.par y (zw0 hp) with k|k
  ·exact #[T,k,E5 ndP hp hu k]
  ·obtain⟨c,e⟩:=Bz (n:=s.heap.objs.size+1) k;refine .inr ⟨.inl k,c,e,?_⟩;have q:=x.cell y c e;rw[E6 ndP hp hu (by show scope.names.lookup y≠_;rw[k];decide)] at q;exact q
 ·exact e0.hok.fresh (Nat.le_of_lt (x.above y c (PySem.mem_of_lookup h)))
 ·unfold K2;show _=N.length;rw[zwp,zwm,List.length_replicate];omega
theorem zll{CX:CXT}{P:Program}{w:World}{K:Frag}{mg:#[U]}{base:Heap}{k:Nat}{f:Addr}{name qual:Str}{params:Arguments}{body:List Stmt}{scope:Scope}{dV kV doc pm cdv ct oc:Value}{an od:Option Addr}
  {osl:Array (Option Value)} {N ps:#[D]} {sp:Sp} (lk:K.lookup f=some ⟨oc,od,.func (PySem.W.fnOf name qual params body scope dV kV doc pm an cdv ct),osl⟩) (hcd:PySem.W.codeIn K cdv qual=true) (S:Zo N ps scope)
  (len:∀ vs H Q E,sp vs H Q E->vs.length=ps.length)
  (hbody:∀ (A:Around) (outer:List Env) (s:Shared) (H:Hp) (vs:#[a]) (Q:VK) (E:XK),Vj k (A.deeper (envOfC qual scope s.heap.objs.size f cdv))->sp vs H Q E ->
   ∃ t,PSs (cxOf CX P w K mg base N qual scope f cdv A outer s H E) body t/\t { nx:=fun _ H'=>Q .non H',rt:=Q } (K2 N vs) H) :
  FnOk P w K mg base CX (k+1) f (PySem.W.fnOf name qual params body scope dV kV doc pm an cdv ct) ps sp:=by
 refine⟨len,fun A outer s H args us vs Q E hr e0 hb r hsp=>?_⟩;have hl:=len _ _ _ _ hsp;have KX:K.In s.heap:=e0.mod.kin.keeps fun b o e=>(e0.bs b o e).1;have lim:s.heap.NoLimit:=e0.mod.nolimit.keeps fun b o e=>(e0.bs b o e).1;have hkind:∀ y∈ps.zip us,scope.names.lookup y.1=some .local\/(scope.names.lookup y.1=some .cell/\((cellsFrom (s.heap.objs.size+1) scope.names []).lookup y.1).isSome=true):=fun ⟨n,v⟩ hy=>by
  rcases S.par n (List.of_mem_zip hy).1 with q|q
  ·exact .inl q
  ·exact .inr ⟨q,PySem.W.cellsFrom_some _ _ _ (.inl q)⟩
 refine codeAny_call_function hr.depth (KX _ _ lk) rfl S.co S.gen rfl (PySem.W.codeRec_of KX hcd) (hb _ _ _ _ ?_);refine wpAny_newFunctionEnv_cells S.kind hkind fun env he s1 x=>?_;subst he;refine⟨lim.keeps x.toInCall.keep,codeAny_func ?_⟩;obtain⟨t,ht,hq⟩:=hbody A outer s H vs Q E (hr.deeper _) hsp;have I:Inv (cxOf CX P w K mg base N qual scope f cdv A outer s H E) [] (K2 N vs) H s1:=zdn S hr.hd e0 hl r x;refine wpAny_mono (ht [] s1 (K2 N vs) H _ I hq) (fun fl s' hs=>?_) fun e s' hs=>hs;have fin:∀ {σ':St} {H':Hp} {v:V} {u:Value},Inv (cxOf CX P w K mg base N qual scope f cdv A outer s H E) [] σ' H' s'->RelV v u->Q v H'->CE outer P w H s Q u s' :=
  fun {σ' H' v u} J rv q=>⟨v,H',J.os,J.bare,J.base,J.hok,rv,q⟩
 cases fl with
 | ret u =>
   obtain⟨v,σ',H',J,rv,q⟩:=hs;exact fin J rv q
 | next =>
   obtain⟨σ',H',J,q⟩:=hs;exact fin (v:=V.non) (u:=Value.none) J rfl q
 | brk =>
   obtain⟨_,_,_,q⟩:=hs;exact False.elim q
 | cont =>
   obtain⟨_,_,_,q⟩:=hs;exact False.elim q
section
variable{X:Cx}{x:Str}{p pos:Pos}{e:Expr}{es:List Expr}{t:TA}{id T:String}{r:#[a]->Hp->VK->Prop}
def tCB(r:#[a]->Hp->VK->Prop)(t:TA):TE:=fun σ H Q=>t σ H fun vs H1=>r vs H1 Q
theorem Zm(hc:Vx X (.builtin id) r)(hg:Gl X x)(hm:X.mg x=none)(hv:bootBuiltins x=#[b,.builtin,id])(ha:PA X (e :: es) t)(hn:x≠"__name__":=by decide)(hdb:(x == ("__debug__":Str))=false:=by decide)
  (he:starEach (e :: es) X.env=(false,#[F,e]) :: starEach es X.env:=by rfl) (hpl:#[ax]=false:=by rfl):PE X (.Call (.Name x p) (e :: es) [] pos) (tCB r t):=by
 intro pins s σ H Q I h;refine wpAny_Call_Name_kw (O9 I hg hm hv ?_ hn hdb);exact PyProof.Rows.callWith_builtin1 (thn (ha pos pins s σ H _ I h) fun us s1 ⟨vs,H1,I1,r1,q1⟩=>hc pins s1 σ H1 vs us Q I1 r1 q1) he hpl
theorem Ys(hc:Vx X (.type T) r)(hg:Gl X x)(hm:X.mg x=none)(hv:bootBuiltins x=#[b,.type,T])(ha:PA X (e :: es) t)(hn:x≠"__name__":=by decide)(hdb:(x == ("__debug__":Str))=false:=by decide)
  (he:starEach (e :: es) X.env=(false,#[F,e]) :: starEach es X.env:=by rfl) (hpl:#[ax]=false:=by rfl):PE X (.Call (.Name x p) (e :: es) [] pos) (tCB r t):=by
 intro pins s σ H Q I h;refine wpAny_Call_Name_kw (O9 I hg hm hv ?_ hn hdb);exact PyProof.Rows.callWith_type1 (thn (ha pos pins s σ H _ I h) fun us s1 ⟨vs,H1,I1,r1,q1⟩=>hc pins s1 σ H1 vs us Q I1 r1 q1) he hpl
end
section
variable{κ:Type}[DecidableEq κ]
def valV(kvs:List (κ×V))(k:κ):Option V:=(kvs.find? fun kv=>decide (kv.1=k)).map (·.2)
def putK(kvs:List (κ×V))(k:κ)(v:V):List (κ×V) :=
 if (kvs.any fun kv=>decide (kv.1=k))=true then kvs.map (fun kv=>if kv.1=k then (kv.1,v) else kv) else kvs++[(k,v)]
def We(kvs:List (κ×V))(k:κ):List (κ×V):=kvs.filter fun kv=>#[g,kv.1≠k]
theorem zfn:valV ([]:List (κ×V)) k=none:=rfl
theorem Xp{p:κ×V}{r:List (κ×V)}{k:κ}(e:p.1=k):valV (p :: r) k=some p.2:=by simp[valV,zyi,e]
theorem Xh{p:κ×V}{r:List (κ×V)}{k:κ}(e:¬ p.1=k):valV (p :: r) k=valV r k:=by simp[valV,zyi,e]
theorem Rq(k:κ):∀ kvs:List (κ×V),(kvs.any fun kv=>#[g,kv.1=k])=(valV kvs k).isSome
 | []=>rfl
 | p :: r=>by
   rw[zyk];by_cases e:p.1=k
   ·simp only[Xp e,zws e,Bool.true_or,Option.isSome_some]
   ·rw[Xh e,zwx e,Bool.false_or];exact Rq k r
theorem B0(k j:κ)(y:V):∀ kvs:List (κ×V),valV (kvs.map fun kv=>if kv.1=k then (kv.1,y) else kv) j=(valV kvs j).map fun x=>if j=k then y else x
 | []=>rfl
 | p :: r=>by
   have ih:=B0 k j y r;rw[zwz];by_cases h:p.1=k
   ·rw[#[f,h]];by_cases e:p.1=j
    ·rw[Xp (p:=(p.1,y)) e,Xp e,zxu,if_pos (e.symm.trans h)]
    ·rw[Xh (p:=(p.1,y)) e,Xh e,ih]
   ·rw[#[c,h]];by_cases e:p.1=j
    ·rw[Xp (p:=p) e,Xp e,zxu,#[c,fun z=>h (e.trans z)]]
    ·rw[Xh (p:=p) e,Xh e,ih]
theorem E7(k j:κ)(y:V):∀ kvs:List (κ×V),valV kvs k=none->valV (kvs++[(k,y)]) j=if j=k then some y else valV kvs j
 | [],_=>by
   by_cases e:k=j
   ·rw[#[f,e.symm]];exact Xp (p:=(k,y)) e
   ·rw[#[c,fun z=>e z.symm]];exact Xh (p:=(k,y)) e
 | p :: r,hn=>by
   rw[List.cons_append];have hk:¬ p.1=k:=fun z=>by rw[Xp z] at hn;cases hn
   rw[Xh hk] at hn;have ih:=E7 k j y r hn;by_cases e:p.1=j
   ·rw[Xp e,Xp e,#[c,fun z=>hk (e.trans z)]]
   ·rw[Xh e,Xh e,ih]
theorem Vz(kvs:List (κ×V))(k j:κ)(y:V):valV (putK kvs k y) j=if j=k then some y else valV kvs j:=by
 unfold putK;by_cases a:(kvs.any fun kv=>#[g,kv.1=k])=true
 ·rw[#[f,a],B0];rw[Rq] at a;by_cases e:j=k
  ·obtain⟨x,hx⟩:=zx4.mp a;rw[#[f,e],e,hx,zxu,#[f,rfl]]
  ·rw[#[c,e]];cases valV kvs j with
   | none=>rfl
   | some x=>rw[zxu,#[c,e]]
 ·rw[#[c,a]];refine E7 k j y kvs ?_;rw[Rq] at a;cases q:valV kvs k with
  | none=>rfl
  | some x=>rw[q] at a;exact(a rfl).elim
theorem Xr(kvs:List (κ×V))(k:κ)(v:V):(putK kvs k v).length<=kvs.length+1:=by
 unfold putK;split
 ·rw[zwm];omega
 ·rw[zwp,zw9,zyw];omega
theorem zfo{kvs:List (κ×V)}{k:κ}(v:V)(h:valV kvs k=none):putK kvs k v=kvs++[(k,v)]:=by
 unfold putK;rw[Rq,h];exact if_neg ⋯
theorem RelO.isSome_eq(r:RelO o u):o.isSome=u.isSome:=by
 cases o with
 | none=>cases u with
   | none=>rfl
   | some _=>exact(show False from r).elim
 | some _=>cases u with
   | none=>exact(show False from r).elim
   | some _=>rfl
theorem RelO.getD(r:RelO o u)(rd:RelV d d'):RelV (o.getD d) (u.getD d'):=by
 cases o with
 | none=>cases u with
   | none=>exact rd
   | some _=>exact(show False from r).elim
 | some _=>cases u with
   | none=>exact(show False from r).elim
   | some _=>exact r
theorem KV.val{kvs:List (κ×V)}{vs:List (κ×Value)}(r:KV kvs vs)(k:κ):RelO (valV kvs k) (valueAt vs k):=by
 unfold KV at r
 induction r with
 | nil=>exact True.intro
 | @cons p q ps qs h t ih =>
   obtain⟨h1,h2⟩:=h;by_cases e:p.1=k
   ·have e':q.1=k:=h1.symm.trans e;have b:valueAt (q :: qs) k=some q.2:=by simp[valueAt,zyi,e']
    rw[Xp e,b];exact h2
   ·have e':¬ q.1=k:=fun z=>e (h1.trans z);have b:valueAt (q :: qs) k=valueAt qs k:=by simp[valueAt,zyi,e']
    rw[Xh e,b];exact ih
theorem KV.any(r:KV kvs vs)(k:κ):(kvs.any fun kv=>#[g,kv.1=k])=vs.any fun kv=>#[g,kv.1=k]:=by
 unfold KV at r
 induction r with
 | nil=>rfl
 | cons h t ih=>rw[zyk,zyk,ih,h.1]
theorem KV.repl(r:KV kvs vs)(k:κ)(ry:RelV y u) :
  KV (kvs.map fun kv=>if kv.1=k then (kv.1,y) else kv) (vs.map fun kv=>if kv.1=k then (kv.1,u) else kv):=by
 unfold KV at r ⊢
 induction r with
 | nil=>exact .nil
 | @cons p q ps qs h t ih =>
   rw[zwz,zwz];refine .cons ?_ ih;obtain⟨h1,h2⟩:=h;by_cases e:p.1=k
   ·rw[#[f,e],if_pos (h1.symm.trans e)];exact⟨h1,ry⟩
   ·rw[#[c,e],#[c,fun z=>e (h1.trans z)]];exact⟨h1,h2⟩
theorem KV.put(r:KV kvs vs)(k:κ)(ry:RelV y u):KV (putK kvs k y) (stored vs k u):=by
 unfold putK stored;rw[r.any k];by_cases e:(vs.any fun kv=>#[g,kv.1=k])=true
 ·rw[#[f,e],#[f,e]];exact r.repl k ry
 ·rw[#[c,e],#[c,e]];exact Paired.snoc r ⟨rfl,ry⟩
theorem KV.drop(r:KV kvs vs)(k:κ):KV (We kvs k) (without vs k):=by
 unfold KV at r ⊢;unfold We without
 induction r with
 | nil=>exact .nil
 | @cons p q ps qs h t ih =>
   obtain⟨h1,h2⟩:=h;rw[zx7,zx7];by_cases e:p.1=k
   ·have a:¬ #[g,p.1≠k]=true:=by simp[e]
    have b:¬ #[g,q.1≠k]=true:=by simp[h1.symm.trans e]
    rw[#[c,a],#[c,b]];exact ih
   ·have e':¬ q.1=k:=fun z=>e (h1.trans z);have a:#[g,p.1≠k]=true:=by simp[e]
    have b:#[g,q.1≠k]=true:=by simp[e']
    rw[#[f,a],#[f,b]];exact .cons ⟨h1,h2⟩ ih
theorem KV.keys{kvs:List (κ×V)}{vs:List (κ×Value)}(r:KV kvs vs):kvs.map (·.1)=vs.map (·.1):=by
 unfold KV at r
 induction r with
 | nil=>rfl
 | cons h t ih=>rw[zwz,zwz,ih,h.1]
theorem KV.length(r:KV kvs vs):kvs.length=vs.length:=Paired.length r
theorem B1(kvs:List (κ×V))(k:κ):(We kvs k).length<=kvs.length:=zxw _ _
end
theorem K3(r:RelV (kV k) u):(Yr P w).is k u=true:=by
 cases k with
 | inl i=>obtain⟨t,e⟩:=(show ∃ t,u=Value.int i t from r);subst e;exact Bp P w i t
 | inr x=>obtain⟨t,e⟩:=(show ∃ t,u=Value.str x t from r);subst e;exact Bq P w x t
theorem E8:∀ {ks:List Key} {us:List Value},Vals (ks.map kV) us->ItemsAre (Yr P w) ks us
 | [],_,r=>by rw[zyt] at r;cases r;exact .nil
 | k :: ks,_,r=>by
   rw[zwz] at r;cases r with
   | cons h t=>exact .cons (K3 h) (E8 t)
abbrev KT(H:Hp):List (List Key×V)->List (List Key×Addr×Value)->Prop:=Paired fun p q=>p.1=q.1/\H q.2.1=some (.tup (p.1.map kV))/\RelV p.2 q.2.2
theorem KT.val{H:Hp}{kvs:List (List Key×V)}{xs:List (List Key×Addr×Value)}(r:KT H kvs xs)(k:List Key):RelO (valV kvs k) ((atKey xs k).map (·.2)):=by
 induction r with
 | nil=>exact True.intro
 | @cons p q ps qs h t ih =>
   obtain⟨h1,_,h2⟩:=h;by_cases e:p.1=k
   ·have e':q.1=k:=h1.symm.trans e;have b:atKey (q :: qs) k=some q.2:=by simp[atKey,zyi,e']
    rw[Xp e,b];exact h2
   ·have e':¬ q.1=k:=fun z=>e (h1.trans z);have b:atKey (q :: qs) k=atKey qs k:=by simp[atKey,zyi,e']
    rw[Xh e,b];exact ih
theorem KT.repl(r:KT H kvs xs)(k:List Key)(ry:RelV y u) :
  KT H (kvs.map fun kv=>if kv.1=k then (kv.1,y) else kv) (xs.map (putAt k u)):=by
 induction r with
 | nil=>exact .nil
 | @cons p q ps qs h t ih =>
   rw[zwz,zwz];refine .cons ?_ ih;obtain⟨h1,h2,h3⟩:=h;unfold putAt;by_cases e:p.1=k
   ·rw[#[f,e],if_pos (h1.symm.trans e)];exact⟨h1,h2,ry⟩
   ·rw[#[c,e],#[c,fun z=>e (h1.trans z)]];exact⟨h1,h2,h3⟩
theorem KT.put(r:KT H kvs xs)(k:List Key)(hb:H b=some (.tup (k.map kV)))(ry:RelV y u) :
  KT H (putK kvs k y) (storedH xs k b u):=by
 have e:(kvs.any fun kv=>#[g,kv.1=k])=(atKey xs k).isSome:=by
  rw[Rq,(r.val k).isSome_eq,Option.isSome_map]
 unfold putK storedH;rw[e];by_cases q:(atKey xs k).isSome=true
 ·rw[#[f,q],#[f,q]];exact r.repl k ry
 ·rw[#[c,q],#[c,q]];exact Paired.snoc r ⟨rfl,hb,ry⟩
theorem KT.keeps(r:KT H kvs xs)(ht:∀ b ys,H b=#[E,ys]->H' b=#[E,ys]):KT H' kvs xs :=
 Paired.mapP r fun _ _ z=>⟨z.1,ht _ _ z.2.1,z.2.2⟩
section
variable{P:Program}{w:World}{H:Hp}{h:Heap}{a:Addr}
theorem zi2(ok:HOk P w H h)(e:Rd H a u):Y9 P w H h a u:=e.ok ok
theorem Pb(ok:HOk P w H h)(e:Rd H a (.dK kvs)):kvs.length<=sizeLine/\(a == sysModules)=false/\∃ vs,KV kvs vs/\h.DictOf (Yr P w) a vs :=
 show Y9 P w H h a (.dK kvs) from zi2 ok e
theorem zfp(ok:HOk P w H h)(e:H a=#[b,.dK,kvs]):kvs.length<=sizeLine/\(a == sysModules)=false/\∃ vs,KV kvs vs/\h.DictOf (Yr P w) a vs:=Pb ok (.inl e)
theorem Nb(ok:HOk P w H h)(e:H a=some (.tup (ks.map kV))):(tupleKind (Yr P w)).is h ks a:=by
 obtain⟨_,its,r,o,h1,h2,n,h3⟩:=(show Y9 P w H h a (.tup (ks.map kV)) from ok a _ e);exact⟨o,its.toArray,n,h1,h2,h3,by simpa using E8 r⟩
theorem Hk(ok:HOk P w H h)(e:Rd H a (.dT kvs)):kvs.length<=sizeLine/\(a == sysModules)=false /\
  ∃ xs,KT H kvs xs/\h.DictOfH (tupleKind (Yr P w)) a xs:=by
 obtain⟨z,y,xs,r,o,es,ep,h1,h2,h3,h4,h5⟩:=(show Y9 P w H h a (.dT kvs) from zi2 ok e);refine⟨z,y,xs,r,o,es,ep,h1,h2,h3,h4,fun x hx=>?_,h5⟩;have all:∀ {l:List (List Key×V)} {m:List (List Key×Addr×Value)},KT H l m->∀ x∈m,(tupleKind (Yr P w)).is h x.1 x.2.1:=by
  intro l m q
  induction q with
  | nil=>intro x hx;exact nomatch hx
  | @cons p q ps qs hq t ih =>
    intro x hx;rcases zwr.mp hx with e|hx
    ·subst e;exact Nb ok (by rw[<- hq.1];exact hq.2.1)
    ·exact ih x hx
 exact all r x hx
theorem zi3(ok:HOk P w H h)(e:H a=#[b,.dT,kvs]):kvs.length<=sizeLine/\(a == sysModules)=false /\
  ∃ xs,KT H kvs xs/\h.DictOfH (tupleKind (Yr P w)) a xs:=Hk ok (.inl e)
end
def DGet(H:Hp)(a:Addr)(y:V)(r:Option V):Prop :=
 (∃ kvs k,Rd H a (.dK kvs)/\y=kV k/\r=valV kvs k)\/∃ kvs k b,Rd H a (.dT kvs)/\y=.ref b/\H b=some (.tup (k.map kV))/\r=valV kvs k
def DPut(H:Hp)(a:Addr)(y v:V)(H':Hp):Prop :=
 (∃ kvs k,H a=#[b,.dK,kvs]/\y=kV k/\kvs.length<sizeLine/\H'=upd H a (.dK (putK kvs k v))) \/
 ∃ kvs k b,H a=#[b,.dT,kvs]/\y=.ref b/\H b=some (.tup (k.map kV))/\kvs.length<sizeLine/\H'=upd H a (.dT (putK kvs k v))
theorem DGet.k{H:Hp}{a:Addr}{kvs:#[W]}{k:Key}(e:H a=#[b,.dK,kvs]):DGet H a (kV k) (valV kvs k):=.inl ⟨kvs,k,.inl e,rfl,rfl⟩
theorem DGet.t{H:Hp}{a b:Addr}{kvs:List (List Key×V)}{k:List Key}(e:H a=#[b,.dT,kvs])(eb:H b=some (.tup (k.map kV))):DGet H a (.ref b) (valV kvs k):=.inr ⟨kvs,k,b,.inl e,rfl,eb,rfl⟩
theorem DPut.k{H:Hp}{a:Addr}{kvs:#[W]}{k:Key}{v:V}(e:H a=#[b,.dK,kvs])(hl:kvs.length<sizeLine):DPut H a (kV k) v (upd H a (.dK (putK kvs k v))):=.inl ⟨kvs,k,e,rfl,hl,rfl⟩
theorem DPut.t{H:Hp}{a b:Addr}{kvs:List (List Key×V)}{k:List Key}{v:V}(e:H a=#[b,.dT,kvs])(eb:H b=some (.tup (k.map kV)))(hl:kvs.length<sizeLine) :
  DPut H a (.ref b) v (upd H a (.dT (putK kvs k v))):=.inr ⟨kvs,k,b,e,rfl,eb,hl,rfl⟩
section
variable{X:Cx}{pins:#[z]}{σ:St}{H:Hp}{s:Shared}{a:Addr}{y v:V}{u r:Value}{o:Option V}{A:Around}{E:Value->Shared->Prop}
theorem Inv.big(I:#[j]):sysModules<s.heap.objs.size:=by
 have h:mainGlobals<s.heap.objs.size:=(I.mod.glob.keeps I.bk).lt;exact Nat.lt_trans ⋯ h
theorem zdo(hu:A.units+1<cLine)(I:#[j])(g:DGet H a y (some v))(ry:RelV y u)(h:∀ w' s',#[J,H,s']->RelV v w'->Q w' s') :
  wpAny (model X.prog X.w) A (getItem (.ref a) u) Q E s:=by
 rcases g with ⟨kvs,k,e,ey,l⟩|⟨kvs,k,b,e,ey,eb,l⟩
 ·subst ey;obtain⟨z,hd,vs,rel,dd⟩:=Pb I.hok e;obtain⟨w',hw,rw'⟩:=RelO.some_of (v:=v) (o:=valueAt vs k) (by rw[l];exact rel.val k);exact wpAny_getItem_of (K3 ry) dd.mapOf hw (h w' _ (I.tok _) rw')
 ·subst ey;cases (show u=Value.ref b from ry);obtain⟨z,hd,xs,rel,dd⟩:=Hk I.hok e;obtain⟨w',hw,rw'⟩:=RelO.some_of (v:=v) (o:=(atKey xs k).map (·.2)) (by rw[l];exact rel.val k);obtain⟨p,hp,hp2⟩:=zyg.mp hw;refine wpAny_getItem_heap (tupleKind_room_in1 hu) (Nb I.hok eb) dd hp ?_;rw[hp2];exact h w' _ (I.tok _) rw'
theorem zmm(hu:A.units+1<cLine)(I:#[j])(g:DGet H a y o)(ry:RelV y u)(h:∀ s',#[J,H,s']->Q (.bool o.isSome) s') :
  wpAny (model X.prog X.w) A (compareOp .In u (.ref a)) Q E s:=by
 rcases g with ⟨kvs,k,e,ey,l⟩|⟨kvs,k,b,e,ey,eb,l⟩
 ·subst ey;obtain⟨z,hd,vs,rel,dd⟩:=Pb I.hok e;refine wpAny_in_of (K3 ry) hd dd.mapOf ?_;rw[<- (rel.val k).isSome_eq,<- l];exact h _ (I.tok _)
 ·subst ey;cases (show u=Value.ref b from ry);obtain⟨z,hd,xs,rel,dd⟩:=Hk I.hok e;refine wpAny_in_heap (tupleKind_room_in1 hu) (Nb I.hok eb) hd dd ?_;have q:=(rel.val k).isSome_eq;rw[Option.isSome_map] at q;rw[<- q,<- l];exact h _ (I.tok _)
theorem zhv(hu:A.units+1<cLine)(I:#[j])(g:DGet H a y o)(ry:RelV y u)(h:∀ s',#[J,H,s']->Q (.bool (!o.isSome)) s') :
  wpAny (model X.prog X.w) A (compareOp .NotIn u (.ref a)) Q E s:=by
 rcases g with ⟨kvs,k,e,ey,l⟩|⟨kvs,k,b,e,ey,eb,l⟩
 ·subst ey;obtain⟨z,hd,vs,rel,dd⟩:=Pb I.hok e;refine wpAny_notIn_of (K3 ry) hd dd.mapOf ?_;rw[<- (rel.val k).isSome_eq,<- l];exact h _ (I.tok _)
 ·subst ey;cases (show u=Value.ref b from ry);obtain⟨z,hd,xs,rel,dd⟩:=Hk I.hok e;refine wpAny_notIn_heap (tupleKind_room_in1 hu) (Nb I.hok eb) hd dd ?_;have q:=(rel.val k).isSome_eq;rw[Option.isSome_map] at q;rw[<- q,<- l];exact h _ (I.tok _)
theorem Mh(I:#[j])(mu:Mut (H a))(hs:Heap.SameBut a s.heap h')(he:∃ q,h'.get? a=some q)(new:Y9 X.prog X.w (upd H a ob) h' a ob) :
  Inv X pins σ (upd H a ob) { s with heap:=h',toks:=t' } :=
 I.write (x:=a) (e:=a) mu (.inl rfl) (fun b q hb z=>(hs.2 b hb).trans z) he new
theorem Cg(z:kvs.length<=sizeLine)(hd:(a == sysModules)=false)(rel:KV kvs vs)(dd:h'.DictOf (Yr P w) a vs) :
  Y9 P w H' h' a (.dK kvs):=⟨z,hd,vs,rel,dd⟩
theorem zdp(hu:A.units+1<cLine)(I:#[j])(g:DPut H a y v H')(ry:RelV y u)(rv:RelV v r)(h:∀ s',#[J,H',s']->Q () s') :
  wpAny (model X.prog X.w) A (setItem (.ref a) u r) Q E s:=by
 rcases g with ⟨kvs,k,e,ey,l,eH⟩|⟨kvs,k,b,e,ey,eb,l,eH⟩
 ·subst ey eH;obtain⟨z,hd,vs,rel,dd⟩:=zfp I.hok e;have hz:vs.length<=sizeLine:=by rw[<- rel.length];exact z
  have hl:(putK kvs k v).length<=sizeLine:=by have:=Xr kvs k v;omega
  refine wpAny_setItem_pairs (hsz:=hz) (K3 ry) dd fun h' dd' hs=>h _ ?_;have he:∃ q,h'.get? a=some q:=let ⟨q,_,_,hq,_⟩:=dd';⟨q,hq⟩;exact Mh I (by rw[e];exact True.intro) hs he (Cg hl hd (rel.put k rv) dd')
 ·subst ey eH;cases (show u=Value.ref b from ry);obtain⟨z,hd,xs,rel,dd⟩:=zi3 I.hok e;have hz:xs.length<=sizeLine:=by rw[<- Paired.length rel];exact z
  have hl:(putK kvs k v).length<=sizeLine:=by have:=Xr kvs k v;omega
  refine wpAny_setItem_heap (hsz:=hz) (tupleKind_room_in1 hu) (Nb I.hok eb) dd fun h' dd' hs=>h _ ?_;obtain⟨q,es,ep,hq,h2,h3,h4,_,h5⟩:=dd';refine Mh I (by rw[e];exact True.intro) hs ⟨q,hq⟩ ⟨hl,hd,_,(rel.put k eb rv).keeps fun c ys ec=>?_,q,es,ep,hq,h2,h3,h4,h5⟩;rw[Zh (Yu ec e (fun z=>nomatch z))];exact ec
end
section
variable{X:Cx}{pins:#[z]}{σ:St}{H:Hp}{s:Shared}{a:Addr}{kvs:#[W]}{k:Key}{u:Value}{A:Around}{E:Value->Shared->Prop}
theorem zlm(I:#[j])(e:H a=#[b,.dK,kvs])(ry:RelV (kV k) u)(l:valV kvs k=some v)(hm:more=[]\/∃ x,more=[x])
  (h:∀ w' s',#[J,upd H a (.dK (We kvs k)),s']->RelV v w'->Q w' s'):#[aa,A,call (.builtin "dict.pop") (.ref a :: u :: more),Q,E,s]:=by
 obtain⟨z,hd,vs,rel,dd⟩:=zfp I.hok e;obtain⟨w',hw,rw'⟩:=RelO.some_of (v:=v) (o:=valueAt vs k) (by rw[<- l];exact rel.val k);have hp:(keyPart u).isSome=true:=by
  cases k with
  | inl i=>obtain⟨t,q⟩:=(show ∃ t,u=Value.int i t from ry);subst q;rfl
  | inr x=>obtain⟨t,q⟩:=(show ∃ t,u=Value.str x t from ry);subst q;rfl
 have ha:argsOk "dict.pop" ⟨.ref a :: u :: more,[]⟩:=by
  rcases hm with q|⟨x,q⟩
  ·subst q;exact PySem.F.args_dict_pop_2 _ _
  ·subst q;exact PySem.F.args_dict_pop_3 _ _ _
 refine call_meetsIn PySem.F.slot_dict_pop dd.typeIs PySem.F.entry_dict_pop ha (meets_dict_pop_there (Yr X.prog X.w) a (K3 ry) more hm hp)
  ⟨vs,w',dd,by rw[<- rel.length];exact z,hw,fun h' dd' hs=>h w' _ ?_ rw'⟩
 have he:∃ q,h'.get? a=some q:=let ⟨q,_,_,hq,_⟩:=dd';⟨q,hq⟩;exact Mh I (by rw[e];exact True.intro) hs he (Cg (zw6 (B1 kvs k) z) hd (rel.drop k) dd')
theorem zln(I:#[j])(e:Rd H a (.dK kvs))(h:∀ t s',#[J,H,s']->Q (.int kvs.length t) s'):#[aa,A,call (.builtin "len") [.ref a],Q,E,s]:=by
 obtain⟨z,hd,vs,rel,dd⟩:=Pb I.hok e;refine call_len_dict hd dd (by rw[<- rel.length];rw[sizeLine_eq] at z;omega) ?_;rw[<- rel.length];exact h _ _ (I.tok _)
end
def zjr(i:Expr):Prop:=∀ ov iv,subscripted i false ov iv=operate [ov,iv] (getItem ov iv)
theorem zhw{prog:Program}{w:World}{A:Around}{E:Value->Shared->Prop}{s:Shared}{env:Env}{value slice:Expr}{pos:Pos}{T id:String}{Q:Value->Shared->Prop}
  (hl:typeLookup (.type T) "__getitem__"=pure #[b,.builtin,id]) (hs:zjr slice)
  (h:wpAny (model prog w) A (eval value env) (fun o s₁=>wpAny (model prog w) A (eval slice env) (fun i s₂=>s₂.TypeIs o T/\wpAny (model prog w) A (getItem o i) Q E s₂) E s₁) E s) :
  wpAny (model prog w) A (eval (.Subscript value slice pos) env) Q E s:=by
 refine Subscript_ (wpAny_mono h (fun o s₁ h₁=>wpAny_mono h₁ (fun i s₂ h₂=>?_) fun _ _ x=>x) fun _ _ x=>x);obtain⟨hT,h₂⟩:=h₂;unfold subscriptTail;refine wpAny_bind ?_;rw[getitemInPython_of_ne hT.not_modules];refine wpAny_bind (wpAny_specialOf hT hl ?_);have fin:wpAny (model prog w) A (subscripted slice false o i) (fun r s₃=>wpAny (model prog w) A (letTemporaryGo value o r >>= fun _=>pure r) Q E s₃) E s₂:=by
  rw[hs o i];exact wpAny_operating (wpAny_mono h₂ (fun r s₃ h₃=>wpAny_bind (wpAny_letTemporaryGo (wpAny_pure h₃))) fun _ _ x=>x)
 first
  | exact wpAny_pure (wpAny_bind fin)
  | exact wpAny_bind (wpAny_pure (wpAny_bind fin))
  | exact wpAny_bind fin
theorem B2(I:#[j])(g:DGet H a y o):s.TypeIs (.ref a) "dict":=by
 rcases g with ⟨kvs,k,e,_,_⟩|⟨kvs,k,b,e,_,_,_⟩
 ·obtain⟨_,_,vs,_,dd⟩:=Pb I.hok e;exact dd.typeIs
 ·obtain⟨_,_,xs,_,dd⟩:=Hk I.hok e;exact dd.typeIs
inductive zjs(Q:VK)(x:V)(y:V)(H2:Hp):Prop where
 | mk(a)(v)(_:x=.ref a)(_:DGet H2 a y (some v))(_:Q v H2)
def B3(td ty:TE):TE:=fun σ H Q=>td σ H fun x H1=>ty σ H1 fun y H2=>zjs Q x y H2
inductive zlo(Q:VK)(y:V)(x:V)(H2:Hp):Prop where
 | mk(a)(o)(_:x=.ref a)(_:DGet H2 a y o)(_:Q (.bl o.isSome) H2)
def zmn(ty td:TE):TE:=fun σ H Q=>ty σ H fun y H1=>td σ H1 fun x H2=>zlo Q y x H2
inductive zfq(Q:VK)(y:V)(x:V)(H2:Hp):Prop where
 | mk(a)(o)(_:x=.ref a)(_:DGet H2 a y o)(_:Q (.bl (!o.isSome)) H2)
def zhx(ty td:TE):TE:=fun σ H Q=>ty σ H fun y H1=>td σ H1 fun x H2=>zfq Q y x H2
inductive zjt(D:Q7)(σ:L2.St)(v:V)(x:V)(y:V)(H3:Hp):Prop where
 | mk(a)(H4)(_:x=.ref a)(_:DPut H3 a y v H4)(_:D.nx σ H4)
def zlp(td ty tv:TE):TS:=fun D σ H=>tv σ H fun v H1=>td σ H1 fun x H2=>ty σ H2 fun y H3=>zjt D σ v x y H3
section
variable{X:Cx}{o i e value:Expr}{pos pos' tpos:Pos}{td ty tv:TE}
theorem zhy(hu:X.A.units+1<cLine)(ho:PE X o td)(hi:PE X i ty)(hs:zjr i):PE X (.Subscript o i pos) (B3 td ty):=by
 intro pins s σ H Q I h;refine zhw PySem.F.slot_dict_getitem.lookup hs (thn (ho pins s σ H _ I h) fun u s1 ⟨x,H1,I1,rx,q1⟩=>thn (hi pins s1 σ H1 _ I1 q1) fun iv s2 ⟨y,H2,I2,ry,a,v,ex,g,q2⟩=>?_);subst ex;obtain rfl:u=Value.ref a:=rx;exact⟨B2 I2 g,zdo hu I2 g ry fun w' s3 I3 rw'=>⟨v,H2,I3,rw',q2⟩⟩
theorem Pc(hu:X.A.units+1<cLine)(hi:PE X i ty)(ho:PE X o td):PC X .In i o (zmn ty td):=by
 intro pins s σ H Q I h;refine thn (hi pins s σ H _ I h) fun iv s1 ⟨y,H1,I1,ry,q1⟩=>thn (ho pins s1 σ H1 _ I1 q1) fun u s2 ⟨x,H2,I2,rx,a,ov,ex,g,q2⟩=>?_;subst ex;obtain rfl:u=Value.ref a:=rx;exact zmm hu I2 g ry fun s3 I3=>⟨.bl ov.isSome,H2,I3,rfl,q2⟩
theorem Ls(hu:X.A.units+1<cLine)(hi:PE X i ty)(ho:PE X o td):PC X .NotIn i o (zhx ty td):=by
 intro pins s σ H Q I h;refine thn (hi pins s σ H _ I h) fun iv s1 ⟨y,H1,I1,ry,q1⟩=>thn (ho pins s1 σ H1 _ I1 q1) fun u s2 ⟨x,H2,I2,rx,a,ov,ex,g,q2⟩=>?_;subst ex;obtain rfl:u=Value.ref a:=rx;exact zhv hu I2 g ry fun s3 I3=>⟨.bl (!ov.isSome),H2,I3,rfl,q2⟩
theorem Yy(hu:X.A.units+1<cLine)(ho:PE X o td)(hi:PE X i ty)(hv:PE X value tv)(hs:swapsWith value (some (.Subscript o i pos')) pos.line X.env=pure false) :
  PS X (.Assign [.Subscript o i pos'] value pos) (zlp td ty tv):=by
 intro pins s σ H D I h;refine wpAny_Assign_Subscript (thn (hv pins s σ H _ I h) fun r s1 ⟨v,H1,I1,rv,q1⟩=>thn (ho pins s1 σ H1 _ I1 q1) fun u s2 ⟨x,H2,I2,rx,q2⟩=>thn (hi pins s2 σ H2 _ I2 q2) fun iv s3 ⟨y,H3,I3,ry,a,H4,ex,g,q3⟩=>?_) hs;subst ex;obtain rfl:u=Value.ref a:=rx;exact zdp hu I3 g ry rv fun s4 I4=>⟨σ,H4,I4,q3⟩
end
theorem B4(h:Heap)(hb:sysModules<h.objs.size):Y9 P w H (h.push { cls:=.type "dict",data:=.dict #[] }) h.objs.size (.dK []) :=
 ⟨zxh _,zxa.mpr (Ne.symm (zxd hb)),[],.nil,Heap.DictOf.new h⟩
theorem zfr(h:Heap)(hb:sysModules<h.objs.size):Y9 P w H (h.push { cls:=.type "dict",data:=.dict #[] }) h.objs.size (.dT []) :=
 ⟨zxh _,zxa.mpr (Ne.symm (zxd hb)),[],.nil,_,#[],0,Heap.get?_push_size _ rfl,⟨rfl,rfl,rfl⟩,rfl,rfl,List.nodup_nil⟩
def zju:TE:=fun _ H Q=>∀ p,H p=none->Q (.ref p) (upd H p (.dK []))
def zjv:TE:=fun _ H Q=>∀ p,H p=none->Q (.ref p) (upd H p (.dT []))
section
variable{X:Cx}{pos:Pos}
theorem Hl:PE X (.Dict [] [] pos) zju:=fun pins s σ H Q I h =>
 wpAny_Dict_empty ⟨.ref s.heap.objs.size,_,I.laid (a:=s.heap.objs.size) (o:=.dK []) (t':=s.toks) (fun _ _ q=>Heap.get?_push_of_some _ q) (zww _) (B4 s.heap I.big),rfl,h _ (I.hok.fresh (zww _))⟩
theorem Hm:PE X (.Dict [] [] pos) zjv:=fun pins s σ H Q I h =>
 wpAny_Dict_empty ⟨.ref s.heap.objs.size,_,I.laid (a:=s.heap.objs.size) (o:=.dT []) (t':=s.toks) (fun _ _ q=>Heap.get?_push_of_some _ q) (zww _) (zfr s.heap I.big),rfl,h _ (I.hok.fresh (zww _))⟩
end
def zbc:List (TE×TE)->St->Hp->(List (V×V)->Hp->Prop)->Prop
 | [],_,H,Q=>Q [] H
 | (tk,tv) :: r,σ,H,Q=>tk σ H fun x H1=>tv σ H1 fun y H2=>zbc r σ H2 fun ps H3=>Q ((x,y) :: ps) H3
abbrev VV:List (V×V)->List (Value×Value)->Prop:=Paired fun p q=>RelV p.1 q.1/\RelV p.2 q.2
def PPs(X:Cx)(pos:Pos)(keys:List (Option Expr))(values:List Expr)(trs:List (TE×TE)):Prop :=
 ∀ (pins:#[z]) (s:Shared) (σ:St) (H:Hp) (Q:List (V×V)->Hp->Prop),#[j]->zbc trs σ H Q ->
   wpAny (model X.prog X.w) X.A (evalPairs (pairTrees keys values X.env pos)) (fun vs s'=>∃ ps H',#[J,H',s']/\VV ps vs/\Q ps H') X.xe s
theorem zci:PPs X pos [] [] []:=fun pins s σ H Q I h=>pairTrees_nil_walk ⟨[],H,I,.nil,h⟩
theorem Tr(hk:PE X k tk)(hv:PE X v tv)(hr:PPs X pos ks vs trs) :
  PPs X pos (some k :: ks) (v :: vs) ((tk,tv) :: trs):=fun pins s σ H Q I h =>
 pairTrees_cons_walk (thn (hk pins s σ H _ I h) fun u s1 ⟨x,H1,I1,rx,q1⟩=>thn (hv pins s1 σ H1 _ I1 q1) fun w2 s2 ⟨y,H2,I2,ry,q2⟩ =>
  thn (hr pins s2 σ H2 _ I2 q2) fun ws s3 ⟨ps,H3,I3,rel,q3⟩=>⟨(x,y) :: ps,H3,I3,.cons ⟨rx,ry⟩ rel,q3⟩)
def R9(kvs more:#[W]):#[W]:=more.foldl (fun acc kv=>putK acc kv.1 kv.2) kvs
theorem KV.merge:∀ {more:List (Key×V)} {rs:List (Key×Value)} {kvs:List (Key×V)} {vs:List (Key×Value)},KV more rs->KV kvs vs->KV (R9 kvs more) (merged vs rs):=by
 intro more rs kvs vs r;unfold KV at r
 induction r generalizing kvs vs with
 | nil=>intro q;exact q
 | @cons p q ps qs h t ih =>
   intro r0;have e:KV (putK kvs p.1 p.2) (stored vs q.1 q.2):=by
    have:=r0.put p.1 h.2;rw[<- h.1];exact this
   exact ih e
theorem O3:∀ (more kvs:List (Key×V)),(R9 kvs more).length<=kvs.length+more.length
 | [],kvs=>by show kvs.length<=kvs.length+0;omega
 | p :: r,kvs=>by
   have h1:=O3 r (putK kvs p.1 p.2);have h2:=Xr kvs p.1 p.2;show (R9 (putK kvs p.1 p.2) r).length<=_;rw[zw9];omega
theorem Hn:∀ {kvs:List (Key×V)} {ws:List (Value×Value)},VV (kvs.map fun kv=>(kV kv.1,kv.2)) ws->∃ rs,Carries (Yr P w) ws rs/\KV kvs rs
 | [],_,r=>by rw[zyt] at r;cases r;exact⟨[],True.intro,.nil⟩
 | p :: kvs,_,r=>by
   rw[zwz] at r;cases r with
   | @cons a b as bs h t =>
     obtain⟨rs,c,q⟩:=Hn (P:=P) (w:=w) t;obtain⟨b1,b2⟩:=b;exact⟨(p.1,b2) :: rs,#[w,K3 h.1,c],.cons ⟨rfl,h.2⟩ q⟩
def zlq(trs:List (TE×TE)):TE:=fun σ H Q=>∀ p,H p=none->zbc trs σ (upd H p (.dK [])) fun ps H2=>H2 p=#[b,.dK,[]]/\∃ kvs:#[W],ps=kvs.map (fun kv=>(kV kv.1,kv.2))/\kvs.length<=15/\Q (.ref p) (upd H2 p (.dK (R9 [] kvs)))
theorem zcj(h:PPs X pos keys values trs)(hall:keys.all (·.isSome)=true)(hl:keys.length=values.length)(h0:keys≠[])
  (h15:keys.length<=15):PE X (.Dict keys values pos) (zlq trs):=by
 intro pins s σ H Q I q;have hn:=I.hok.fresh (zww s.heap.objs.size);have I1:=I.laid (a:=s.heap.objs.size) (o:=.dK []) (h':=s.heap.push { cls:=.type "dict",data:=.dict #[] }) (t':=s.toks) (fun _ _ q=>#[ag,_,q]) (zww _) (B4 s.heap I.big);refine wpAny_Dict_walk (knd:=Yr X.prog X.w) hall hl h0 h15 (thn (h pins _ σ _ _ I1 (q _ hn)) fun ws s2 ⟨ps,H2,I2,rel,e,kvs,ep,lk,q2⟩=>?_);subst ep;obtain⟨rs,c,rk⟩:=Hn (P:=X.prog) (w:=X.w) rel;obtain⟨z,hd,vs0,r0,dd⟩:=zfp I2.hok e;cases r0;refine⟨rs,c,dd,fun h' dd' hs=>⟨.ref s.heap.objs.size,_,?_,rfl,q2⟩⟩;have hz:(R9 [] kvs).length<=sizeLine:=by
  have h1:=O3 kvs [];rw[zyw] at h1;rw[sizeLine_eq];omega
 have he:∃ q,h'.get? s.heap.objs.size=some q:=let ⟨q,_,_,hq,_⟩:=dd';⟨q,hq⟩;exact Mh I2 (by rw[e];exact True.intro) hs he (Cg hz hd (rk.merge .nil) dd')
structure M1(X:Cx)(o:Expr)(m:Str)(apos:Pos)(e:Expr)(cpos:Pos):Prop where
 base:attributeBase o m X.env #[F,o]=#[F,o]
 few:((backTo cpos (starEach [e] X.env)).all (fun x=>!x.1)&&(backToKw cpos (keywordEach [] X.env)).all (fun x=>x.1.isSome)
  && decide (([e]:List Expr).length+([]:List Keyword).length+(if ([]:List Keyword).isEmpty then 0 else 1)<30))=true
 line:(apos.endLine == cpos.line)=true
 trees:backTo cpos (starEach [e] X.env)=[(false,eval e X.env)]
structure M2(X:Cx)(o:Expr)(m:Str)(apos:Pos)(e f:Expr)(cpos:Pos):Prop where
 base:attributeBase o m X.env #[F,o]=#[F,o]
 few:((backTo cpos (starEach [e,f] X.env)).all (fun x=>!x.1)&&(backToKw cpos (keywordEach [] X.env)).all (fun x=>x.1.isSome)
  && decide (([e,f]:List Expr).length+([]:List Keyword).length+(if ([]:List Keyword).isEmpty then 0 else 1)<30))=true
 line:(apos.endLine == cpos.line)=true
 trees:backTo cpos (starEach [e,f] X.env)=[(false,#[F,e]),(false,#[F,f])]
def IsD(H:Hp)(a:Addr):Prop:=(∃ kvs,Rd H a (.dK kvs))\/∃ kvs,Rd H a (.dT kvs)
theorem zbd(I:#[j])(d:IsD H a) :
  s.TypeIs (.ref a) "dict"/\(∀ b,Value.ref a=.ref b->∃ ob,#[O,b]=some ob/\ob.dict=none)/\(a == sysModules)=false:=by
 rcases d with ⟨kvs,e⟩|⟨kvs,e⟩
 ·obtain⟨_,hd,vs,_,dd⟩:=Pb I.hok e;refine⟨dd.typeIs,fun b q=>?_,hd⟩;cases q;obtain⟨ob,_,_,h1,h2,_⟩:=dd;exact⟨ob,h1,h2.2.1⟩
 ·obtain⟨_,hd,xs,_,dd⟩:=Hk I.hok e;refine⟨dd.typeIs,fun b q=>?_,hd⟩;cases q;obtain⟨ob,_,_,h1,h2,_⟩:=dd;exact⟨ob,h1,h2.2.1⟩
section
variable{X:Cx}{pins:#[z]}{σ:St}{H:Hp}{s:Shared}{a:Addr}{y d:V}{u r:Value}{o:Option V}{A:Around}{E:Value->Shared->Prop}
theorem zjw(hu:A.units+1<cLine)(I:#[j])(g:DGet H a y o)(ry:RelV y u)(rd:RelV d r)(h:∀ w' s',#[J,H,s']->RelV (o.getD d) w'->Q w' s') :
  wpAny (model X.prog X.w) A (call (.builtin "dict.get") [.ref a,u,r]) Q E s:=by
 rcases g with ⟨kvs,k,e,ey,l⟩|⟨kvs,k,b,e,ey,eb,l⟩
 ·subst ey;obtain⟨z,hd,vs,rel,dd⟩:=Pb I.hok e;refine call_meetsIn PySem.F.slot_dict_get dd.typeIs PySem.F.entry_dict_get (PySem.F.args_dict_get_3 _ _ _) (meets_dict_get_default (Yr X.prog X.w) a (K3 ry) hd r) ⟨_,dd.mapOf,h _ _ (I.tok _) ?_⟩;rw[l];exact(rel.val k).getD rd
 ·subst ey;cases (show u=Value.ref b from ry);obtain⟨z,hd,xs,rel,dd⟩:=Hk I.hok e;refine call_meetsIn PySem.F.slot_dict_get dd.typeIs PySem.F.entry_dict_get (PySem.F.args_dict_get_3 _ _ _) (meetsH_dict_get_default (tupleKind (Yr X.prog X.w)) a b hd r) ⟨tupleKind_room_in1 hu,k,xs,Nb I.hok eb,dd,h _ _ (I.tok _) ?_⟩;rw[l];exact(rel.val k).getD rd
end
inductive zhz(ty:TE)(tx:TE)(σ:L2.St)(Q:VK)(x:V)(H1:Hp):Prop where
 | mk(a)(_:x=.ref a)(_:IsD H1 a)(_:ty σ H1 fun y H2=>tx σ H2 fun z H3=>∃ o,DGet H3 a y o/\Q (o.getD z) H3)
def zjx(td ty tx:TE):TE:=fun σ H Q=>td σ H fun x H1=>zhz ty tx σ Q x H1
inductive zh0(ty:TE)(σ:L2.St)(Q:VK)(x:V)(H1:Hp):Prop where
 | mk(a)(_:x=.ref a)(_:IsD H1 a)(_:ty σ H1 fun y H2=>∃ kvs k v,H2 a=#[b,.dK,kvs]/\y=kV k/\valV kvs k=some v/\Q v (upd H2 a (.dK (We kvs k))))
def zjy(td ty:TE):TE:=fun σ H Q=>td σ H fun x H1=>zh0 ty σ Q x H1
section
variable{X:Cx}{o e f:Expr}{apos cpos:Pos}{td ty tx:TE}
theorem zfs(hu:X.A.units+1<cLine)(ho:PE X o td)(he:PE X e ty)(hf:PE X f tx)(m:M2 X o "get" apos e f cpos):PE X (.Call (.Attribute o "get" apos) [e,f] [] cpos) (zjx td ty tx):=by
 intro pins s σ H Q I h;refine wpAny_Call_method m.base m.few m.line PySem.F.plainAttrs_dict PySem.F.slot_dict_get PySem.F.type_dict_get (thn (ho pins s σ H _ I h) fun u s1 ⟨x,H1,I1,rx,a,ex,d,q1⟩=>?_);subst ex;obtain rfl:u=Value.ref a:=rx;obtain⟨t1,t2,_⟩:=zbd I1 d;refine⟨t1,t2,?_⟩;rw[m.trees];refine Calls.callWith_builtin rfl (Calls.evalArgs_plain (Calls.spliced_cons (thn (he pins s1 σ H1 _ I1 q1) fun iv s2 ⟨y,H2,I2,ry,q2⟩ =>
  Calls.spliced_cons (thn (hf pins s2 σ H2 _ I2 q2) fun fv s3 ⟨z,H3,I3,rz,ov,g,q3⟩=>Calls.spliced_nil ?_))))
 exact zjw hu I3 g ry rz fun w' s4 I4 rw'=>⟨_,H3,I4,rw',q3⟩
theorem zft(ho:PE X o td)(he:PE X e ty)(m:M1 X o "pop" apos e cpos):PE X (.Call (.Attribute o "pop" apos) [e] [] cpos) (zjy td ty):=by
 intro pins s σ H Q I h;refine wpAny_Call_method m.base m.few m.line PySem.F.plainAttrs_dict PySem.F.slot_dict_pop PySem.F.type_dict_pop (thn (ho pins s σ H _ I h) fun u s1 ⟨x,H1,I1,rx,a,ex,d,q1⟩=>?_);subst ex;obtain rfl:u=Value.ref a:=rx;obtain⟨t1,t2,_⟩:=zbd I1 d;refine⟨t1,t2,?_⟩;rw[m.trees];refine Calls.callWith_builtin rfl (Calls.evalArgs_plain (Calls.spliced_cons (thn (he pins s1 σ H1 _ I1 q1) fun iv s2 ⟨y,H2,I2,ry,kvs,k,v,ea,ey,l,q2⟩=>Calls.spliced_nil ?_)));subst ey;exact zlm I2 ea ry l (.inl rfl) fun w' s3 I3 rw'=>⟨v,_,I3,rw',q2⟩
end
section
variable{X:Cx}{pins:#[z]}{σ:St}{H:Hp}{s:Shared}{a:Addr}{kvs:#[W]}{A:Around}{E:Value->Shared->Prop}
theorem zfu(I:#[j])(e:Rd H a (.dK kvs))(h:∀ p s',H p=none->#[J,upd H p (.dK kvs),s']->Q (.ref p) s'):#[aa,A,call (.type "dict") [.ref a],Q,E,s]:=by
 obtain⟨z,hd,vs,rel,dd⟩:=Pb I.hok e;refine kt_call_dict hd dd (by rw[<- rel.length];exact z) fun h' dd' hs=>?_;refine h _ _ (I.hok.fresh (zww _)) (I.laid (a:=s.heap.objs.size) (o:=.dK kvs) (t':=s.toks) (fun b q hq=>?_) (zww _) (Cg z (zxa.mpr (Ne.symm (zxd I.big))) rel dd'));exact(hs.2 b (zxd (Heap.lt_size hq))).trans (Heap.get?_push_of_some _ hq)
end
end L2
namespace HT
open PySem PyProof.Rows
section
open PySem.SeqAt
open PySem.AutoSeq1 (wpAny_loadPart')
open PySem.MeetsSeq PySem.MeetsSeq2 PySem.MeetsSeq3
end
section
variable{prog:Program}{w:World}{A:Around}{E:Value->Shared->Prop}{s:Shared}
theorem cat_tup(ht:IsTup s.heap t vs.toArray)(hb:IsTup s.heap b ws.toArray)(hv:vs≠[])
  (h1:ws=[]->Q (.ref t) s) (h2:ws≠[]->Q (.ref s.heap.objs.size) { s with heap:=s.heap.push { cls:=.type "tuple",data:=.seq (vs++ws).toArray } })
  (hsz:vs.length+ws.length<=sizeLine):wpAny (model prog w) A (binaryOp .Add (.ref t) (.ref b)) Q E s:=by
 obtain⟨⟨cls,dd,data,sl⟩,ho,hc,n,hd⟩:=id ht;obtain⟨⟨cls2,dd2,data2,sl2⟩,ho2,hc2,n2,hd2⟩:=id hb;simp only at hc hd hc2 hd2;subst hc hd hc2 hd2;have e:vs.toArray++ws.toArray=(vs++ws).toArray:=by simp
 by_cases hw:ws=[]
 ·exact concat_meets ⟨_,ho,rfl⟩ ⟨_,ho2,rfl⟩ noFill_tuple_add seq_tuple_add PySem.F.slot_tuple_add PySem.F.entry_tuple_add (PySem.F.args_tuple_add_2 _ _)
   (tuple_addW1 t b vs.toArray ws.toArray n n2 dd dd2 sl sl2 (by simpa using hv) (by simp[hw])) ⟨ho,ho2,h1 hw⟩
 ·refine concat_meets ⟨_,ho,rfl⟩ ⟨_,ho2,rfl⟩ noFill_tuple_add seq_tuple_add PySem.F.slot_tuple_add PySem.F.entry_tuple_add (PySem.F.args_tuple_add_2 _ _)
   (tuple_addW2 t b vs.toArray ws.toArray n n2 dd dd2 sl sl2 (by simpa using hv) (by simpa using hw) (by rw[zw1,zw1];exact hsz)) ⟨ho,ho2,?_⟩
  rw[e];exact h2 hw
def sIx(n d:Nat):#[G]->Nat
 | none=>d
 | some v=>if v<0 then (v+(n:Int)).toNat else min v.toNat n
theorem sIx_none(n d:Nat):sIx n d none=d:=rfl
theorem sIx_nat(n d k:Nat):sIx n d (some (k:Int))=min k n:=by
 show (if (k:Int)<0 then ((k:Int)+(n:Int)).toNat else min (k:Int).toNat n)=min k n;rw[if_neg ⋯,zw2]
end
end HT
namespace L2
open PySem PySem.Spec PyProof.Rows
abbrev TO:=St->Hp->(#[G]->Hp->Prop)->Prop
def PO(X:Cx)(e:Option Expr)(t:TO):Prop :=
 ∀ (pins:#[z]) (s:Shared) (σ:St) (H:Hp) (Q:#[G]->Hp->Prop),#[j]->t σ H Q ->
   wpAny (model X.prog X.w) X.A (evalPart e X.env) (fun u s'=>∃ o H',#[J,H',s']/\IsPart u o/\Q o H') X.xe s
def zck:TO:=fun _ H Q=>Q none H
inductive zjz(Q:#[G]->Hp->Prop)(x:V)(H1:Hp):Prop where
 | mk(i)(_:x=.int i)(_:Q (some i) H1)
def zi4(t:TE):TO:=fun σ H Q=>t σ H fun x H1=>zjz Q x H1
section
variable{X:Cx}{e:Expr}{te:TE}{lo hi:Option Expr}{tl th:TO}{pos p2:Pos}
theorem Ip:PO X none zck:=by
 intro pins s σ H Q I h;rw[evalPart_none];exact wpAny_pure ⟨none,H,I,.none,h⟩
theorem Iq(h:PE X e te):PO X (some e) (zi4 te):=by
 intro pins s σ H Q I hw;rw[evalPart_some];refine thn (h pins s σ H _ I hw) fun u s1 ⟨x,H1,I1,r1,q1⟩=>?_;obtain⟨i,rfl,q⟩:=q1;obtain⟨t,rfl⟩:=r1;exact⟨some i,H1,I1,.int i t,q⟩
def SlR(X:Cx)(r:V->#[G]->#[G]->Hp->VK->Prop):Prop :=
 ∀ (pins:#[z]) (s:Shared) (σ:St) (H:Hp) (x:V) (v vl vu:Value) (lo hi:#[G]) (sl:Addr) (Q:VK),#[j]->RelV x v->s.heap.IsSliceOf sl vl vu .none->IsPart vl lo->IsPart vu hi->r x lo hi H Q ->
   ∃ T id,typeLookup (.type T) "__getitem__"=pure #[b,.builtin,id]/\s.TypeIs v T/\#[aa,X.A,getItem v (.ref sl),EP X pins σ Q,X.xe,s]
def tSl(r:V->#[G]->#[G]->Hp->VK->Prop)(te:TE)(tl th:TO):TE:=fun σ H Q=>te σ H fun x H1=>tl σ H1 fun l H2=>th σ H2 fun u H3=>r x l u H3 Q
theorem Mi(hr:SlR X r)(he:PE X e te)(hl:PO X lo tl)(hu:PO X hi th):PE X (.Subscript e (.Slice lo hi none p2) pos) (tSl r te tl th):=by
 intro pins s σ H Q I h;refine Subscript_ (thn (he pins s σ H _ I h) fun v s1 ⟨x,H1,I1,r1,q1⟩=>?_);refine wpAny_Slice (thn (hl pins s1 σ H1 _ I1 q1) fun vl s2 ⟨l,H2,I2,pl,q2⟩=>thn (hu pins s2 σ H2 _ I2 q2) fun vu s3 ⟨u,H3,I3,pu,q3⟩=>?_);rw[evalPart_none];refine wpAny_pure ?_;have I4:#[J,H3,{ s3 with heap:=s3.heap.push { cls:=.type "slice",data:=.fields #[vl,vu,.none] } }]:=I3.kept (t':=s3.toks) fun b ob q=>#[ag,_,q];obtain⟨T,id,hT,ht,hg⟩:=hr pins { s3 with heap:=s3.heap.push { cls:=.type "slice",data:=.fields #[vl,vu,.none] } } σ H3 x v vl vu l u s3.heap.objs.size Q I4 r1 (Heap.IsSliceOf.new ..) pl pu q3;show #[aa,X.A,subscriptTail e (.Slice lo hi none p2) v (.ref s3.heap.objs.size),EP X pins σ Q,X.xe,{ s3 with heap:=s3.heap.push { cls:=.type "slice",data:=.fields #[vl,vu,.none] } }];exact tail_any (ops:=[.ref s3.heap.objs.size,v]) ht hT hg (by with_unfolding_all rfl)
def Nd(xs:#[a])(lo hi:#[G]):#[a]:=(xs.drop (HT.sIx xs.length 0 lo)).take (HT.sIx xs.length xs.length hi-HT.sIx xs.length 0 lo)
theorem B5(xs:#[a])(lo hi:#[G]):(Nd xs lo hi).length<=xs.length:=by
 unfold Nd;rw[zx6,zyn];omega
inductive zi5(K:Frag)(x:V)(y:V)(H:Hp)(Q:VK):Prop where
 | mk(a)(b)(xs)(ys)(_:x=.ref a)(_:y=.ref b)(_:SqT K H a xs)(_:SqT K H b ys)(_:xs≠[])(_:xs.length+ys.length<=sizeLine)(_:(ys=[]->Q (.ref a) H))(_:(ys≠[]->∀ p,H p=none->Q (.ref p) (upd H p (.tup (xs++ys)))))
theorem Vals.nil_iff(r:Vals xs us):us=[]↔xs=[]:=by
 cases r with
 | nil=>simp
 | cons _ _=>simp
theorem zh1:OpR X (binaryOp .Add) (zi5 X.K):=by
 intro pins s σ H x y v u Q I rx ry h;obtain⟨a,b,xs,ys,rfl,rfl,ha,hb,hx,hz,q1,q2⟩:=h;cases rx;cases ry;obtain⟨its,r1,p1,_⟩:=I.tuple ha;obtain⟨its2,r2,p2,_⟩:=I.tuple hb;refine HT.cat_tup p1 p2 (fun z=>hx (r1.nil_iff.mp z)) (fun z=>⟨.ref a,H,I,rfl,q1 (r2.nil_iff.mp z)⟩) (fun z=>?_) (by rw[<- r1.length,<- r2.length];exact hz);refine⟨.ref s.heap.objs.size,_,I.laid (t':=s.toks) (o:=.tup (xs++ys)) (fun b ob q=>#[ag,_,q]) (zww _) ?_,rfl,q2 (fun w=>z (r2.nil_iff.mpr w)) _ (I.hok.fresh (zww _))⟩;exact⟨by rw[zwp];exact hz,_,r1.append r2,IsTup.new _ _⟩
end
def ixN(n:Nat)(i:Int):Option Nat:=if 0<=i then (if i<n then some i.toNat else none) else if -(n:Int)<=i then some (i+n).toNat else none
def atI{α:Type}(xs:List α)(i:Int):Option α:=(ixN xs.length i).bind fun j=>xs[j]?
theorem zcl(h:ixN n i=some j):seqIndex? i n=some j/\j<n/\-(n:Int)<=i/\i<n:=by
 unfold ixN at h;by_cases h0:0<=i
 ·rw[#[f,h0]] at h;by_cases h1:i<n
  ·rw[#[f,h1]] at h;have e:i.toNat=j:=Option.some.inj h;exact⟨by rw[seqIndex_of h0 h1,e],by omega,by omega,h1⟩
  ·rw[#[c,h1]] at h;cases h
 ·rw[#[c,h0]] at h;by_cases h1:-(n:Int)<=i
  ·rw[#[f,h1]] at h;have e:(i+n).toNat=j:=Option.some.inj h;exact⟨by rw[seqIndex_neg ⋯ h1,e],by omega,h1,by omega⟩
  ·rw[#[c,h1]] at h;cases h
theorem zcm(h:atI xs i=some v):∃ j,seqIndex? i xs.length=some j/\xs[j]?=some v/\j<xs.length/\-(xs.length:Int)<=i/\i<xs.length:=by
 unfold atI at h;cases e:ixN xs.length i with
 | none=>rw[e] at h;cases h
 | some j =>
   rw[e] at h;obtain⟨h1,h2,h3,h4⟩:=zcl e;exact⟨j,h1,h,h2,h3,h4⟩
theorem Z7{α:Type}{xs:List α}{j:Nat}{v:α}(h:xs[j]?=some v):atI xs (j:Int)=some v:=by
 have hj:j<xs.length:=(zwo.mp h).1;have e:ixN xs.length (j:Int)=some j:=by
  unfold ixN;rw[if_pos ⋯,if_pos ⋯];simp
 unfold atI;rw[e];exact h
theorem atI_last(xs:List α)(v:α):atI (xs++[v]) (-1)=some v:=by
 have hl:(xs++[v]).length=xs.length+1:=by simp
 have e:ixN (xs++[v]).length (-1)=some xs.length:=by
  unfold ixN;rw[hl,if_neg ⋯,if_pos ⋯]
  congr 1
  omega
 unfold atI;rw[e];show (xs++[v])[xs.length]?=some v;simp
def zcn(b:Expr):Prop:=∀ o i,subscripted b false o i=operate [o,i] (getItem o i)
def IxR(X:Cx)(r:R2):Prop :=
 ∀ (value slice:Expr) (pins:#[z]) (s:Shared) (σ:St) (H:Hp) (x y:V) (v u:Value) (Q:VK),#[j]->RelV x v->RelV y u->r x y H Q ->
   subscripted slice false v u=operate [v,u] (getItem v u)->wpAny (model X.prog X.w) X.A (subscriptTail value slice v u) (EP X pins σ Q) X.xe s
def MtR(X:Cx)(id:String)(r:V->#[a]->Hp->VK->Prop):Prop :=
 ∀ (pins:#[z]) (s:Shared) (σ:St) (H:Hp) (x:V) (xs:#[a]) (v:Value) (us:#[R]) (Q:VK),#[j]->RelV x v->Vals xs us->r x xs H Q ->
   wpAny (model X.prog X.w) X.A (call (.builtin id) (v :: us)) (EP X pins σ Q) X.xe s
section
variable{X:Cx}{a b:Expr}{ta tb:TE}{pos:Pos}
theorem zlr(hr:IxR X r)(ha:PE X a ta)(hb:PE X b tb)(hs:zcn b):PE X (.Subscript a b pos) (tOp r ta tb):=by
 intro pins s σ H Q I h;exact Subscript_ (binT ha hb I h fun v u s2 x y H2 I2 rx ry q=>hr a b pins s2 σ H2 x y v u Q I2 rx ry q (hs _ _))
inductive Fw(K:Frag)(x:V)(y:V)(H:Hp)(Q:VK):Prop where
 | mk(p)(xs)(i)(v)(_:x=.ref p)(_:y=.int i)(_:SqL K H p xs)(_:atI xs i=some v)(_:Q v H)
inductive zfv(K:Frag)(x:V)(y:V)(H:Hp)(Q:VK):Prop where
 | mk(p)(xs)(i)(v)(_:x=.ref p)(_:y=.int i)(_:SqT K H p xs)(_:atI xs i=some v)(_:Q v H)
theorem zh2:IxR X (Fw X.K):=by
 intro value slice pins s σ H x y v u Q I rx ry h hs;obtain⟨p,xs,i,z,rfl,rfl,hq,he,q⟩:=h;cases rx;obtain⟨t,rfl⟩:=ry;obtain⟨its,r,pl,hz⟩:=I.list hq;obtain⟨j,h1,h2,h3,h4,h5⟩:=zcm he;obtain⟨w,ew,rw'⟩:=r.get h2;have hl:=r.length;have hn:=Na;have fin:EP X pins σ Q w s:=⟨z,H,I,rw',q⟩;by_cases h0:0<=i
 ·have hj:i.toNat=j:=by
   rw[seqIndex_of h0 h5] at h1;exact Option.some.inj h1
  exact item_listR pl.isList h0 ⋯ (by rw[hj];simpa using ew) fin hs
 ·have hj:(i+(its.toArray.size:Int)).toNat=j:=by
   rw[seqIndex_neg ⋯ h4] at h1;rw[zw1,<- hl];exact Option.some.inj h1
  exact subscriptTail_builtinR (x:=w) pl.isList.typeIs slot_list_getitem.lookup
   (wpAny_getItem_list_neg (Q:=fun r s'=>r=w/\EP X pins σ Q r s') pl.isList ⋯ (by rw[zw1]<;>omega) ⋯ (by rw[hj];simpa using ew) ⟨rfl,fin⟩) hs
theorem zj0:IxR X (zfv X.K):=by
 intro value slice pins s σ H x y v u Q I rx ry h hs;obtain⟨p,xs,i,z,rfl,rfl,hq,he,q⟩:=h;cases rx;obtain⟨t,rfl⟩:=ry;obtain⟨its,r,pl,hz⟩:=I.tuple hq;obtain⟨j,h1,h2,h3,h4,h5⟩:=zcm he;obtain⟨w,ew,rw'⟩:=r.get h2;have hl:=r.length;have hn:=Na;have fin:EP X pins σ Q w s:=⟨z,H,I,rw',q⟩;exact subscriptTail_builtinR (x:=w) pl.typeIs slot_tuple_getitem.lookup
  (getItem_tuple (j:=j) (Q:=fun r s'=>r=w/\EP X pins σ Q r s') pl ⋯ ⋯ (by rw[zw1,<- hl];exact h1) (by simpa using ew) ⟨rfl,fin⟩) hs
theorem zbe(its:#[R])(n j:Nat)(u:Value):Obj.mapSeq (·.setIfInBounds j u) { cls:=.type "list",data:=.seq its.toArray n }={ cls:=.type "list",data:=.seq (its.set j u).toArray n }:=by
 simp[Obj.mapSeq]
theorem Inv.lst(I:#[j])(h:#[A,H,p,xs]) :
  ∃ (its:#[R]) (n:Nat),Vals xs its/\#[O,p]=some { cls:=.type "list",data:=.seq its.toArray n }/\xs.length<=sizeLine:=by
 obtain⟨z,its,n,r,e⟩:=I.hok p _ h;exact⟨its,n,r,e,z⟩
theorem Inv.lstUpd{pins:#[z]}{σ:St}{H:Hp}{s:Shared}{p:Addr}{xs ys:#[a]}{its its':#[R]}{n n':Nat}{f:Obj->Obj}(I:#[j])(h:#[A,H,p,xs])
  (ho:s.heap.get? p=some { cls:=.type "list",data:=.seq its.toArray n }) (hf:f { cls:=.type "list",data:=.seq its.toArray n }={ cls:=.type "list",data:=.seq its'.toArray n' }) (r:Vals ys its') (hz:ys.length<=sizeLine) (t:Nat) :
  Inv X pins σ (upd H p (.lst ys)) { s with heap:=s.heap.update p f,toks:=t }:=by
 have e:(s.heap.update p f).get? p=some { cls:=.type "list",data:=.seq its'.toArray n' }:=by
  rw[Heap.get?_update_self f ho (by rw[hf]<;>rfl),hf]
 refine I.write (x:=p) (e:=p) (by rw[h];trivial) (.inl rfl) (fun b u hb q=>(Heap.get?_update_other _ _ (Ne.symm hb)).trans q) ⟨_,e⟩ ?_;exact⟨hz,its',n',r,e⟩
def zls:V->V->V->Hp->(Hp->Prop)->Prop:=fun o i v H Q=>∃ p xs k j,o=.ref p/\i=.int k/\H p=#[x,xs]/\ixN xs.length k=some j/\Q (upd H p (.lst (xs.set j v)))
theorem B6:zk7 X zls:=by
 intro pins s σ H o i v ov iv u Q I ro ri rv h;obtain⟨p,xs,k,j,rfl,rfl,hp,hj,q⟩:=h;cases ro;obtain⟨t,rfl⟩:=ri;obtain⟨its,n,r,ho,hz⟩:=I.lst hp;obtain⟨h1,h2,h3,h4⟩:=zcl hj;have hl:=r.length;have hn:=Na;have I':#[J,upd H p (.lst (xs.set j v)),{ s with heap:=s.heap.update p (Obj.mapSeq (·.setIfInBounds j u)) }] :=
  I.lstUpd hp ho (zbe its n j u) (r.set rv j) (by rw[zx3];exact hz) s.toks
 by_cases h0:0<=k
 ·have hk:k.toNat=j:=by
   rw[seqIndex_of h0 h4] at h1;exact Option.some.inj h1
  exact PySem.W.ki_setAt ho h0 ⋯ (by rw[zw1,<- hl];exact h4) (by rw[hk];exact⟨_,I',q⟩)
 ·have hk:(k+(its.toArray.size:Int)).toNat=j:=by
   rw[seqIndex_neg ⋯ h3] at h1;rw[zw1,<- hl];exact Option.some.inj h1
  exact PySem.W.ki_setBack ho ⋯ (by rw[zw1,<- hl];exact h3) ⋯ (by rw[hk];exact⟨_,I',q⟩)
theorem Ci(lo hi:#[G])(n:Nat):(sliceBounds lo hi none n).1=((HT.sIx n 0 lo:Nat):Int)/\(sliceBounds lo hi none n).2.1=((HT.sIx n n hi:Nat):Int)/\(sliceBounds lo hi none n).2.2=1:=by
 refine⟨?_,?_,rfl⟩
 ·cases lo with
  | none=>simp[sliceBounds,HT.sIx]
  | some i =>
    simp only[sliceBounds,HT.sIx,Option.getD_none,show (1:Int)>0 by decide,if_true];by_cases h:i<0
    ·simp only[h,if_true]<;>omega
    ·simp only[h,if_false]<;>omega
 ·cases hi with
  | none=>simp[sliceBounds,HT.sIx]
  | some i =>
    simp only[sliceBounds,HT.sIx,Option.getD_none,show (1:Int)>0 by decide,if_true];by_cases h:i<0
    ·simp only[h,if_true]<;>omega
    ·simp only[h,if_false]<;>omega
theorem Fx(its:#[R])(lo hi:#[G]):slicePick its.toArray lo hi none=((its.drop (HT.sIx its.length 0 lo)).take (HT.sIx its.length its.length hi-HT.sIx its.length 0 lo)).toArray:=by
 obtain⟨h1,h2,h3⟩:=Ci lo hi its.toArray.size;unfold slicePick;rw[h1,h2,h3];simp only[sliceRange_one,pick_run,zw1]<;>rfl
def zj1(K:Frag):V->#[G]->#[G]->Hp->VK->Prop:=fun x lo hi H Q=>∃ a xs,x=.ref a/\SqL K H a xs/\∀ p,H p=none->Q (.ref p) (upd H p (.lst (Nd xs lo hi)))
theorem zh3:SlR X (zj1 X.K):=by
 intro pins s σ H x v vl vu lo hi sl Q I rx hs pl pu h;obtain⟨a,xs,rfl,hx,q⟩:=h;cases rx;obtain⟨its,r,ht,hz⟩:=I.list hx;have hlen:=r.length;refine⟨"list",_,slot_list_getitem.lookup,ht.isList.typeIs,?_⟩;refine wpAny_getItem_list_slice ht.isList hs pl pu .none (by simp) ?_ (by rw[zw1]<;>omega);rw[Fx,<- hlen];refine⟨.ref s.heap.objs.size,_,I.laid (t':=s.toks) (o:=.lst (Nd xs lo hi)) (fun b ob q=>#[ag,_,q]) (zww _) ?_,rfl,q _ (I.hok.fresh (zww _))⟩;exact⟨zw6 (B5 xs lo hi) hz,_,0,(r.drop (HT.sIx xs.length 0 lo)).take (HT.sIx xs.length xs.length hi-HT.sIx xs.length 0 lo),Heap.get?_push_size _ rfl⟩
def So:V->Bool
 | .non=>true
 | .bl _=>true
 | .int _=>true
 | .str _=>true
 | _=>false
def eqV:V->V->Bool
 | .non,.non=>true
 | .bl a,.bl b=>a == b
 | .bl a,.int b=>(if a then 1 else 0) == b
 | .int a,.bl b=>a == (if b then 1 else 0)
 | .int a,.int b=>a == b
 | .str a,.str b=>a == b
 | _,_=>false
theorem zj2(ry:RelV y u)(rx:RelV x v)(fy:So y=true)(fx:So x=true):SeqAt.EqAt A s u v (eqV y x):=by
 cases y with
 | non =>
   cases ry;cases x with
   | non=>cases rx;exact SeqAt.EqAt.same _
   | bl b=>cases rx;exact SeqAt.EqAt.none_bool b
   | int b=>obtain⟨t,rfl⟩:=rx;exact SeqAt.EqAt.none_int b t
   | str b=>obtain⟨t,rfl⟩:=rx;exact SeqAt.EqAt.none_str b t
   | _=>exact absurd (show false=true from fx) zw4
 | bl a =>
   cases ry;cases x with
   | non=>cases rx;exact SeqAt.EqAt.bool_none a
   | bl b=>cases rx;exact SeqAt.EqAt.bool_bool a b
   | int b=>obtain⟨t,rfl⟩:=rx;exact SeqAt.EqAt.bool_int a b t
   | str b=>obtain⟨t,rfl⟩:=rx;exact SeqAt.EqAt.bool_str a b t
   | _=>exact absurd (show false=true from fx) zw4
 | int a =>
   obtain⟨t',rfl⟩:=ry;cases x with
   | non=>cases rx;exact SeqAt.EqAt.int_none a t'
   | bl b=>cases rx;exact SeqAt.EqAt.int_bool a t' b
   | int b=>obtain⟨t,rfl⟩:=rx;exact SeqAt.EqAt.int_int a t' b t
   | str b=>obtain⟨t,rfl⟩:=rx;exact SeqAt.EqAt.int_str a t' b t
   | _=>exact absurd (show false=true from fx) zw4
 | str a =>
   obtain⟨t',rfl⟩:=ry;cases x with
   | non=>cases rx;exact SeqAt.EqAt.str_none a t'
   | bl b=>cases rx;exact SeqAt.EqAt.str_bool a t' b
   | int b=>obtain⟨t,rfl⟩:=rx;exact SeqAt.EqAt.str_int a t' b t
   | str b=>obtain⟨t,rfl⟩:=rx;exact SeqAt.EqAt.str_str a t' b t
   | _=>exact absurd (show false=true from fx) zw4
 | _=>exact absurd (show false=true from fy) zw4
def eqU(x:V)(u:Value):Bool:=match u with
 | .none=>eqV .non x
 | .bool b=>eqV (.bl b) x
 | .int i _=>eqV (.int i) x
 | .str z _=>eqV (.str z) x
 | _=>false
theorem zbf(r:RelV y u)(f:So y=true):eqU x u=eqV y x:=by
 cases y with
 | non=>cases r;rfl
 | bl b=>cases r;rfl
 | int i=>obtain⟨t,rfl⟩:=r;rfl
 | str z=>obtain⟨t,rfl⟩:=r;rfl
 | _=>exact absurd (show false=true from f) zw4
theorem Mj:∀ {xs:List V} {us:List Value},Vals xs us->xs.all So=true->us.any (eqU x)=xs.any fun y=>eqV y x
 | _,_,.nil,_=>rfl
 | y :: xs,u :: us,.cons r t,f=>by
   rw[List.all_cons,zyf] at f;rw[zyk,zyk,zbf r f.1,Mj t f.2]
theorem Rr(rx:RelV x v)(fx:So x=true):∀ {xs:List V} {us:List Value},Vals xs us->xs.all So=true->∀ u∈us,SeqAt.EqAt A s u v (eqU x u)
 | _,_,.nil,_=>fun u hu=>by cases hu
 | y :: xs,u :: us,.cons r t,f=>fun u' hu=>by
   rw[List.all_cons,zyf] at f;rcases zwr.mp hu with rfl|hu
   ·rw[zbf r f.1];exact zj2 r rx f.1 fx
   ·exact Rr rx fx t f.2 u' hu
def inV(x:V)(xs:#[a]):Bool:=xs.any fun y=>eqV y x
inductive rIn(K:Frag)(neg:Bool)(x:V)(y:V)(H:Hp)(Q:VK):Prop where
 | mk(p)(xs)(_:y=.ref p)(_:(SqL K H p xs\/SqT K H p xs))(_:So x=true)(_:xs.all So=true)(_:Q (.bl (if neg then !inV x xs else inV x xs)) H)
theorem zdq:OpR X (compareOp .In) (rIn X.K false):=by
 intro pins s σ H x y v u Q I rx ry h;obtain⟨p,xs,rfl,hq,fx,fs,q⟩:=h;cases ry;rcases hq with hq|hq
 ·obtain⟨its,r,pl,hz⟩:=I.list hq;refine SeqAt.in_listAt (eqU x) pl.isList (fun w hw=>Rr rx fx r fs w (by simpa using hw)) ⟨.bl _,H,I,rfl,?_⟩;rw[show its.toArray.any (eqU x)=its.any (eqU x) by simp,Mj r fs];exact q
 ·obtain⟨its,r,pl,hz⟩:=I.tuple hq;refine SeqAt.in_tupleAt (eqU x) pl (fun w hw=>Rr rx fx r fs w (by simpa using hw)) ⟨.bl _,H,I,rfl,?_⟩;rw[show its.toArray.any (eqU x)=its.any (eqU x) by simp,Mj r fs];exact q
theorem Cj:OpR X (compareOp .NotIn) (rIn X.K true):=by
 intro pins s σ H x y v u Q I rx ry h;obtain⟨p,xs,rfl,hq,fx,fs,q⟩:=h;cases ry;rcases hq with hq|hq
 ·obtain⟨its,r,pl,hz⟩:=I.list hq;refine SeqAt.notIn_listAt (eqU x) pl.isList (fun w hw=>Rr rx fx r fs w (by simpa using hw)) ⟨.bl _,H,I,rfl,?_⟩;rw[show its.toArray.any (eqU x)=its.any (eqU x) by simp,Mj r fs];exact q
 ·obtain⟨its,r,pl,hz⟩:=I.tuple hq;refine SeqAt.notIn_tupleAt (eqU x) pl (fun w hw=>Rr rx fx r fs w (by simpa using hw)) ⟨.bl _,H,I,rfl,?_⟩;rw[show its.toArray.any (eqU x)=its.any (eqU x) by simp,Mj r fs];exact q
theorem Ck:Vx X (.builtin "len") (fun xs H Q=>∃ p ys,xs=[.ref p]/\(SqL X.K H p ys\/SqT X.K H p ys)/\Q (.int ys.length) H):=by
 intro pins s σ H xs us Q I r h;obtain⟨p,ys,rfl,hq,q⟩:=h;obtain⟨u,rfl,rx⟩:=Qq r;cases rx;have hn:=Na;rcases hq with hq|hq
 ·obtain⟨its,r',pl,hz⟩:=I.list hq;have hlen:=r'.length;exact Calls.call_len_list pl.isList (by simp only[zw1]<;>omega) ⟨.int ys.length,H,I.tok _,⟨s.toks+1,by rw[zw1,hlen]⟩,q⟩
 ·obtain⟨its,r',pl,hz⟩:=I.tuple hq;have hlen:=r'.length;exact len_tuple pl (by simp only[zw1]<;>omega) ⟨.int ys.length,H,I.tok _,⟨s.toks+1,by rw[zw1,hlen]⟩,q⟩
theorem Cm:Vx X (.type "list") (fun xs H Q=>∃ p ys,xs=[.ref p]/\(SqL X.K H p ys\/SqT X.K H p ys)/\∀ l,H l=none->Q (.ref l) (upd H l (.lst ys))):=by
 intro pins s σ H xs us Q I r h;obtain⟨p,ys,rfl,hq,q⟩:=h;obtain⟨u,rfl,rx⟩:=Qq r;cases rx;have fin:∀ (its:#[R]),Vals ys its->ys.length<=sizeLine->∀ (h':Heap) (c':Nat),(∀ b o',#[O,b]=some o'->h'.get? b=some o') ->
   h'.get? s.heap.objs.size=some { cls:=.type "list",dict:=none,data:=.seq its.toArray c',slots:=#[] }->EP X pins σ Q (.ref s.heap.objs.size) { s with heap:=h' }:=fun its r' hz h' c' kp e =>
  ⟨.ref s.heap.objs.size,_,I.laid (t':=s.toks) kp (zww _) (show Y9 X.prog X.w _ h' _ (.lst ys) from⟨hz,its,c',r',e⟩),rfl,q _ (I.hok.fresh (zww _))⟩
 rcases hq with hq|hq
 ·obtain⟨its,r',pl,hz⟩:=I.list hq;have hlen:=r'.length;obtain⟨o,ho,hc,n,hd⟩:=pl.isList;exact call_list_seq p (.inl rfl) ho hc hd (fun h' c' kp e=>fin its r' hz h' c' kp e) (by simp only[zw1]<;>omega)
 ·obtain⟨its,r',pl,hz⟩:=I.tuple hq;have hlen:=r'.length;obtain⟨o,ho,hc,n,hd⟩:=pl;exact call_list_seq p (.inr rfl) ho hc hd (fun h' c' kp e=>fin its r' hz h' c' kp e) (by simp only[zw1]<;>omega)
theorem Fy:Vx X (.type "tuple") (fun xs H Q=>∃ p ys,xs=[.ref p]/\((SqL X.K H p ys/\∀ l,H l=none->Q (.ref l) (upd H l (.tup ys)))\/(SqT X.K H p ys/\Q (.ref p) H))):=by
 intro pins s σ H xs us Q I r h;obtain⟨p,ys,rfl,h⟩:=h;obtain⟨u,rfl,rx⟩:=Qq r;cases rx;rcases h with ⟨hq,q⟩|⟨hq,q⟩
 ·obtain⟨its,r',pl,hz⟩:=I.list hq;have hlen:=r'.length;refine call_tuple_list pl.isList (fun h' kp=>?_) (by simp only[zw1]<;>omega);have I1:#[J,H,{ s with heap:=h' }]:=I.kept (t':=s.toks) kp;have I2:#[J,upd H h'.objs.size (.tup ys),{ s with heap:=h'.push { cls:=.type "tuple",data:=.seq its.toArray } }] :=
   I1.laid (t':=s.toks) (fun b o e=>#[ag,_,e]) (zww _) (show Y9 X.prog X.w _ _ _ (.tup ys) from⟨hz,its,r',IsTup.new _ _⟩)
  exact⟨.ref h'.objs.size,_,I2,rfl,q _ (I1.hok.fresh (zww _))⟩
 ·obtain⟨its,r',pl,hz⟩:=I.tuple hq;exact call_tuple_same pl ⟨.ref p,H,I,rfl,q⟩
def tyV(K:Frag)(T:String)(x:V)(H:Hp):Prop:=match x with
 | .str _=>T="str"
 | .int _=>T="int"
 | .ref p=>(T="list"/\∃ xs,SqL K H p xs)\/(T="tuple"/\∃ o,K.lookup p=#[d]/\o.cls=.type "tuple"/\o.dict=none) \/
   (T="dict"/\((∃ kvs,H p=#[b,.dK,kvs])\/∃ kvs,H p=#[b,.dT,kvs]))\/(T="set"/\∃ S n,H p=some (.set S n))
 | _=>False
theorem zbg(I:#[j])(r:RelV x v)(ty:tyV X.K T x H) :
  s.TypeIs v T/\∀ a,v=.ref a->∃ ob,#[O,a]=some ob/\ob.dict=none:=by
 cases x with
 | str z =>
   obtain⟨t,rfl⟩:=r;cases (show T="str" from ty);exact⟨typeIs_str s z t,fun _ e=>nomatch e⟩
 | int i =>
   obtain⟨t,rfl⟩:=r;cases (show T="int" from ty);exact⟨typeIs_int s i t,fun _ e=>nomatch e⟩
 | ref p =>
   cases r;rcases ty with ⟨rfl,xs,hq⟩|⟨rfl,o,hk,hc,hd⟩|⟨rfl,hk⟩|⟨rfl,S,n,hk⟩
   ·obtain⟨its,_,pl,_⟩:=I.list hq;refine⟨pl.isList.typeIs,fun a e=>?_⟩;cases e;obtain⟨o,n,e,c,hd,_⟩:=pl;exact⟨o,e,hd⟩
   ·refine⟨⟨o,I.kIn p o hk,hc⟩,fun a e=>?_⟩;cases e;exact⟨o,I.kIn _ o hk,hd⟩
   ·have z:∃ o,#[O,p]=#[d]/\o.ExactDict:=by
     rcases hk with ⟨kvs,hk⟩|⟨kvs,hk⟩
     ·obtain⟨_,_,_,_,o,_,_,e,ex,_⟩:=I.hok p _ hk;exact⟨o,e,ex⟩
     ·obtain⟨_,_,_,_,o,_,_,e,ex,_⟩:=I.hok p _ hk;exact⟨o,e,ex⟩
    obtain⟨o,e,ex⟩:=z;refine⟨⟨o,e,ex.1⟩,fun a e2=>?_⟩;cases e2;exact⟨o,e,ex.2.1⟩
   ·obtain⟨o,_,_,_,e,ex,_⟩:=I.hok p _ hk;refine⟨⟨o,e,ex.1⟩,fun a e2=>?_⟩;cases e2;exact⟨o,e,ex.2.1⟩
 | _=>exact False.elim ty
inductive zlt(K:Frag)(T:String)(r:V->#[a]->Hp->VK->Prop)(Q:VK)(x:V)(H1:Hp):Prop where
 | mk(_:tyV K T x H1)(_:r x [] H1 Q)
def zmo(K:Frag)(T:String)(r:V->#[a]->Hp->VK->Prop)(to:TE):TE:=fun σ H Q=>to σ H fun x H1=>zlt K T r Q x H1
inductive zmp(K:Frag)(T:String)(r:V->#[a]->Hp->VK->Prop)(t:TA)(σ:L2.St)(Q:VK)(x:V)(H1:Hp):Prop where
 | mk(_:tyV K T x H1)(_:t σ H1 fun xs H2=>r x xs H2 Q)
def tBM(K:Frag)(T:String)(r:V->#[a]->Hp->VK->Prop)(to:TE)(t:TA):TE:=fun σ H Q=>to σ H fun x H1=>zmp K T r t σ Q x H1
variable{o e:Expr}{es:List Expr}{to:TE}{t:TA}{name:Str}{apos cpos:Pos}{T id:String}{r:V->#[a]->Hp->VK->Prop}
theorem zfw(pa:PlainAttrs T)(slot:Slot T name id)(hty:typeOf (.builtin id)=pure (.type "method_descriptor"))(hm:MtR X id r)(ho:PE X o to)
  (hbase:attributeBase o name X.env #[F,o]=eval o X.env:=by rfl) (hline:(apos.endLine == cpos.line)=true:=by rfl):PE X (.Call (.Attribute o name apos) [] [] cpos) (zmo X.K T r to):=by
 intro pins s σ H Q I h;refine wpAny_Call_method0_late hbase hline (thn (ho pins s σ H _ I h) fun v s1 ⟨x,H1,I1,r1,ty,q1⟩=>?_);obtain⟨h1,h2⟩:=zbg I1 r1 ty;exact⟨T,id,pa,slot,hty,h1,h2,Calls.callWith_builtin rfl (PySem.evalArgs_none (hm pins s1 σ H1 x [] v [] Q I1 r1 .nil q1))⟩
theorem zi6(pa:PlainAttrs T)(slot:Slot T name id)(hty:typeOf (.builtin id)=pure (.type "method_descriptor"))(hm:MtR X id r)(ho:PE X o to)(ha:PA X (e :: es) t)
  (hbase:attributeBase o name X.env #[F,o]=eval o X.env:=by rfl)
  (hfew:((backTo cpos (starEach (e :: es) X.env)).all (fun x=>!x.1)&&(backToKw cpos (keywordEach [] X.env)).all (fun x=>x.1.isSome)
   && decide ((e :: es).length+([]:List Keyword).length+(if ([]:List Keyword).isEmpty then 0 else 1)<30))=true:=by rfl)
  (hline:(apos.endLine == cpos.line)=true:=by rfl) (hs:starEach (e :: es) X.env=(false,#[F,e]) :: starEach es X.env:=by rfl) (hplain:(backTo cpos (starEach es X.env)).any (·.1)=false:=by rfl) :
  PE X (.Call (.Attribute o name apos) (e :: es) [] cpos) (tBM X.K T r to t):=by
 intro pins s σ H Q I h;refine wpAny_Call_method_late hbase hfew hline rfl (thn (ho pins s σ H _ I h) fun v s1 ⟨x,H1,I1,r1,ty,q1⟩=>?_);obtain⟨h1,h2⟩:=zbg I1 r1 ty;refine⟨T,id,pa,slot,hty,h1,h2,?_⟩;have hA:=ha cpos pins s1 σ H1 _ I1 q1;rw[hs] at hA ⊢;refine Calls.callWith_builtin (by show (false||(backTo cpos (starEach es X.env)).any (·.1))=false;rw[hplain]<;>rfl) (Calls.evalArgs_plain ?_);exact thn hA fun us s2 ⟨vs,H2,I2,r2,q2⟩=>hm pins s2 σ H2 x vs v us Q I2 r1 r2 q2
end
def MtM(X:Cx)(id:String)(r:V->#[a]->Hp->VK->Prop):Prop :=
 ∀ (pins:#[z]) (s:Shared) (σ:St) (H:Hp) (x:V) (xs:#[a]) (v:Value) (us:#[R]) (Q:VK),#[j]->RelV x v->Vals xs us->r x xs H Q ->
   wpAny (model X.prog X.w) X.A (call (.builtin id) (v :: us)) (EP X pins σ Q) X.xe s
theorem Vals.one:∀ {x:V} {us:List Value},Vals [x] us->∃ u,us=[u]/\RelV x u
 | _,_,.cons r .nil=>#[w,_,r]
theorem Vals.zero:∀ {us:List Value},Vals [] us->us=[]
 | _,.nil=>rfl
theorem Vals.dropLast(h:Vals xs us):Vals xs.dropLast us.dropLast:=by
 induction h with
 | nil=>exact .nil
 | cons r t ih =>
   cases t with
   | nil=>exact .nil
   | cons q t'=>exact .cons r ih
theorem Vals.reverse(h:Vals xs us):Vals xs.reverse us.reverse:=by
 induction h with
 | nil=>exact .nil
 | cons r t ih=>rw[zyl,zyl];exact Vals.append ih (.cons r .nil)
theorem Vals.rep(h:Vals xs us):∀ k:Nat,Vals (List.replicate k xs).flatten (List.replicate k us).flatten
 | 0=>.nil
 | k+1=>by
   rw[zx1,zx1,zyc,zyc];exact Vals.append h (Vals.rep h k)
theorem zbh(l:List α):l.eraseIdx (l.length-1)=l.dropLast:=by
 induction l with
 | nil=>rfl
 | cons a r ih =>
   cases r with
   | nil=>rfl
   | cons b r =>
     have e:(a :: b :: r).length-1=((b :: r).length-1)+1:=by
      have h1:(a :: b :: r).length=r.length+2:=rfl;have h2:(b :: r).length=r.length+1:=rfl;omega
     rw[e,List.eraseIdx_cons_succ,ih]
     all_goals rfl
theorem E9(its:#[R]):∀ (k:Nat) (acc:#[R]),
  List.foldl (fun x1 x2=>x1++x2) acc.toArray (List.replicate k its.toArray)=(acc++(List.replicate k its).flatten).toArray
 | 0,acc=>by simp
 | k+1,acc=>by
   have e:acc.toArray++its.toArray=(acc++its).toArray:=by simp
   have e2:(acc++its)++(List.replicate k its).flatten=acc++(List.replicate (k+1) its).flatten:=by
    rw[zx1,zyc,zx9]
   rw[<- e2,<- E9 its k (acc++its),<- e,zx1,List.foldl_cons]
section
variable{X:Cx}{pins:#[z]}{σ:St}{H:Hp}{s:Shared}{l b:Addr}{xs ys zs:#[a]}
theorem Inv.lset{its its':#[R]}{n:Nat}{f:Array Value->Array Value}{t':Nat}(I:#[j])(hH:#[A,H,l,xs])
  (e:s.heap.get? l=some { cls:=.type "list",data:=.seq its.toArray n }) (hf:f its.toArray=its'.toArray) (hv:Vals ys its') (hz:ys.length<=sizeLine) :
  Inv X pins σ (upd H l (.lst ys)) { s with heap:=s.heap.update l (Obj.mapSeq f),toks:=t' }:=by
 have q:=PySem.IsL.update e f;rw[hf] at q;refine I.write (x:=l) (e:=l) (by rw[hH];exact trivial) (.inl rfl) (fun b' u hb hu=>(Heap.get?_update_other s.heap (Obj.mapSeq f) (Ne.symm hb)).trans hu) ⟨_,q⟩ ?_;exact⟨hz,its',_,hv,q⟩
theorem Inv.lnew(I:#[j])(hv:Vals ys its)(hz:ys.length<=sizeLine) :
  Inv X pins σ (upd H s.heap.objs.size (.lst ys)) { s with heap:=s.heap.push { cls:=.type "list",data:=.seq its.toArray },toks:=t' } :=
 I.laid (fun _ _ q=>#[ag,_,q]) (zww _) ⟨hz,its,0,hv,Heap.get?_push_size _ rfl⟩
theorem Inv.fresh(I:#[j]):H s.heap.objs.size=none:=I.hok.fresh (zww _)
theorem Inv.lstM(I:#[j])(hH:#[A,H,l,xs]):xs.length<=sizeLine/\∃ (its:List Value) (n:Nat),Vals xs its/\xs.length=its.length/\#[O,l]=some { cls:=.type "list",data:=.seq its.toArray n }:=by
 obtain⟨z,its,n,r,e⟩:=I.hok l _ hH;exact⟨z,its,n,r,r.length,e⟩
theorem zfx(h:n<=sizeLine):Builtin.List.listTooLong n=false:=by
 unfold Builtin.List.listTooLong;exact zwx ⋯
end
section
variable{X:Cx}
inductive zh4(x:V)(vs:#[a])(H:Hp)(Q:VK):Prop where
 | mk(l)(xs)(y)(_:x=.ref l)(_:vs=[y])(_:#[A,H,l,xs])(_:xs.length<sizeLine)(_:Q .non (upd H l (.lst (xs++[y]))))
theorem zdr:MtM X "list.append" zh4:=by
 intro pins s σ H x vs v us Q I rx rv h;obtain⟨l,xs,y,rfl,rfl,hH,hz,q⟩:=h;cases rx;obtain⟨u,rfl,ru⟩:=rv.one;obtain⟨z,its,n,r,hl,e⟩:=I.lstM hH;refine call_meets F.slot_list_append ⟨_,e,rfl⟩ F.entry_list_append (F.args_list_append_2 _ _) (PySem.list_append l its.toArray n u (by rw[zw1];omega)) ⟨e,?_⟩;refine⟨.non,_,I.lset (its':=its++[u]) hH e (by simp) (r.append (.cons ru .nil)) ?_,rfl,q⟩;rw[zwp,List.length_singleton];omega
inductive zmq(x:V)(vs:#[a])(H:Hp)(Q:VK):Prop where
 | mk(l)(xs)(y)(_:x=.ref l)(_:vs=[])(_:#[A,H,l,xs])(_:xs[xs.length-1]?=some y)(_:Q y (upd H l (.lst xs.dropLast)))
theorem zj3:MtM X "list.pop" zmq:=by
 intro pins s σ H x vs v us Q I rx rv h;obtain⟨l,xs,y,rfl,rfl,hH,hy,q⟩:=h;cases rx;have hus:=rv.zero;subst hus;obtain⟨z,its,n,r,hl,e⟩:=I.lstM hH;obtain⟨u,hu,ru⟩:=r.get hy;have hy':its.toArray[its.toArray.size-1]?=some u:=by
  show its.toArray[its.length-1]?=some u;rw[<- Array.getElem?_toList,<- hl];exact hu
 refine call_meets F.slot_list_pop ⟨_,e,rfl⟩ F.entry_list_pop (F.args_list_pop_1 _) (MeetsSeq.list_pop_last l its.toArray n u hy' (by rw[zw1];omega)) ⟨e,?_⟩;refine⟨y,_,I.lset (its':=its.dropLast) hH e ?_ r.dropLast ?_,ru,q⟩
 ·show its.toArray.eraseIdxIfInBounds (its.toArray.size-1)=its.dropLast.toArray;rw[zw1,List.eraseIdxIfInBounds_toArray,zbh]
 ·rw[List.length_dropLast];omega
inductive zfy(x:V)(vs:#[a])(H:Hp)(Q:VK):Prop where
 | mk(l)(xs)(_:x=.ref l)(_:vs=[])(_:#[A,H,l,xs])(_:Q .non (upd H l (.lst xs.reverse)))
theorem zbi:MtM X "list.reverse" zfy:=by
 intro pins s σ H x vs v us Q I rx rv h;obtain⟨l,xs,rfl,rfl,hH,q⟩:=h;cases rx;have hus:=rv.zero;subst hus;obtain⟨z,its,n,r,hl,e⟩:=I.lstM hH;refine call_meets F.slot_list_reverse ⟨_,e,rfl⟩ F.entry_list_reverse (F.args_list_reverse_1 _) (AutoSeq1.list_reverse_list_0 l its.toArray n (by rw[zw1];omega)) ⟨e,?_⟩;refine⟨.non,_,I.lset (its':=its.reverse) hH e (by simp) r.reverse ?_,rfl,q⟩;rw[List.length_reverse];omega
inductive zj4(x:V)(y:V)(H:Hp)(Q:VK):Prop where
 | mk(l)(b)(xs)(zs)(_:x=.ref l)(_:y=.ref b)(_:#[A,H,l,xs])(_:#[A,H,b,zs])(_:xs.length+zs.length<=sizeLine)(_:∀ p,H p=none->Q (.ref p) (upd H p (.lst (xs++zs))))
theorem Vo:OpR X (binaryOp .Add) zj4:=by
 intro pins s σ H x y v u Q I rx ry h;obtain⟨l,b,xs,zs,rfl,rfl,hH,hB,hz,q⟩:=h;cases rx;cases ry;obtain⟨z,its,n,r,hl,e⟩:=I.lstM hH;obtain⟨z2,its2,n2,r2,hl2,e2⟩:=I.lstM hB;refine PySem.P.add_list e e2 ?_ (by rw[zw1,zw1];omega);have ea:its.toArray++its2.toArray=(its++its2).toArray:=by simp
 rw[ea];exact⟨.ref _,_,I.lnew (t':=s.toks) (r.append r2) (by rw[zwp];omega),rfl,q _ I.fresh⟩
inductive zmr(x:V)(y:V)(H:Hp)(Q:VK):Prop where
 | mk(l)(k)(xs)(_:x=.ref l)(_:y=.int k)(_:#[A,H,l,xs])(_:-(2 ^ 63)<=k)(_:k<2 ^ 63)(_:xs.length*k.toNat<=sizeLine)(_:∀ p,H p=none->Q (.ref p) (upd H p (.lst (List.replicate k.toNat xs).flatten)))
theorem zco(xs:List α)(k:Nat):(List.replicate k xs).flatten.length=k*xs.length:=by
 induction k with
 | zero=>simp
 | succ k ih=>rw[zx1,zyc,zwp,ih,Nat.succ_mul,Nat.add_comm]
theorem zj5:OpR X (binaryOp .Mult) zmr:=by
 intro pins s σ H x y v u Q I rx ry h;obtain⟨l,k,xs,rfl,rfl,hH,h1,h2,hz,q⟩:=h;cases rx;obtain⟨t,rfl⟩:=ry;obtain⟨z,its,n,r,hl,e⟩:=I.lstM hH;have hlen:its.toArray.size*k.toNat<=sizeLine:=by rw[zw1,<- hl];exact hz
 have hcap:¬ its.toArray.size*k.toNat>(2 ^ 63-1)/8:=by
  have:(sizeLine:Nat)<=(2 ^ 63-1)/8:=by decide
  omega
 have hfit:¬ (!Builtin.List.listFitsIndex k)=true:=by
  rw[fitsIndex_both h1 h2];exact zw4
 have hlong:¬ Builtin.List.listTooLong (its.toArray.size*k.toNat)=true:=by
  rw[zfx hlen];exact zw4
 have hnew:List.foldl (fun x1 x2=>x1++x2) #[] (List.replicate (if its.toArray.isEmpty=true then 0 else k.toNat) its.toArray)=(List.replicate k.toNat its).flatten.toArray:=by
  have f0:∀ m:Nat,List.foldl (fun x1 x2=>x1++x2) #[] (List.replicate m its.toArray)=(List.replicate m its).flatten.toArray:=fun m=>by
   have:=E9 its m [];rw[List.nil_append] at this;exact this
  rw[f0];cases its with
  | nil=>simp
  | cons a r'=>rw[#[c,(by simp)]]
 refine wpAny_binaryOp_repeat_ref (T:="list") (U:="int") ⋯ ⟨_,e,rfl⟩ (fun s'=>typeIs_int s' k t) noFill_list_mul F.fills_int_mul F.slot_int_rmul repeat_list F.slot_int_index.lookup
  (call_meets F.slot_int_rmul (typeIs_int s k t) F.entry_int_rmul (F.args_int_rmul_2 _ _) (int___rmul___int_list k t l its.toArray n)
   ⟨e,rfl,⟨_,e,rfl⟩,call_meets F.slot_list_mul ⟨_,e,rfl⟩ F.entry_list_mul (F.args_list_mul_2 _ _) (AutoListH.list___mul___list_int_3 l its.toArray n k t hfit hcap hlong) ⟨e,?_⟩⟩)
 rw[hnew];exact⟨.ref _,_,I.lnew (t':=s.toks) (r.rep k.toNat) (by rw[zco,Nat.mul_comm];exact hz),rfl,q _ I.fresh⟩
end
end L2
namespace Att
open PySem PySem.W PySem.Calls PyProof.Rows
theorem Ji:∀ (ns:List Int) (vs:List Value),WellAll P h vs (ns.map WData.int)->IntsAre vs ns:=by
 intro ns
 induction ns with
 | nil =>
   intro vs w;rw[zyt] at w;cases w;exact .nil
 | cons n ns ih =>
   intro vs w;rw[zwz] at w;cases w with
   | cons a b =>
     cases a;exact .cons _ _ (ih _ b)
theorem zds{l:OpenLaw}{n:Nat}(hn:l.most=some n){P:Params}{h:Heap}{args:List WData}{vals:#[R]}
  (hpre:l.row.toRowW.claim.pre args=true) (hwl:WellAll P h vals args) :
  ∃ a vs ns,vals=[Value.ref a]/\args=[WData.list (ns.map WData.int)]/\h.get? a=some { cls:=.type "list",data:=.seq vs.toArray }/\IntsAre vs ns/\ns.length<=n:=by
 have hsh:WShape.hasAll [] args [.list .int]=true:=(pre_splitW hpre).1;have hc:l.pre.holds [] { args:=args }=true:=(pre_splitW hpre).2;obtain⟨d,r,rfl,h1,h2⟩:=hasAllW_cons hsh;obtain rfl:=hasAllW_nil h2;obtain⟨xs,rfl,h3⟩:=hasW_list h1;obtain⟨ns,rfl⟩:=items_int h3;have hlen:ns.length<=n:=by
  unfold OpenLaw.pre at hc;have h4:(WTm.not (.lt (.lit (.int (n:Int))) (.len (.arg 0)))).holds [] { args:=[.list (ns.map .int)] }=true:=by
   have h4:=(holds_andW hc).1;rw[hn] at h4;exact h4
  have h5:=condW_of h4 (w_not (w_lt w_lit (w_len_list (w_arg rfl))));rw[zwm] at h5;refine Nat.le_of_not_lt fun q=>?_;have q':(n:Int)<((ns.length:Nat):Int):=by omega
  first
   | (rw[zws q'] at h5;exact absurd h5 ⋯)
   | (simp at h5;omega)
 cases hwl with
 | cons w1 w2 =>
   cases w2;cases w1 with
   | list ho hall=>exact⟨_,_,ns,rfl,rfl,ho,Ji ns _ hall,hlen⟩
theorem zdt(l:OpenLaw)(args:List WData):l.row.toRowW.claim.post args (.bool true) args=true :=
 postW_of (r:=l.row.toRowW) (X:=(true == true))
  (show WShape.has [] (.bool true) .bool=true by first|rfl|decide|simp[WShape.has,WShape.arms,WShape.armsAll])
  (show (WTm.eq .res (.lit (.bool true))).value [] { args:=args,res:=#[b,.bool,true],after:=args }=#[b,.bool,true == true] from w_eq_bool (w_res rfl) w_lit) rfl
theorem attach_call{l:OpenLaw}{n:Nat}{q:Program}{loose:#[D]}{XP:#[U]->Heap->Prop}{YP:World->Heap->Prop}{d:DefRec}
  (hn:l.most=some n) (hdf:d.params.defaults=[])
  (call:∀ (w:World) (s₀ s₁:Shared) (mg mb:#[U]) (fa:Addr) (o:Obj) (pm cd doc:Value) (a:Addr) (vs:#[R]) (ns:#[t]),
   Ground q loose [] XP w s₀ mg mb s₁.heap->YP w s₁.heap ->
   s₁.heap.get? fa=some o->o.data=.func (docDef d.name d.params d.body d.scope pm cd doc)->s₁.heap.CodeRec cd d.name->mg d.name=some (.ref fa) ->
   s₁.heap.get? a=some { cls:=.type "list",data:=.seq vs.toArray }->IntsAre vs ns->ns.length<=n->s₁.gens=#[] ->
   codeAny (model l.prog w) callerA (.call (.ref fa) ⟨[.ref a],[]⟩) (fun r s'=>r=.ok (.ret (.bool true))/\OldK s₁.heap s'.heap/\s'.os=s₁.os/\AllBare s'.gens) s₁) :
  WalkO q loose XP YP l.row.toRowW d [] (fun f vs=>PySem.call f vs):=by
 intro w s₀ s₁ mg mb G Y fa o pm cd doc dV kV ho hd hcd hD hmg hg args vals as hpre hlay hrd hwl hlo;obtain rfl:dV=.none:=Dflts.none hD hdf;obtain rfl:kV=.none:=Dflts.noKw hD;obtain⟨a,vs,ns,rfl,rfl,hobj,hints,hlen⟩:=zds hn hpre hwl;refine enter_call (codeAny_mono (call w s₀ s₁ mg mb fa o pm cd doc a vs ns G Y ho (fd_plain hd) hcd hmg hobj hints hlen hg) fun r s' hq=>?_);obtain⟨rfl,h2,h3,h4⟩:=hq;exact⟨.inl ⟨.bool true,.bool true,[],rfl,fun _=>rfl,.bool true,zdt l _,fun _=>⟨List.Pairwise.nil,fun _ hm=>(nomatch hm)⟩⟩,h2,h3,h4⟩
section
variable{prog:Program}{w:World}{A:Around}{E:Value->Shared->Prop}{s:Shared}{K:Frag}
def noObjs(h:Heap):Heap:={ h with objs:=#[] }
theorem noObjs_get(h:Heap)(b:Addr):(noObjs h).get? b=none:=by
 cases e:(noObjs h).get? b with
 | none=>rfl
 | some o=>exact absurd (Heap.lt_size e) (zyj _)
end
end Att
namespace L2
open PySem PySem.Spec PyProof.Rows
theorem Dc:∀ {vs:List Value} {ns:List Int},IntsAre vs ns->Vals (ns.map V.int) vs
 | _,_,.nil=>.nil
 | _,_,.cons n t h=>.cons #[y,t] (Dc h)
def zj6(H:Hp):Prop:=∀ b,H b=none\/∃ o xs,H b=some (.frz o (.lst xs))
theorem zfz{P:Program}{w:World}{K:Frag}{mg mb:#[U]}{CX:CXT}{k:Nat}{fa a:Addr}{fd:FuncData}{x:Str}{sp:Sp}{s₁:Shared}{vs:#[R]}{ns:#[t]}
  (KX:K.In s₁.heap) (hns:s₁.heap.Ns mainGlobals mg) (hb:s₁.heap.Ns builtinsNs mb) (hbb:∀ x:Str,x≠"__name__"->mb x=bootBuiltins x) (hlim:s₁.heap.NoLimit) (hg:s₁.gens=#[])
  (ha:s₁.heap.get? a=some { cls:=.type "list",data:=.seq vs.toArray }) (hi:IntsAre vs ns) (hl:ns.length<=sizeLine) (hr:Vj k callerA)
  (F:∀ base:Heap,K.In base->base.Ns mainGlobals mg->FnOk P w K mg base CX k fa fd [x] sp) (hbind:∀ (s:Shared) (u:Value),BindsTo s fd ⟨[u],[]⟩ [(x,u)])
  (hsp:∀ H:Hp,zj6 H->SqL K H a (ns.map V.int)->sp [.ref a] H (fun v _=>v=.bl true) fun _ _ _=>False)
  (hCX:∀ H e s',CX [] H s₁ (fun _ _ _=>False) e s'->False) :
  codeAny (model P w) callerA (.call (.ref fa) ⟨[.ref a],[]⟩) (fun r s'=>r=.ok (.ret (.bool true))/\OldK s₁.heap s'.heap/\s'.os=s₁.os/\AllBare s'.gens) s₁:=by
 have rv:=Dc hi;have lenV:=hi.length;have core:∀ H:Hp,zj6 H->SqL K H a (ns.map V.int)->HOk P w H s₁.heap->(∀ b,H b≠none->b=a)->(H a≠none->K.lookup a=none) ->
   codeAny (model P w) callerA (.call (.ref fa) ⟨[.ref a],[]⟩) (fun r s'=>r=.ok (.ret (.bool true))/\OldK s₁.heap s'.heap/\s'.os=s₁.os/\AllBare s'.gens) s₁:=by
  intro H hO hS hok hA hK;have base_of:∀ {b:Addr} {o:Obj},s₁.heap.get? b=#[d]->H b=none->(Ce s₁.heap H).get? b=#[d]:=fun e n=>ze9 e n;have noA:∀ {b:Addr} {o:Obj} {es:Array DictEntry} {ep:Nat},s₁.heap.get? b=#[d]->o.data=.dict es ep->H b=none:=fun {b o es ep} e d=>by
   cases q:H b with
   | none=>rfl
   | some u =>
     have e':b=a:=hA b (by rw[q];simp);subst e';rw[ha] at e;cases e;have d':Data.seq vs.toArray _=Data.dict es ep:=d;cases d'
  have nsK:∀ {b:Addr} {m:Str->Option Value},s₁.heap.Ns b m->(Ce s₁.heap H).Ns b m:=fun {b m} ⟨o,es,ep,e,d,r⟩=>⟨o,es,ep,base_of e (noA e d),d,r⟩
  have hKb:K.In (Ce s₁.heap H):=fun b o e=>base_of (KX b o e) (by
   cases q:H b with
   | none=>rfl
   | some u =>
     have e':b=a:=hA b (by rw[q];simp);subst e';rw[hK (by rw[q];simp)] at e;cases e)
  have hM:Mod K mg (Ce s₁.heap H):=⟨hKb,nsK hns,⟨mb,nsK hb,hbb⟩,let ⟨mc,h1,h2⟩:=hlim;⟨mc,nsK h1,h2⟩⟩;have e0:zba P w K mg (Ce s₁.heap H) callerA [] s₁ H:=⟨rfl,hM,fun b o e=>zhl e,Nat.le_of_eq (zdh _ _),trivial,fun b hb=>absurd (show b∈([]:List Addr) from hb) (by simp),hok,.of_eq hg⟩;refine codeAny_mono ((F _ hKb (nsK hns)).run callerA [] s₁ H ⟨[.ref a],[]⟩ [.ref a] [.ref a] _ _ hr e0 (hbind s₁ (.ref a)) (.cons rfl .nil) (hsp H hO hS)) fun r s' h=>?_;cases r with
  | error e=>exact(hCX H e s' h).elim
  | ok fl =>
    cases fl with
    | next=>exact False.elim h
    | brk=>exact False.elim h
    | cont=>exact False.elim h
    | ret u =>
      obtain⟨v,H',os,bare,un,hok',r',q⟩:=h;have q':v=.bl true:=q;subst q';obtain rfl:u=Value.bool true:=r';refine⟨rfl,OldK.of_keep fun b o e=>?_,os,bare⟩;cases q:H b with
      | none=>exact un.keep b o e q (by intro z;exact absurd (show b∈([]:List Addr) from z) (by simp)) (by simp)
      | some u =>
        rcases hO b with z|⟨ob,xs,z⟩
        ·rw[q] at z;cases z
        ·have z2:=un.frzs b ob _ z;obtain⟨e1,_⟩:=hok b _ z;obtain⟨e2,_⟩:=hok' b _ z2;rw[e] at e1;cases e1;exact e2
 cases hk:K.lookup a with
 | some o =>
   have e:=KX a o hk;rw[ha] at e;cases e;refine core (fun _=>none) (fun _=>.inl rfl) (.inr ⟨_,vs.toArray,_,hk,rfl,rfl,rfl,by rw[zw1,lenV];exact hl,by simpa using rv⟩) (fun b u z=>by have z':(none:Option HO)=some u:=z;cases z') (fun b z=>absurd rfl z) fun z=>absurd rfl z
 | none =>
   refine core (fun b=>if b=a then some (.frz { cls:=.type "list",data:=.seq vs.toArray } #[i,ns.map,V.int]) else none) (fun b=>?_) (.inl (.inr ⟨{ cls:=.type "list",data:=.seq vs.toArray },#[f,rfl]⟩)) (fun b u z=>?_) (fun b z=>?_) fun _=>hk
   ·by_cases hb:b=a
    ·exact .inr ⟨_,_,#[f,hb]⟩
    ·exact .inl (if_neg hb)
   ·by_cases hb:b=a
    ·have z':=(if_pos hb).symm.trans z;cases z';subst hb;exact⟨ha,by rw[zwm];exact hl,vs,_,rv,ha⟩
    ·have z':=(if_neg hb).symm.trans z;cases z'
   ·by_cases hb:b=a
    ·exact hb
    ·exact absurd (if_neg hb) z
theorem zh5{l:PySem.W.OpenLaw}{n k:Nat}{q:Program}{loose:#[D]}{XP:#[U]->Heap->Prop}{YP:World->Heap->Prop}{d:DefRec}{K:Params->Frag}{CX:World->CXT}{sp:World->Sp}{x:Str}
  (hn:l.most=some n) (hn2:n<=sizeLine) (hdf:d.params.defaults=[]) (hr:Vj k callerA)
  (hY:∀ (w:World) (h:Heap),YP w h->(K w.params).In h)
  (F:∀ (w:World) (mg:#[U]) (fa:Addr) (h:Heap),(K w.params).In h->h.Ns mainGlobals mg->mg d.name=#[e,fa] ->
   ∃ fd:FuncData,(∀ (s:Shared) (u:Value),BindsTo s fd ⟨[u],[]⟩ [(x,u)]) /\
     ∀ base:Heap,(K w.params).In base->base.Ns mainGlobals mg->FnOk l.prog w (K w.params) mg base (CX w) k fa fd [x] (sp w))
  (hsp:∀ (w:World) (H:Hp) (a:Addr) (ns:#[t]),ns.length<=n->zj6 H->SqL (K w.params) H a (ns.map V.int)->sp w [.ref a] H (fun v _=>v=.bl true) fun _ _ _=>False)
  (hCX:∀ (w:World) (H:Hp) (s:Shared) (e:Value) (s':Shared),CX w [] H s (fun _ _ _=>False) e s'->False) :
  PySem.W.WalkO q loose XP YP l.row.toRowW d [] (fun f vs=>PySem.call f vs):=by
 refine Att.attach_call hn hdf fun w s₀ s₁ mg mb fa o pm cd doc a vs ns G Y ho hd hcd hmg hobj hints hlen hg=>?_;have KX:=hY w _ Y;obtain⟨fd,hb,hF⟩:=F w mg fa _ KX G.T.g hmg;exact zfz KX G.T.g G.T.b G.T.builtins G.T.nolimit hg hobj hints (zw6 hlen hn2) hr hF hb (fun H hO hS=>hsp w H a ns hlen hO hS) fun H e s'=>hCX w H s₁ e s'
def Z5(s:Stmt)(j:Nat):Stmt:=match s with
 | .ClassDef _ _ _ body _ _ _ _ _ _ _=>body.getD j (.Pass ⟨0,0,0,0⟩)
 | _=>.Pass ⟨0,0,0,0⟩
def Sr(s:Stmt):Arguments:=match s with
 | .FunctionDef _ a _ _ _ _ _ _ _ _=>a
 | _=>{ posonlyargs:=[],args:=[],vararg:=none,kwonlyargs:=[],kw_defaults:=[],kwarg:=none,defaults:=[] }
def Zx(s:Stmt):List Stmt:=match s with
 | .FunctionDef _ _ b _ _ _ _ _ _ _=>b
 | _=>[]
def Zj(s:Stmt):Scope:=match s with
 | .FunctionDef _ _ _ _ _ _ sc _ _ _=>sc
 | _=>{ kind:=.function,names:=[],isGenerator:=false,isCoroutine:=false }
abbrev E0:XK:=fun _ _ _=>False
structure Fun(K:Frag)(x qual:Str)(st:Stmt)(f:Addr)(fd:FuncData):Prop where
 ex:∃ (oc:Value) (od:Option Addr) (kV doc pm:Value) (an:Option Addr) (cdv ct:Value) (osl:Array (Option Value)),
  fd=PySem.W.fnOf x qual (Sr st) (Zx st) (Zj st) .none kV doc pm an cdv ct/\K.lookup f=some ⟨oc,od,.func fd,osl⟩/\PySem.W.codeIn K cdv qual=true
 kp:PySem.W.keepIn K (.ref f)=true
section
variable{P:Program}{w:World}{K:Frag}{mg:#[U]}{base:Heap}
theorem Fun.binds{x qual:Str}{st:Stmt}{f:Addr}{fd:FuncData}{ps:#[D]}(F:#[l,x,qual,st])
  (h:∀ (kV doc pm:Value) (an:Option Addr) (cdv ct:Value) (us:List Value),us.length=ps.length->bindArgs (PySem.W.fnOf x qual (Sr st) (Zx st) (Zj st) .none kV doc pm an cdv ct) ⟨us,[]⟩=pure (ps.zip us)):Rp K fd ps []:=by
 obtain⟨oc,od,kV,doc,pm,an,cdv,ct,osl,rfl,lk,hcd⟩:=F.ex;exact .all (h kV doc pm an cdv ct)
theorem Nf{x qual:Str}{st:Stmt}{f:Addr}{oc:Value}{od an:Option Addr}{osl:Array (Option Value)}{kV doc pm cdv ct:Value}(l:K.lookup f=some ⟨oc,od,.func (PySem.W.fnOf x qual (Sr st) (Zx st) (Zj st) .none kV doc pm an cdv ct),osl⟩)
  (c:PySem.W.codeIn K cdv qual=true) (k:PySem.W.keepIn K (.ref f)=true):Fun K x qual st f (PySem.W.fnOf x qual (Sr st) (Zx st) (Zj st) .none kV doc pm an cdv ct):=⟨⟨oc,od,kV,doc,pm,an,cdv,ct,osl,rfl,l,c⟩,k⟩
end
theorem Xu(hr:Vj k A):A.units+1<cLine:=zx5 (Nat.add_le_add_left (by decide:1<=64) _) hr.units
theorem Rt(h:n<=1000):n<sizeLine:=zx5 h ⋯
section
variable{X:Cx}
theorem pv(i:Nat)(hN:X.N[i]?=some x:=by rfl)(hv:Vis X.env.scope x:=by first|exact Or.inl rfl|exact Or.inr (Or.inl rfl)|exact Or.inr (Or.inr rfl))(hd:(x == ("__debug__":Str))=false:=by decide)
  (hcd:(x == ("__classdict__":Str))=false:=by decide):PE X (.Name x pos) (tVar i):=zjf hN hv hd hcd
theorem zdu:Vx X (.builtin "len") (fun xs H Q=>∃ a kvs,xs=[V.ref a]/\H a=#[b,.dK,kvs]/\Q (.int kvs.length) H):=by
 intro pins s σ H xs us Q I r h;obtain⟨a,kvs,rfl,ha,q⟩:=h;obtain⟨u,rfl,ru⟩:=Qq r;cases ru;exact zln I (.inl ha) fun t s' I'=>⟨.int kvs.length,H,I',#[y,t],q⟩
end
theorem iteF{A B:Prop}(h:B):if false=true then A else B:=by
 rw[#[c,zw4]];exact h
theorem iteT{A B:Prop}(h:A):if true=true then A else B:=by
 rw[#[f,rfl]];exact h
theorem Cn{c A B:Prop}[Decidable c](h1:c->A)(h2:¬ c->B):if c then A else B:=by
 by_cases h:c
 ·rw[#[f,h]];exact h1 h
 ·rw[#[c,h]];exact h2 h
def Same(H H':Hp):Prop:=∀ b o,H b=#[d]->H' b=#[d]
theorem Same.refl(H:Hp):Same H H:=fun _ _ h=>h
theorem Same.trans(a:Same H H1)(b:Same H1 H2):Same H H2:=fun c o h=>b c o (a c o h)
theorem Same.free(e:#[v])(h:H' l=Option.none):H l=Option.none:=by
 cases q:H l with
 | none=>rfl
 | some o =>
   rw[e l o q] at h;cases h
theorem Same.seq{K:Frag}{H H':Hp}{a:Addr}{xs:#[a]}(e:#[v])(h:SqL K H a xs):SqL K H' a xs:=by
 rcases h with (h|⟨o,h⟩)|h
 ·exact .inl (.inl (e _ _ h))
 ·exact .inl (.inr ⟨o,e _ _ h⟩)
 ·exact .inr h
section
variable{κ:Type}[DecidableEq κ]
theorem Co:∀ {l:List κ} {k:κ},l.Nodup->¬ k∈l->(l++[k]).Nodup
 | [],k,_,_=>by simp
 | a :: r,k,h,hk=>by
   obtain⟨h1,h2⟩:=zxe.mp h;show (a :: (r++[k])).Nodup;refine zxe.mpr ⟨fun m=>?_,Co h2 fun m=>hk (zwr.mpr (Or.inr m))⟩;rcases zwy.mp m with q|q
   ·exact h1 q
   ·exact hk (zwr.mpr (Or.inl (zwt.mp q).symm))
theorem zdv{p:κ×V}{r:List (κ×V)}{k:κ}(e:p.1=k):We (p :: r) k=We r k:=by
 unfold We;rw[zx7,#[c,(by simp[e])]]
theorem zdw{p:κ×V}{r:List (κ×V)}{k:κ}(e:¬ p.1=k):We (p :: r) k=p :: We r k:=by
 unfold We;rw[zx7,#[f,(by simp[e])]]
end
section
variable{X:Cx}{pins:#[z]}{σ:List (Option V)}{H H':Hp}{s:Shared}{h':Heap}
theorem Inv.stepN{g':Array GenState}{t':Nat}{d':Drawn}{ch:#[B]}(I:#[j])
  (hch:#[aD,b])
  (keep:∀ b o,b≠X.env.locals->b∉X.fs->b∉ch->#[O,b]=#[d]->H b=none->h'.get? b=#[d])
  (slot:∀ b o,b≠X.env.locals->b∈X.fs->b∉ch->#[O,b]=#[d]->H b=none->∃ sl,h'.get? b=some { o with slots:=sl }) (free:∀ b o,b∉ch->#[O,b]=#[d]->H b=none->H' b=none)
  (there:∀ b o,b∉ch->#[O,b]=#[d]->∃ o',h'.get? b=some o')
  (tups:∀ b xs,H b=#[E,xs]->H' b=#[E,xs]) (frzs:∀ b o u,H b=some (.frz o u)->H' b=some (.frz o u)) (tbls:∀ b ps,H b=#[b,.tbl,ps]->∃ more,H' b=#[b,.tbl,ps++more])
  (ns:∀ m,s.heap.Ns X.env.locals m->h'.Ns X.env.locals m) (hok:HOk X.prog X.w H' h') (hg:AllBare g') :
  Inv X pins σ H' { s with heap:=h',gens:=g',drawn:=d',toks:=t' }:=by
 have neL:∀ b o,X.s₀.heap.get? b=#[d]->b≠X.env.locals:=fun b o e=>zxd (zw5 (Heap.lt_size e) I.ok.above);have neC:∀ b o,X.s₀.heap.get? b=#[d]->b∉X.ex->b∉ch:=fun b o e hx hb=>by
  rcases(hch b hb).1 with z|z
  ·exact hx z
  ·rw[z] at e;cases e
 have cellK:∀ x c,#[V,x]=some c->∀ v,s.heap.IsCell c v->h'.IsCell c v:=fun x c e v ⟨o,ho,hd⟩=>by
  have nch:c∉ch:=fun z=>(hch c z).2.2.1 x c e rfl;by_cases hc:c∈X.fs
  ·obtain⟨sl,q⟩:=slot c o (I.cne x c e) hc nch ho (I.freeC x c e);exact⟨_,q,hd⟩
  ·exact⟨o,keep c o (I.cne x c e) hc nch ho (I.freeC x c e),hd⟩
 refine⟨I.ok,I.os,hg,⟨fun b o e n hb hx=>?_,fun b o e n hb hx=>?_,fun b o e n hx=>?_,fun b o e hx=>?_,fun b xs e=>tups b xs (I.base.tups b xs e),fun b o xs e=>frzs b o xs (I.base.frzs b o xs e),fun b ps e=>?_⟩,?_,fun x c e=>?_,?_,fun x c e=>?_,fun p hp=>?_,hok,I.len⟩
 ·exact keep b o (neL b o e) hb (neC b o e hx) (I.base.keep b o e n hb hx) (I.base.free b o e n hx)
 ·obtain⟨sl,e1⟩:=I.base.slot b o e n hb hx;obtain⟨sl',e2⟩:=slot b _ (neL b o e) hb (neC b o e hx) e1 (I.base.free b o e n hx);exact⟨sl',e2⟩
 ·obtain⟨o',e1⟩:=I.base.there b o e hx;exact free b o' (neC b o e hx) e1 (I.base.free b o e n hx)
 ·obtain⟨o',e1⟩:=I.base.there b o e hx;exact there b o' (neC b o e hx) e1
 ·obtain⟨m1,e1⟩:=I.base.tbls b ps e;obtain⟨m2,e2⟩:=tbls b _ e1;exact⟨m1++m2,by rw[e2,Array.append_assoc]⟩
 ·obtain⟨m,hn,hl⟩:=I.loc;refine⟨m,ns m hn,fun i x v e1 e2 e3=>?_⟩;obtain⟨u,r,l⟩:=hl i x v e1 e2 e3;refine⟨u,r,?_⟩;rcases l with l|⟨k,c,e,z⟩
  ·exact .inl l
  ·exact .inr ⟨k,c,e,cellK x c e _ z⟩
 ·obtain⟨v,z⟩:=I.cell x c e;exact⟨v,cellK x c e v z⟩
 ·obtain⟨m,⟨o,_,_,ho,_⟩,_⟩:=I.loc;exact free _ o (fun z=>(hch _ z).2.1 rfl) ho I.free
 ·obtain⟨v,o,ho,hd⟩:=I.cell x c e;exact free c o (fun z=>(hch c z).2.2.1 x c e rfl) ho (I.freeC x c e)
 ·obtain⟨e,n,ne,nf,d⟩:=I.pin p hp;have nch:p.1∉ch:=fun z=>(hch p.1 z).2.2.2 p hp rfl;exact⟨keep p.1 p.2 ne nf nch e n,free p.1 p.2 nch e n,ne,nf,d⟩
theorem Inv.callN{g':Array GenState}{t':Nat}{d':Drawn}{ch:#[B]}(I:#[j])(u:Un (frs X.stack) ch H H' s.heap h')(hok:HOk X.prog X.w H' h')(hg:AllBare g')
  (hch:#[aD,b]) :
  Inv X pins σ H' { s with heap:=h',gens:=g',drawn:=d',toks:=t' }:=by
 obtain⟨m,⟨o,es,ep,ho,r⟩,_⟩:=id I.loc;obtain⟨sl,hL⟩:=u.any ho I.free fun z=>(hch _ z).2.1 rfl;exact I.stepN (ch:=ch) hch (fun b o hL hb hc e n=>u.keep b o e n (fun z=>(zwr.mp (I.stkSub b z)).elim hL hb) hc) (fun b o _ _ hc e n=>u.any e n hc) (fun b o hc e n=>u.free b o e n hc) (fun b o hc e=>u.there b o e hc) u.tups u.frzs u.tbls (fun m' hm=>by
  obtain⟨o',es',ep',ho',r'⟩:=hm;rw[ho] at ho';cases ho';exact⟨_,es',ep',hL,r'⟩) hok hg
theorem Inv.callN'(I:#[j])(ho:s'.os=s.os)(u:Un (frs X.stack) ch H H' s.heap s'.heap)(hok:HOk X.prog X.w H' s'.heap)(hg:AllBare s'.gens)
  (hch:#[aD,b]):#[J,H',s']:=by
 obtain⟨h',g',d',t',o'⟩:=s';have e:o'=s.os:=ho;subst e;exact I.callN (g':=g') (t':=t') (d':=d') u hok hg hch
end
section
variable{P:Program}{w:World}{H H':Hp}{h h' g:Heap}{a:Addr}{o:HO}
theorem Y9.there(x:Y9 P w H h a o):∃ ob,h.get? a=some ob:=by
 cases o with
 | lst xs=>obtain⟨_,_,_,_,e⟩:=x;exact⟨_,e⟩
 | tup xs=>obtain⟨_,_,_,ob,e,_⟩:=x;exact⟨_,e⟩
 | dK kvs=>obtain⟨_,_,_,_,o,_,_,e,_⟩:=x;exact⟨_,e⟩
 | dT kvs=>obtain⟨_,_,_,_,o,_,_,e,_⟩:=x;exact⟨_,e⟩
 | set S n=>obtain⟨o,_,_,_,e,_⟩:=x;exact⟨_,e⟩
 | ins C dx fs=>obtain⟨_,_,_,e,_⟩:=x;exact⟨_,e⟩
 | own y=>obtain⟨_,e⟩:=x;exact⟨_,e⟩
 | xd fs=>obtain⟨_,⟨_,_,_,e,_⟩,_⟩:=x;exact⟨_,e⟩
 | rng lo hi=>obtain⟨_,_,_,e⟩:=x;exact⟨_,e⟩
 | frz ob u=>obtain⟨e,_⟩:=x;exact⟨_,e⟩
 | tbl ps=>exact⟨_,show h.get? a=some _ from x⟩
 | met f y=>exact⟨_,show h.get? a=some _ from x⟩
 | ext φ=>obtain⟨_,⟨_,e⟩,_⟩:=x;exact⟨_,e⟩
theorem HOk.none_of(x:HOk P w H h)(e:h.get? a=none):H a=none:=by
 cases q:H a with
 | none=>rfl
 | some u =>
   obtain⟨_,z⟩:=(x a u q).there;rw[e] at z;cases z
theorem B7(e:(PySem.W.hideAll h as).get? a=none):h.get? a=none\/a∈as:=by
 by_cases m:a∈as
 ·exact .inr m
 ·cases q:h.get? a with
  | none=>exact .inl rfl
  | some o=>rw[PySem.W.hideAll_get as q m] at e;cases e
end
structure Fly(g:Heap)(H:Hp)(h:Heap)(e T:Addr)(cls:Value):Prop where
 ex:∃ oe vs oT ts,h.get? e=some oe/\oe.cls=cls/\oe.data=.fields vs/\vs[1]?=#[e,T]/\T≠e/\h.get? T=some oT/\oT.data=.fields ts/\ts[3]?=some .none
 newE:g.get? e=none
 newT:g.get? T=none
 freeE:H e=none
 freeT:H T=none
def CX1(P:Program)(w:World):CXT:=fun outer H s E e s'=>∃ a T cls H',e=.ref a/\s'.os=s.os/\AllBare s'.gens/\Un (frs outer) [] H H' s.heap s'.heap/\HOk P w H' s'.heap/\Fly s.heap H' s'.heap a T cls/\E cls none H'
section
variable{X:Cx}{pins:#[z]}{σ:St}{H H':Hp}{s s':Shared}{h':Heap}{e T:Addr}{cls:Value}
structure Ts(X:Cx)(ch:#[B])(h h':Heap):Prop where
 keep:∀ b o,h.get? b=#[d]->b∉ch->b∉frs X.stack->h'.get? b=#[d]
 slot:∀ b o,h.get? b=#[d]->b∉ch->b∈frs X.stack->∃ sl,h'.get? b=some { o with slots:=sl }
theorem Ts.of(I:#[j])(st:(PySem.W.hideAll s.heap (as++frs X.stack)).StaysIn h')(up:s.heap.UpToSlots h'):Ts X as s.heap h' where
 keep:=fun b o q n1 n2=>st b o (PySem.W.hideAll_get _ q (by simp[n1,n2]))
 slot:=fun b o q _ m=>by
  obtain⟨_,o',ho,nf⟩:=I.stack.mem m;rw[q] at ho;cases ho;exact up b o q nf
theorem Ts.un(I:#[j])(t:Ts X ch s.heap h')(hch:∀ b∈ch,H b=none):Un (frs X.stack) ch H H s.heap h' where
 keep:=fun b o q n hf hc=>t.keep b o q hc hf
 slot:=fun b o q n hf hc=>t.slot b o q hc hf
 free:=fun _ _ _ n _=>n
 there:=fun b o q hc=>by
  by_cases m:b∈frs X.stack
  ·obtain⟨_,z⟩:=t.slot b o q hc m;exact⟨_,z⟩
  ·exact⟨o,t.keep b o q hc m⟩
 tups:=fun _ _ q=>q
 frzs:=fun _ _ _ q=>q
 tbls:=fun b ps q=>⟨#[],by rw[q];simp⟩
theorem Ts.hok(I:#[j])(t:Ts X ch s.heap h')(hch:∀ b∈ch,H b=none):HOk X.prog X.w H h':=fun b u q=>by
 have tr:∀ c v,H c=some v->c∉ch/\c∉frs X.stack:=fun c v z=>⟨(fun m=>by rw[hch c m] at z;cases z),(fun m=>by rw[I.stkFree c m] at z;cases z)⟩
 refine(I.hok b u q).stay (fun c v hc r=>?_) (fun _ z=>z) fun _ _ z=>z;rcases hc with z|z
 ·subst z;exact t.keep c v r (tr c u q).1 (tr c u q).2
 ·exact t.keep c v r (tr c _ z).1 (tr c _ z).2
theorem Inv.newRec(I:#[j])(hx:X.ex=[])(n:#[O,b]=none):(b∈X.ex\/X.s₀.heap.get? b=none)/\b≠X.env.locals/\(∀ x c,X.env.cells.lookup x=some c->c≠b)/\∀ p∈X.pn++pins,p.1≠b:=by
 refine⟨.inr ?_,?_,?_,?_⟩
 ·cases q:X.s₀.heap.get? b with
  | none=>rfl
  | some o =>
    obtain⟨_,z⟩:=I.base.there b o q (by rw[hx];simp);rw[n] at z;cases z
 ·rintro rfl;obtain⟨m,⟨o,_,_,ho,_⟩,_⟩:=I.loc;rw[n] at ho;cases ho
 ·rintro x c hc rfl;obtain⟨v,o,ho,_⟩:=I.cell x c hc;rw[n] at ho;cases ho
 ·rintro p hp rfl;obtain⟨z,_⟩:=I.pin p hp;rw[n] at z;cases z
theorem Inv.raised(I:#[j])(ho:s'.os=s.os)(hg:AllBare s'.gens)(u:Un (frs X.stack) [] H H' s.heap s'.heap)(hok:HOk X.prog X.w H' s'.heap):#[J,H',s'] :=
 I.call' ho u hok hg (fun _ z=>nomatch z)
theorem Fly.flying(J:#[j])(hl:s.heap.FunFrames X.base l)(hsub:∀ b∈frs l,b∈frs X.stack)(F:Fly g H s.heap e T cls) :
  ∃ a0,Heap.FlyingW (PySem.W.hideAll s.heap ([e,T]++frs X.stack)) l e cls a0 s.heap:=by
 obtain⟨oe,vs,oT,ts,e1,e2,e3,e4,e5,e6,e7,e8⟩:=F.ex;have sz:0<vs.size:=zx5 (zxh _) (Array.getElem?_eq_some_iff.mp e4).1;refine⟨vs[0],fun b o q=>PySem.W.of_hideAll _ q,PySem.W.hideAll_none _ (by simp),PySem.W.funFrames_hide hl fun env he a ha=>?_,oe,vs,T,oT,ts,e1,⟨e2,?_⟩,e3,e4,PySem.W.hideAll_none _ (by simp),e5,e6,e7,e8⟩
 ·have:a∈frs l:=zyu.mpr ⟨env,he,ha⟩;simp[hsub a this]
 ·exact Array.getElem?_eq_getElem sz
theorem Fly.again(J:#[j])(F:Fly g H s.heap e T cls)(hg:∀ b,#[O,b]=none->g.get? b=none)
  (up:s.heap.UpToSlots h') (st:(PySem.W.hideAll s.heap ([e,T]++frs X.stack)).StaysIn h') (tr:h'.TracedW (PySem.W.hideAll s.heap ([e,T]++frs X.stack)) e cls a0):∃ T',Fly g H h' e T' cls:=by
 obtain⟨oe,vs,T',oT,ts,f1,⟨f2,_⟩,f3,f4,f5,f6,f7,f8,f9⟩:=tr;refine⟨T',⟨oe,vs,oT,ts,f1,f2,f3,f4,f6,f7,f8,f9⟩,F.newE,?_,F.freeE,?_⟩
 all_goals
  rcases B7 f5 with z|z
  ·first
    | exact hg _ z
    | exact J.hok.none_of z
  ·simp only[zwy,zwr,zxf,or_false] at z;rcases z with (z|z)|z
   ·exact absurd z f6
   ·subst z
    first
     | exact F.newT
     | exact F.freeT
   ·obtain⟨_,o,ho,nf⟩:=J.stack.mem z;obtain⟨sl,q⟩:=up T' o ho nf;rw[f7] at q;cases q;exact absurd f8 (nf _)
end
section
variable{P:Program}{w:World}{K:Frag}{mg:#[U]}{base:Heap}{N:#[D]}{qual:Str}{scope:Scope}{f:Addr}{cd:Value}{A:Around}{outer:List Env}{s0:Shared}{H0:Hp}{E:XK}
 {pins:#[z]} {σ:St} {H H':Hp} {s s':Shared} {h':Heap} {e T:Addr} {cls:Value}
theorem B8(hx:X.ex=[])(J:#[j])(hst:X.stack=X.env :: X.outer)(hf:X.env.frame=some X.env.locals)(t:Ts X ch s.heap h')(hch:∀ b∈ch,X.s₀.heap.get? b=none) :
  Un X.fs [] X.H₀ H X.s₀.heap h':=by
 have nb:∀ b o,X.s₀.heap.get? b=#[d]->b∉ch:=fun b o q m=>by rw[hch b m] at q;cases q
 have mem:∀ b,b∈frs X.stack↔b=X.env.locals\/b∈X.fs:=fun b=>by
  unfold Cx.fs frs;rw[hst,zyq,hf];exact zwr
 have neL:∀ b o,X.s₀.heap.get? b=#[d]->b≠X.env.locals:=fun b o q=>zxd (zw5 (Heap.lt_size q) J.ok.above);have nx:∀ b:Addr,b∉X.ex:=fun b=>by rw[hx];simp
 refine⟨fun b o q n hb _=>?_,fun b o q n hb _=>?_,fun b o q n _=>J.base.free b o q n (nx b),fun b o q _=>?_,J.base.tups,J.base.frzs,J.base.tbls⟩
 ·refine t.keep b o (J.base.keep b o q n hb (nx b)) (nb b o q) fun m=>?_;exact((mem b).mp m).elim (neL b o q) hb
 ·obtain⟨sl,z⟩:=J.base.slot b o q n hb (nx b);obtain⟨sl',z'⟩:=t.slot b _ z (nb b o q) ((mem b).mpr (.inr hb));exact⟨sl',z'⟩
 ·obtain⟨o',z⟩:=J.base.there b o q (nx b);by_cases m:b∈frs X.stack
  ·obtain⟨_,z'⟩:=t.slot b o' z (nb b o q) m;exact⟨_,z'⟩
  ·exact⟨o',t.keep b o' z (nb b o q) m⟩
theorem Zk:Ve #[k] (cxOf #[k] P w K mg base N qual scope f cd A outer s0 H0 E) E:=by
 intro pins σ H s ev s' I h;obtain⟨a,T,cls,H',q0,ho,hg,u,hok,F,hE⟩:=h;subst q0;have J:=I.raised ho hg u hok;obtain⟨a0,hfl⟩:=F.flying J J.stack fun _ z=>z;refine wpAny_leaves_onW (base:=PySem.W.hideAll s'.heap ([a,T]++frs _)) J.ok.frames rfl hfl fun h2 hfl2 up=>?_;have old:∀ b,#[O,b]=none->s0.heap.get? b=none:=fun b n=>by
  cases q:s0.heap.get? b with
  | none=>rfl
  | some o =>
    obtain⟨_,z⟩:=I.base.there b o q (by show b∉([]:List Addr);simp);rw[n] at z;cases z
 have old2:∀ b,s'.heap.get? b=none->s0.heap.get? b=none:=fun b n=>by
  cases q:s0.heap.get? b with
  | none=>rfl
  | some o =>
    obtain⟨_,z⟩:=J.base.there b o q (by show b∉([]:List Addr);simp);rw[n] at z;cases z
 have t:=Ts.of (as:=[a,T]) J hfl2.1 up;have F0:Fly s0.heap H' s'.heap a T cls:=⟨F.ex,old _ F.newE,old _ F.newT,F.freeE,F.freeT⟩;obtain⟨T',F'⟩:=F0.again J old2 up hfl2.1 hfl2.2.2.2;refine⟨a,T',cls,H',rfl,J.os,J.bare,B8 rfl J rfl rfl t ?_,t.hok J ?_,F',hE⟩
 ·intro b hb;rcases zwr.mp hb with rfl|hb
  ·exact F0.newE
  ·rcases zwr.mp hb with rfl|hb
   ·exact F0.newT
   ·cases hb
 ·intro b hb;rcases zwr.mp hb with rfl|hb
  ·exact F.freeE
  ·rcases zwr.mp hb with rfl|hb
   ·exact F.freeT
   ·cases hb
def zi7(X:Cx)(E:XK):Prop:=∀ (pins:List (Addr×Obj)) (σ:St) (H:Hp) (s:Shared) (h':Heap) (e C:Addr) (args:List Value),#[j]->Heap.MadeExcOf s.heap h' e (.ref C) args->#[H,C]->X.xe (.ref e) { s with heap:=h' }
theorem Xi:zi7 (cxOf #[k] P w K mg base N qual scope f cd A outer s0 H0 E) E:=by
 intro pins σ H s h1 e C args I hm hE;refine wpAny_leaves_madeW (base:=PySem.W.hideAll s.heap ([]++frs _)) (h:=s.heap) I.ok.frames rfl (fun b o q=>PySem.W.of_hideAll _ q)
  (PySem.W.funFrames_hide I.stack fun env he a ha=>by
   have:a∈frs _:=zyu.mpr ⟨env,he,ha⟩
   simpa using this) hm fun h2 t hfl _ _ up=>?_
 have up2:s.heap.UpToSlots h2:=(Heap.UpToSlots.of_keeps hm.keeps).trans up;have tt:=Ts.of (as:=[]) I hfl.1 up2;have old2:∀ b,#[O,b]=none->s0.heap.get? b=none:=fun b n=>by
  cases q:s0.heap.get? b with
  | none=>rfl
  | some o =>
    obtain⟨_,z⟩:=I.base.there b o q (by show b∉([]:List Addr);simp);rw[n] at z;cases z
 obtain⟨oe,vs,T',oT,ts,f1,⟨f2,_⟩,f3,f4,f5,f6,f7,f8,f9⟩:=hfl.2.2.2;have nT:#[O,T']=none:=by
  rcases B7 f5 with z|z
  ·exact z
  ·have z':T'∈frs (cxOf (CX1 P w) P w K mg base N qual scope f cd A outer s0 H0 E).stack:=(zwy.mp z).resolve_left (by simp);obtain⟨_,o,ho,nf⟩:=I.stack.mem z';obtain⟨sl,q⟩:=up2 T' o ho nf;rw[f7] at q;cases q;exact absurd f8 (nf _)
 refine⟨e,T',.ref C,H,rfl,I.os,I.bare,B8 rfl I rfl rfl tt (fun _ z=>nomatch z),tt.hok I (fun _ z=>nomatch z),⟨⟨oe,vs,oT,ts,f1,f2,f3,f4,f6,f7,f8,f9⟩,old2 _ hm.new,old2 _ nT,I.hok.none_of hm.new,I.hok.none_of nT⟩,hE⟩
end
structure Qz(K:Frag)(mg:#[U])(x:Str)(C:Addr):Prop where
 nm:mg x=#[b,.ref,C]
 ex:PySem.W.excIn K C [.type "ValueError",.type "Exception",.type "BaseException",.type "object"] "ValueError.__new__"=true
theorem Qz.own{K:Frag}{mg:#[U]}{x:Str}{C:Addr}{h:Heap}(c:Qz K mg x C)(X:K.In h):OwnCls x C [.type "ValueError",.type "Exception",.type "BaseException",.type "object"] "ValueError.__new__" mg h:=by
 refine⟨c.nm,?_⟩;have q:=c.ex;unfold PySem.W.excIn at q;split at q
 ·rename_i dd cd sl ho;split at q
  ·rename_i C' bm k0 k1 k2 k3 n k5 hm hs;simp only[zyf,beq_iff_eq,Bool.not_eq_true'] at q;obtain⟨⟨⟨⟨⟨rfl,rfl⟩,hdel⟩,ht⟩,hok⟩,hni⟩:=q;obtain⟨nm,bs,mro,ns,qn,hd,sn,sub,ab,col,del⟩:=cd;dsimp only at hm hdel hok hni;subst hm hdel;have hsl:sl=#[k0,k1,k2,k3,#[b,.builtin,"ValueError.__new__"],k5]:=by
    obtain⟨l⟩:=sl;simp only at hs;rw[hs]
   subst hsl;exact⟨bm,ns,nm,qn,bs,hd,sn,sub,ab,col,dd,k0,k1,k2,k3,k5,_,X _ _ ho,.of_isNs (PySem.W.isNs_of_in X hok),PySem.W.nsMap_none_of_in X hok hni,PySem.W.tail_of_in X ht⟩
  ·cases q
 ·cases q
inductive zh6(C:Addr)(E:XK)(vs:#[a])(H1:Hp):Prop where
 | mk(_:vs.length<=sizeLine)(_:E (.ref C) none H1)
def zj7(C:Addr)(E:XK)(t:TA):TS:=fun _ σ H=>t σ H fun vs H1=>zh6 C E vs H1
theorem Xj{X:Cx}{x:Str}{C:Addr}{E:XK}{e₀:Expr}{rest:List Expr}{t:TA}{np cpos pos:Pos}(hl:zi7 X E)(hc:X.calm=true)(c:Qz X.K X.mg x C)(hg:Gl X x)(ha:PA X (e₀ :: rest) t)
  (he:starEach (e₀ :: rest) X.env=(false,#[F,e₀]) :: starEach rest X.env:=by rfl) (hplain:(backTo cpos (starEach rest X.env)).any (·.1)=false:=by rfl) (hd:(x == ("__debug__":Str))=false:=by decide) :
  PS X (.Raise (some (.Call (.Name x np) (e₀ :: rest) [] cpos)) none pos) (zj7 C E t):=by
 intro pins s σ H D I h;have O:=c.own I.mod.kin;obtain⟨tl,N,nm,q,bs,hdct,sn,sub,ab,col,dd,k0,k1,k2,k3,k5,mN,hC,hN,hni,T⟩:=O.obj;refine wpAny_Raise_call_subT (C:=C) (nm:=nm) (q:=q) (N:=N) (bs:=bs) (bm:=tl) (hdct:=hdct) (sn:=sn) (sub:=sub) (ab:=ab) (col:=col) (dd:=dd) (k0:=k0) (k1:=k1) (k2:=k2) (k3:=k3) (k5:=k5)
  PySem.F.excBase_ValueError (mN:=mN) (T.hasType (by rfl)) (I.ok.hd hc) (by rw[he];show (false||(backTo cpos (starEach rest X.env)).any (·.1))=false;rw[hplain];rfl) hni (Od I hg c.nm ⟨rfl,?_⟩ hd)
 have hp:=ha cpos pins s σ H _ I h;rw[he] at hp ⊢;refine Calls.evalArgs_plain (wpAny_mono hp (fun us s2 h2=>?_) fun _ _ y=>y);obtain⟨vs,H1,I1,r,hlen,hE⟩:=h2;exact⟨rfl,by rw[<- r.length];exact hlen,I1.bk _ _ hC,hN.keeps I1.bk,T.keeps I1.bk,fun h' e hm=>hl _ _ _ _ _ _ _ _ I1 hm hE⟩
structure zf0(K:Frag)(CB:Addr):Prop where
 ty:PySem.W.typeIn K (.ref CB)=#[b,.type,"type"]
 cl:(PySem.W.clsIn K CB).isSome=true
 bx:PySem.W.mroIn K CB (.type "BaseException")=some true
theorem B9{K:Frag}{M:Model}{A:Around}{E:Value->Shared->Prop}{s:Shared}{e C CB:Addr}{b:Bool}{oe:Obj}{Q:Bool->Shared->Prop}(X:K.In s.heap)(c:zf0 K CB)
  (he:s.heap.get? e=some oe) (hcls:oe.cls=.ref C) (hm:PySem.W.mroIn K C (.ref CB)=some b) (h:Q b s):wpAny M A (excMatches (.ref e) (.ref CB)) Q E s:=by
 obtain⟨hp,g,d,tk,os⟩:=s;have L1:=PySem.W.looks_typeIn (M:=M) X c.ty;have L2:=PySem.W.looks_mroIn (M:=M) X c.bx;have L3:=PySem.W.looks_mroIn (M:=M) X hm;have L0:PySem.W.Looks M hp (typeOf (.ref e)) (.ref C):=hcls▸(PySem.W.Looks.ld he).andThen .now;have L4:PySem.W.Looks M hp (isType (.ref CB)) true:=by
  have z:=c.cl;unfold PySem.W.clsIn at z;split at z
  ·rename_i c' d' cd' sl' ho;intro A' Q' E' s' k q;unfold isType loadHead;exact wpAny_bind (wpAny_loadPart (k _ _ (X _ _ ho)) (wpAny_pure q))
  ·cases z
 unfold excMatches isInstance isExcClass;refine wpAny_bind (wpAny_bind (L1.at (wpAny_of_eq tc_notTuple ?_)));simp only[zx0,if_false,List.forIn_cons,List.forIn_nil];refine wpAny_bind (wpAny_pure (wpAny_bind ?_));simp only[List.forIn_cons,List.forIn_nil];refine wpAny_bind (wpAny_bind (wpAny_bind (L4.at ?_)));simp only[if_true];refine L2.at ?_;simp only[Bool.not_true,zx0,if_false];refine wpAny_pure (wpAny_pure (wpAny_bind (L0.at (wpAny_bind (wpAny_bind (wpAny_bind (L3.at ?_)))))));cases b with
 | true=>simp only[if_true];exact wpAny_pure (wpAny_pure (wpAny_pure h))
 | false=>simp only[zx0,if_false];exact wpAny_pure (wpAny_pure (wpAny_pure h))
end L2
namespace L2
open PySem PySem.Spec PyProof.Rows PySem.W PySem.Calls PySem.Builtin PySem.Builtin.ObjectAttr PySem.Builtin.Getset_descriptor
def excO(a:Addr)(cls:Value):HO:=.ext fun h=>∃ o vs,h.get? a=#[d]/\o.cls=cls/\o.data=.fields vs
structure Cp(K:Frag)(D:Addr):Prop where
 ga:findIn K (.ref D) "__getattribute__"=some #[b,.builtin,"BaseException.__getattribute__"]
 gk:#[am,K,D,"__getattr__"]
 cl:(clsIn K D).isSome=true
 at_:findIn K (.ref D) "__class__"=some #[b,.builtin,"object.__class__"]
 gt:specialIn K (.builtin "object.__class__") "__get__"=some #[b,.builtin,"getset_descriptor.__get__"]
 tk:takesIn K (.builtin "object.__class__")=some true
 mo:mroIn K D (.type "object")=some true
 mx:mroIn K D (.type "BaseException")=some true
section
variable{prog:Program}{w:World}{A:Around}{E:Value->Shared->Prop}{s:Shared}{K:Frag}{x D:Addr}
theorem zf1(X:K.In h)(c:Cp K D):Looks M h (find (.ref x) (.ref D) "__class__") (.bind (.builtin "getset_descriptor.__get__") (.builtin "object.__class__")):=by
 have L1:=looks_findIn (M:=M) X c.at_;have L2:Looks M h (getOf #[b,.builtin,"object.__class__"]) #[b,.builtin,"getset_descriptor.__get__"]:=looks_specialIn X c.gt;have L3:=looks_takesIn (M:=M) X c.tk;exact L1.andThen (L2.andThen ((show Looks M h (dataDescriptor? (some (.builtin "object.__class__")) (some (.builtin "getset_descriptor.__get__"))) (some (.builtin "getset_descriptor.__get__",.builtin "object.__class__")) from L3.andThen .now).andThen (Looks.tag .now)))
theorem zbj(X:K.In s.heap)(hx:s.heap.get? x=some o)(hc:o.cls=.ref D)(c:Cp K D)(q:R (.ok (.ret (.ref D))) s) :
  codeAny (model prog w) A (.call (.builtin "getset_descriptor.__get__") ⟨[.builtin "object.__class__",.ref x,.ref D],[]⟩) R s:=by
 obtain⟨hh,g,d,t,os⟩:=s;have L0:Looks (model prog w) hh (typeOf (.ref x)) (.ref D):=hc▸(Looks.ld hx).andThen .now;have Lm:=looks_mroIn (M:=model prog w) X c.mo;refine codeAny_call_builtin KF.slot_gs.plain KF.entry_gs (KF.slot_gs.check _ _ _ _ _ _ _ _ KF.type_class (KF.args_gs _ _ _) ?_);unfold Builtin.«getset_descriptor.__get__» descrGet;rw[dga_obj];refine wpAny_bind (wpAny_pure ?_);unfold descrGetter descrCheckInstance descrNameAndClass isInstance;simp only[KF.owner_class]
 repeat lk
 refine⟨Code.quiet_builtin _ ⋯,codeAny_builtin KF.entry_class ?_⟩;unfold Builtin.«object.__class__» shownTypeOf
 repeat lk
 exact q
theorem zj8(X:K.In s.heap)(hx:s.heap.get? x=some o)(hc:o.cls=.ref D)(c:Cp K D)(q:Q (.done (.ret (.ref D))) s) :
  wpAny (model prog w) A (Builtin.«object.__getattribute__» ⟨[.ref x,.str "__class__" tk],[]⟩) Q E s:=by
 have L0:Looks (model prog w) s.heap (typeOf (.ref x)) (.ref D):=hc▸(Looks.ld hx).andThen .now;have Lf:=zf1 (x:=x) (M:=model prog w) X c;have e1:slotArgs "__getattribute__" 1 ⟨[.ref x,.str "__class__" tk],[]⟩=pure (.ref x,[.str "__class__" tk]):=rfl;unfold Builtin.«object.__getattribute__»;rw[e1];refine wpAny_bind (wpAny_pure ?_);refine wpAny_bind (show wpAny _ _ (attrName (.str "__class__" tk)) _ _ _ from wpAny_pure ?_);obtain⟨hh,g,d,t,os⟩:=s;refine wpAny_bind (L0.at (wpAny_bind (Lf.at ?_)));show wpAny _ _ (bindTo _ _ _ _) _ _ _;unfold bindTo;dsimp only;refine wpAny_bind (wpAny_holding (wpAny_call (zbj X hx hc c ?_)));exact wpAny_pure q
theorem Fz(X:K.In s.heap)(hx:s.heap.get? x=some o)(hc:o.cls=.ref D)(c:Cp K D)(q:Q #[e,D] { s with toks:=s.toks+1 }) :
  wpAny (model prog w) A (getAttr? (.ref x) "__class__") Q E s:=by
 obtain⟨hh,g,d,t,os⟩:=s;have L0:Looks (model prog w) hh (typeOf (.ref x)) (.ref D):=hc▸(Looks.ld hx).andThen .now;have La:=looks_findIn (M:=model prog w) X c.ga;have Lk:=looks_findIn (M:=model prog w) X c.gk;have Lx:=looks_mroIn (M:=model prog w) X c.mx;have hb:=PySem.F.attr_ValueError.ga.bind (.ref x);have hne0:(Value.builtin "BaseException.__getattribute__" == Value.builtin "object.__getattribute__")=false:=by decide +kernel
 have hne:(onTheHeap (Value.ref D)&&Value.builtin "BaseException.__getattribute__" == Value.builtin "object.__getattribute__")=false:=by rw[hne0];rfl
 unfold getAttr? getAttrBy? getAttrBy;refine wpAny_bind (wpAny_mkText (wpAny_bind (wpAny_attempt (wpAny_holding (wpAny_bind (L0.at (wpAny_bind (La.at ?_))))))));dsimp only;rw[#[c,(by rw[hne];decide)]];unfold getAttrByItsOwn;refine wpAny_bind (show wpAny _ _ (typeLookup (.ref D) "__getattr__") _ _ _ from Lk.at ?_);refine wpAny_bind (wpAny_attempt (wpAny_holding ?_));show wpAny _ _ (boundAndCalled _ _ _) _ _ _;unfold boundAndCalled;rw[hb];refine wpAny_bind (wpAny_pure (wpAny_call ?_));refine codeAny_call_builtin PySem.F.attr_ValueError.ga.plain PySem.F.entry_bexc_ga ?_;have hk:builtinKind "BaseException.__getattribute__"=some .slot:=by decide +kernel
 have hsplit:splitId "BaseException.__getattribute__"=some ("BaseException","__getattribute__"):=by decide +kernel
 have ha:=PySem.F.args_bexc_ga (.ref x) (.str "__class__" t);simp only[checkBuiltinCall,hk,hsplit,List.cons_append,List.nil_append];unfold isInstance
 repeat (first|with_reducible refine zj8 X hx hc c ?_|lk)
 exact q
theorem zf2(c:Cp K D):KitX K (.ref x) (.ref D) (fun h=>∃ o,h.get? x=#[d]/\o.cls=.ref D) where
 ty:=fun M h _ p=>by obtain⟨o,hx,hc⟩:=p;exact hc▸(Looks.ld hx).andThen .now
 it:=fun _ _ X _=>by
  have z:=c.cl;unfold clsIn at z;split at z
  ·rename_i ho;intro A' Q' E' s' k q;unfold isType loadHead;exact wpAny_bind (wpAny_loadPart (k _ _ (X _ _ ho)) (wpAny_pure q))
  ·cases z
 ne:=fun h tp dd its n sl X htp=>by
  refine Bool.eq_false_iff.mpr fun q=>?_;have e:D=tp:=Value.ref.inj (beq_iff_eq.mp q);subst e;have z:=c.cl;unfold clsIn at z;split at z
  ·rename_i ho;have z:=(X _ _ ho).symm.trans htp;cases z
  ·cases z
 ca:=fun X p q=>by obtain⟨o,hx,hc⟩:=p;exact Fz X hx hc c q
end
inductive TyX(K:Frag)(H:Hp)(x:V)(t:Value):Prop where
 | of (h:Lr K H x t):TyX K H x t
 | exc {a D:Addr} (ex:x=.ref a) (et:t=.ref D) (h:H a=some (excO a (.ref D))) (c:Cp K D):TyX K H x t
def zlu:V->Value
 | .ty n=>.type n
 | .ref a=>.ref a
 | _=>.none
inductive rIsI(K:Frag)(xs:#[a])(H:Hp)(Q:VK):Prop where
 | mk(x)(c)(t)(b)(_:xs=[x,c])(_:TyX K H x t)(_:((∃ n,c=.ty n)\/∃ a,c=.ref a))(_:kitOne K t (zlu c)=some b)(_:Q (.bl b) H)
theorem zf3:Vx X (.builtin "isinstance") (rIsI X.K):=by
 intro pins s σ H xs us Q I r h;obtain⟨x,c,t,b,rfl,ty,hc,hk,q⟩:=h;obtain⟨u,w',rfl,r1,r2⟩:=zcf r;have e:w'=zlu c:=by
  rcases hc with ⟨n,rfl⟩|⟨a,rfl⟩
  ·exact r2
  ·exact r2
 subst e;cases ty with
 | of ty=>exact zdm I r1 ty hk fun tk=>⟨.bl b,H,I.tok tk,rfl,q⟩
 | @exc a D ex et ha cl =>
   subst ex et;cases (show u=Value.ref a from r1);obtain⟨⟨o,vs,ho,hcl,_⟩,_⟩:=(show Y9 X.prog X.w H s.heap a (excO a (.ref D)) from I.hok a _ ha);exact kia_one (zf2 cl) I.kIn ⟨o,ho,hcl⟩ hk (fun z=>nomatch z) fun tk=>⟨.bl b,H,I.tok tk,rfl,q⟩
section
variable{X:Cx}{pins:#[z]}{σ:St}{H:Hp}{s:Shared}
theorem Of(I:#[j])(hN:X.N.Nodup)(hi:X.N[i]?=some x)(hk:X.env.scope.names.lookup x=some .local)(hlk:∀ v,X.lk[i]?≠#[b,some,v])
  (h:∀ s',Inv X pins (σ.set i none) H s'->Q () s'):wpAny M A (do bindName X.env x .none;unbindBehindTheSuite X.env x pos) Q E s:=by
 obtain⟨m,hn,hl⟩:=id I.loc;have hcls:(X.env.scope.kind == .class||(X.env.scope.kind == .module&&X.env.locals != X.env.globals))=false:=by rw[I.ok.kind];rfl
 have hiσ:i<σ.length:=by rw[I.len];exact(zwo.mp hi).1
 have cne:=I.cne;refine wpAny_nameGoes_keeps hk hn hcls fun h' v hn' hs=>?_;obtain⟨oL,_,_,hoL,_⟩:=id hn;have ne0:∀ b o,X.s₀.heap.get? b=#[d]->b≠X.env.locals:=fun b o q=>zxd (zw5 (Heap.lt_size q) I.ok.above);refine h _ ⟨I.ok,I.os,I.bare,⟨fun b o q n hb hx=>(hs.2 b (ne0 b o q)).trans (I.base.keep b o q n hb hx),fun b o q n hb hx=>?_,I.base.free,fun b o q hx=>?_,I.base.tups,I.base.frzs,I.base.tbls⟩,
  ⟨_,hn',fun j y v' e1 e2 e3=>?_⟩,fun y c e=>?_,I.free,I.freeC,fun p hp=>?_,fun b ob e=>?_,by simpa using I.len⟩
 ·obtain⟨sl,e1⟩:=I.base.slot b o q n hb hx;exact⟨sl,(hs.2 b (ne0 b o q)).trans e1⟩
 ·obtain⟨o',e1⟩:=I.base.there b o q hx;exact⟨o',(hs.2 b (ne0 b o q)).trans e1⟩
 ·by_cases hj:j=i
  ·subst hj;rcases e2 with e2|e2
   ·rw[zxp hiσ] at e2;cases e2
   ·exact absurd e2 (hlk _)
  ·have e2':σ[j]?=#[b,some,v']\/X.lk[j]?=#[b,some,v']:=e2.imp_left fun z=>by rw[zxn (Ne.symm hj)] at z;exact z
   obtain⟨u',r',q⟩:=hl j y v' e1 e2' e3;refine⟨u',r',?_⟩;rcases q with ⟨k,e⟩|⟨k,c,e,z⟩
   ·refine #[T,k,?_];have:y≠x:=fun e=>hj (Hc hN e1 (e▸hi));simp[this,e]
   ·exact .inr ⟨k,c,e,z.sameBut hs (cne y c e)⟩
 ·obtain⟨w',z⟩:=I.cell y c e;exact⟨w',z.sameBut hs (cne y c e)⟩
 ·obtain⟨e,n,ne,nf,d⟩:=I.pin p hp;exact⟨(hs.2 p.1 ne).trans e,n,ne,nf,d⟩
 ·refine(I.hok b ob e).stay (fun c w' hc q=>(hs.2 c ?_).trans q) (fun _ q=>q) fun _ _ q=>q;rintro rfl;rcases hc with rfl|hc
  ·rw[I.free] at e;cases e
  ·rw[I.free] at hc;cases hc
theorem Inv.track(I:#[j])(n:H a=none)(hch:#[aE,a])
  (hok:∀ H',Y9 X.prog X.w H' s.heap a o):#[J,upd H a o,s]:=by
 have nt:∀ b u,H b=some u->b≠a:=fun b u q z=>by subst z;rw[n] at q;cases q
 have J:=I.stepN (h':=s.heap) (H':=upd H a o) (g':=s.gens) (d':=s.drawn) (t':=s.toks) (ch:=[a]) (fun b hb=>by rw[zwt.mp hb];exact hch) (fun _ _ _ _ _ q _=>q) (fun _ ob _ _ _ q _=>⟨ob.slots,q⟩)
  (fun b _ hb _ q=>by rw[Zh fun z=>hb (by simp[z])];exact q) (fun _ ob _ q=>⟨ob,q⟩) (fun b xs q=>by rw[Zh (nt b _ q)];exact q) (fun b u xs q=>by rw[Zh (nt b _ q)];exact q)
  (fun b ps q=>⟨#[],by rw[Zh (nt b _ q),q];simp⟩) (fun _ q=>q) (fun b u q=>?_) I.bare
 ·exact J
 ·by_cases hb:b=a
  ·subst hb;rw[Zd] at q;cases q;exact hok _
  ·rw[Zh hb] at q;exact(I.hok b u q).stay (fun c v _ z=>z) (fun c z=>by rw[Zh (nt c _ z)];exact z) fun c xs z=>by rw[Zh (nt c _ z)];exact z
end
def fgt:List Nat->St->St
 | [],σ=>σ
 | i :: r,σ=>fgt r (σ.set i none)
theorem Ho:∀ (as:List Nat) (σ:St),(fgt as σ).length=σ.length
 | [],_=>rfl
 | i :: r,σ=>by rw[fgt,Ho r,zx3]
theorem Cq:∀ (as:List Nat) {σ:St} {i:Nat} {v:V},(fgt as σ)[i]?=#[b,some,v]->σ[i]?=#[b,some,v]/\i∉as
 | [],_,_,_,h=>⟨h,by simp⟩
 | j :: r,σ,i,v,h=>by
   obtain⟨h1,h2⟩:=Cq r h;by_cases e:i=j
   ·subst e;rw[List.getElem?_set] at h1;simp at h1
   ·rw[zxn (Ne.symm e)] at h1;exact⟨h1,by simp[e,h2]⟩
abbrev Cx.tried(X:Cx)(E:Value->Shared->Prop)(lk:St)(pn:#[z]):Cx:={ X with xe:=E,lk:=lk,pn:=pn }
abbrev Cx.hand(X:Cx)(e:Addr):Cx:={ X with A:=X.A.mark #[e,e],calm:=false,xe:=fun _ _=>False }
section
variable{X:Cx}{pins pins':#[z]}{σ σ' lk:St}{H:Hp}{s:Shared}{E:Value->Shared->Prop}{e:Addr}
theorem Cx.Ok.tried(ok:X.Ok)(E:Value->Shared->Prop)(lk:St)(pn:#[z]):(X.tried E lk pn).Ok :=
 ⟨ok.mod,ok.kind,ok.glob,ok.blt,ok.above,ok.inj,ok.has,ok.cab,ok.hd,ok.frames,ok.stk,ok.exf,ok.bs,ok.bsz,ok.noex,ok.exfs,ok.funs,ok.frf⟩
theorem Cx.Ok.untried{pn:#[z]}(ok:(X.tried E lk pn).Ok):X.Ok :=
 ⟨ok.mod,ok.kind,ok.glob,ok.blt,ok.above,ok.inj,ok.has,ok.cab,ok.hd,ok.frames,ok.stk,ok.exf,ok.bs,ok.bsz,ok.noex,ok.exfs,ok.funs,ok.frf⟩
theorem Cx.Ok.hand(ok:X.Ok)(e:Addr):(X.hand e).Ok :=
 ⟨ok.mod,ok.kind,ok.glob,ok.blt,ok.above,ok.inj,ok.has,ok.cab,fun z=>(nomatch z),ok.frames,ok.stk,ok.exf,ok.bs,ok.bsz,ok.noex,ok.exfs,ok.funs,ok.frf⟩
theorem Inv.tried(I:#[j])(E:Value->Shared->Prop)(hlk:∀ (i:Nat) v,lk[i]?=#[b,some,v]->σ[i]?=#[b,some,v]):Inv (X.tried E lk (X.pn++pins)) [] σ H s:=by
 refine⟨I.ok.tried _ _ _,I.os,I.bare,I.base,?_,I.cell,I.free,I.freeC,fun p hp=>I.pin p (by simpa using hp),I.hok,I.len⟩;obtain⟨m,hn,hl⟩:=I.loc;exact⟨m,hn,fun i x v e1 e2 e3=>hl i x v e1 (.inl (e2.elim id (hlk i v))) e3⟩
theorem Inv.untried(I:Inv (X.tried E lk (X.pn++pins)) pins' σ' H s)(hX:X.lk=[])(hl:lk.length=X.N.length):Inv X pins lk H s:=by
 refine⟨I.ok.untried,I.os,I.bare,I.base,?_,I.cell,I.free,I.freeC,fun p hp=>I.pin p (zxb _ hp),I.hok,hl⟩;obtain⟨m,hn,hl⟩:=I.loc;exact⟨m,hn,fun i x v e1 e2 e3=>hl i x v e1 (.inr (e2.elim id fun z=>by rw[hX] at z;simp at z)) e3⟩
theorem Inv.untriedN(I:Inv (X.tried E lk (X.pn++pins)) [] σ' H s)(hX:X.lk=[]):Inv X pins σ' H s:=by
 refine⟨I.ok.untried,I.os,I.bare,I.base,?_,I.cell,I.free,I.freeC,fun p hp=>I.pin p (by simpa using hp),I.hok,I.len⟩;obtain⟨m,hn,hl⟩:=I.loc;exact⟨m,hn,fun i x v e1 e2 e3=>hl i x v e1 (e2.elim .inl fun z=>by rw[hX] at z;simp at z) e3⟩
theorem Inv.hand(I:#[j])(e:Addr):Inv (X.hand e) pins σ H s:=⟨I.ok.hand e,I.os,I.bare,I.base,I.loc,I.cell,I.free,I.freeC,I.pin,I.hok,I.len⟩
theorem Inv.unhand(ok:X.Ok)(I:Inv (X.hand e) pins σ H s):#[j]:=⟨ok,I.os,I.bare,I.base,I.loc,I.cell,I.free,I.freeC,I.pin,I.hok,I.len⟩
theorem SP.untried(hX:X.lk=[])(h:SP (X.tried E lk (X.pn++pins)) [] D f s'):SP X pins D f s':=by
 cases f with
 | next=>obtain⟨a,b,c,d⟩:=h;exact⟨a,b,c.untriedN hX,d⟩
 | brk=>obtain⟨a,b,c,d⟩:=h;exact⟨a,b,c.untriedN hX,d⟩
 | cont=>obtain⟨a,b,c,d⟩:=h;exact⟨a,b,c.untriedN hX,d⟩
 | ret u=>obtain⟨v,a,b,c,r,d⟩:=h;exact⟨v,a,b,c.untriedN hX,r,d⟩
end
structure zj9(X:Cx):Prop where
 ex:X.ex=[]
 lk:X.lk=[]
 st:X.stack=X.env :: X.outer
 fr:X.env.frame=some X.env.locals
theorem zdx{CX:CXT}{P:Program}{w:World}{K:Frag}{mg:#[U]}{base:Heap}{N:#[D]}{qual:Str}{scope:Scope}{f:Addr}{cd:Value}{A:Around}{outer:List Env}{s0:Shared}{H0:Hp}{E:XK} :
  zj9 (cxOf CX P w K mg base N qual scope f cd A outer s0 H0 E):=⟨rfl,rfl,rfl,rfl⟩
section
variable{X:Cx}{pins:#[z]}{σ:St}{H:Hp}{s:Shared}{E:Value->Shared->Prop}
theorem zms(B:zj9 X)(hlk:lk.length=X.N.length)
  (I:Inv (X.tried E' lk (X.pn++pins)) pins' σ' H1 s1) (h:CX1 X.prog X.w X.stack H1 s1 EX ev s2)
  (k:∀ a T cls H2 s3,ev=.ref a->EX cls none H2->Inv X pins lk H2 s3->Fly s1.heap H2 s3.heap a T cls->(#[aE,a]) ->
   ((T∈X.ex\/X.s₀.heap.get? T=none)/\T≠X.env.locals/\(∀ x c,#[V,x]=some c->c≠T)/\∀ p∈X.pn++pins,p.1≠T) ->
   wpAny (model X.prog X.w) X.A (handleBy (.ref a) X.env hs) Q E s3) :
  wpAny (model X.prog X.w) X.A (noteFrame ev X.env) (fun _ s₂=>#[aa,X.A,setFlight ev none,fun _ s₃=>#[aa,X.A,handleBy ev X.env hs,Q,E,s₃],E,s₂]) E s2:=by
 obtain⟨a,T,cls,H2,q0,ho,hg,u,hok,F,hE⟩:=h;subst q0;have J:=I.raised ho hg u hok;obtain⟨a0,hfl⟩:=F.flying J J.stack fun _ z=>z;have hfl':Heap.FlyingW (PySem.W.hideAll s2.heap ([a,T]++frs X.stack)) (X.env :: X.outer) a cls a0 s2.heap:=by rw[<- B.st];exact hfl
 refine wpAny_looks_onW (base:=PySem.W.hideAll s2.heap ([a,T]++frs X.stack)) (by rw[J.ok.frames];exact congrArg some B.st) B.fr hfl' fun h3 held up1=>?_;refine wpAny_landsW held fun h4 hfl4 up2=>?_;have up:s2.heap.UpToSlots h4:=up1.trans up2;have t:=Ts.of (as:=[a,T]) J hfl4.1 up;have frE:∀ b∈[a,T],H2 b=none:=by
  intro b hb;rcases zwr.mp hb with rfl|hb
  ·exact F.freeE
  ·rcases zwr.mp hb with rfl|hb
   ·exact F.freeT
   ·cases hb
 have rcs:∀ b∈[a,T],(b∈X.ex\/X.s₀.heap.get? b=none)/\b≠X.env.locals/\(∀ x c,X.env.cells.lookup x=some c->c≠b)/\∀ p∈(X.pn++pins)++pins',p.1≠b:=by
  intro b hb;rcases zwr.mp hb with rfl|hb
  ·exact I.newRec B.ex F.newE
  ·rcases zwr.mp hb with rfl|hb
   ·exact I.newRec B.ex F.newT
   ·cases hb
 have J4:Inv (X.tried E' lk (X.pn++pins)) pins' σ' H2 { s2 with heap:=h4 }:=J.callN' (s':={ s2 with heap:=h4 }) (ch:=[a,T]) rfl (t.un J frE) (t.hok J frE) J.bare rcs;have old:∀ b,s2.heap.get? b=none->s1.heap.get? b=none:=fun b n=>by
  cases q:s1.heap.get? b with
  | none=>rfl
  | some o =>
    obtain⟨_,z⟩:=u.there b o q (by simp);rw[n] at z;cases z
 obtain⟨T',F'⟩:=F.again J old up hfl4.1 hfl4.2.2.2;have sub:∀ {b:Addr},((b∈X.ex\/X.s₀.heap.get? b=none)/\b≠X.env.locals/\(∀ x c,X.env.cells.lookup x=some c->c≠b)/\∀ p∈(X.pn++pins)++pins',p.1≠b) ->
   (b∈X.ex\/X.s₀.heap.get? b=none)/\b≠X.env.locals/\(∀ x c,#[V,x]=some c->c≠b)/\∀ p∈X.pn++pins,p.1≠b:=fun z=>⟨z.1,z.2.1,z.2.2.1,fun p hp=>z.2.2.2 p (zxb _ hp)⟩
 exact k a T' cls H2 _ rfl hE (J4.untried B.lk hlk) F' (sub (rcs a (by simp))) (sub (I.newRec B.ex F'.newT))
theorem zf4(I:#[j])(F:Fly g H s.heap a T cls)(hg:∀ b,#[O,b]=none->g.get? b=none)
  (ha:#[aE,a])
  (hT:(T∈X.ex\/X.s₀.heap.get? T=none)/\T≠X.env.locals/\(∀ x c,X.env.cells.lookup x=some c->c≠T)/\∀ p∈X.pn++pins,p.1≠T)
  (k:∀ s',#[J,H,s']->(∃ T',Fly g H s'.heap a T' cls)->Q () s'):#[aa,A,setFlight (.ref a) none,Q,E,s]:=by
 obtain⟨a0,hfl⟩:=F.flying I I.stack fun _ z=>z;refine lands_againW hfl fun h4 hfl4 up=>?_;have t:=Ts.of (as:=[a,T]) I hfl4.1 up;have frE:∀ b∈[a,T],H b=none:=by
  intro b hb;rcases zwr.mp hb with rfl|hb
  ·exact F.freeE
  ·rcases zwr.mp hb with rfl|hb
   ·exact F.freeT
   ·cases hb
 have J4:#[J,H,{ s with heap:=h4 }]:=I.callN' (s':={ s with heap:=h4 }) (ch:=[a,T]) rfl (t.un I frE) (t.hok I frE) I.bare fun b hb=>by
  rcases zwr.mp hb with rfl|hb
  ·exact ha
  ·rcases zwr.mp hb with rfl|hb
   ·exact hT
   ·cases hb
 exact k _ J4 (F.again I hg up hfl4.1 hfl4.2.2.2)
end
def xAs(K:Frag)(as:List Nat)(i:Nat)(CB:Addr)(th:TS)(D:Q7)(σ:St):XK:=fun cls _ H'=>∃ C,cls=.ref C/\PySem.W.mroIn K C (.ref CB)=some true /\
 ∀ a,H' a=none->th { nx:=fun σ' H''=>D.nx (σ'.set i none) H'',rt:=D.rt,bk:=fun σ' H''=>D.bk (σ'.set i none) H'',ct:=fun σ' H''=>D.ct (σ'.set i none) H'' } ((fgt as σ).set i #[e,a]) (upd H' a (excO a cls))
def zka(K:Frag)(as:List Nat)(i:Nat)(CB:Addr)(tb:XK->TS)(th:TS):TS:=fun D σ H=>tb (xAs K as i CB th D σ) D σ H
section
variable{X:Cx}{as:List Nat}{i:Nat}{CB:Addr}{tb:XK->TS}{th:TS}{body suite:List Stmt}{b₀:Stmt}{n cx:Str}{p hpos pos:Pos}
theorem zf5(B:zj9 X)(hN:X.N.Nodup)(hi:X.N[i]?=some n)(hk:X.env.scope.names.lookup n=some .local)(c:zf0 X.K CB)(hg:Gl X cx)(hm:X.mg cx=#[b,.ref,CB])
  (hb:∀ (E':Value->Shared->Prop) (lk:St) (pn:List (Addr×Obj)) (EX:XK),(∀ j∈as,∀ v,lk[j]?≠some (some v))->PassesOwn (model X.prog X.w) X.A X.env E'->Ve (CX1 X.prog X.w) (X.tried E' lk pn) EX->PSs (X.tried E' lk pn) body (tb EX))
  (hh:∀ a,PSs (X.hand a) (b₀ :: suite) th) (hd:(cx == ("__debug__":Str))=false:=by decide) :
  PS X (.Try body [.ExceptHandler (some (.Name cx p)) (some n) (b₀ :: suite) hpos] [] [] pos) (zka X.K as i CB tb th):=by
 intro pins s σ H D I h;refine wpAny_Try_except ?_;have lkl:(fgt as σ).length=X.N.length:=by rw[Ho];exact I.len
 have I':=I.tried (lk:=fgt as σ) (fun ev s₁=>#[aa,X.A,noteFrame ev X.env,(fun _ s₂=>wpAny (model X.prog X.w) X.A (setFlight ev none)
  (fun _ s₃=>#[aa,X.A,handleBy ev X.env [.ExceptHandler (some (.Name cx p)) (some n) (b₀ :: suite) hpos],SP X pins D,X.xe,s₃]) X.xe s₂),X.xe,s₁]) fun i v z=>(Cq as z).1
 refine wpAny_mono (hb _ _ _ (xAs X.K as i CB th D σ) (fun j hj v z=>(Cq as z).2 hj) PassesOwn.looking (fun pins' σ' H1 s1 ev s2 J hcx=>?_) [] s σ H D I' h) (fun f s1 h1=>?_) fun _ _ z=>z
 ·refine zms B lkl J hcx fun a T cls H2 s3 _ hE J3 F ha hT=>?_;obtain⟨C,rfl,hmro,hth⟩:=hE;obtain⟨oe,vs,oT,ts,e1,e2,e3,_⟩:=F.ex;refine wpAny_handleBy_cons (codeAny_handlers_test (Od (X:=X.hand a) (J3.hand a) hg hm (B9 J3.kIn c e1 e2 hmro ?_) hd)) (by intro q;cases q);refine codeAny_handlers_suite_as ?_;have F0:Fly (Att.noObjs s3.heap) H2 s3.heap a T (.ref C):=⟨F.ex,Att.noObjs_get _ _,Att.noObjs_get _ _,F.freeE,F.freeT⟩;refine zf4 J3 F0 (fun b _=>Att.noObjs_get _ _) ha hT fun s4 J4 ⟨T',F4⟩=>?_;obtain⟨oe,vs,oT,ts,e1,e2,e3,_⟩:=F4.ex;have J5:Inv X pins (fgt as σ) (upd H2 a (excO a (.ref C))) s4:=J4.track F4.freeE ha fun H'=>⟨⟨oe,vs,e1,e2,e3⟩,⟨oe,e1⟩,fun h1 h2 ⟨o,vs,z1,z2,z3⟩ k=>⟨o,vs,k o z1,z2,z3⟩⟩
  refine He (X:=X.hand a) (J5.hand a) hN hi (.inl hk) (v:=.ref a) (show RelV (.ref a) (.ref a) from rfl) (fun s5 J6=>?_) ⟨.inr hk,fun v z=>by rw[show (X.hand a).lk=[] from B.lk] at z;exact Wk v z⟩;refine wpAny_mono (hh a pins s5 _ _ _ J6 (hth a F.freeE)) (fun f s6 h6=>?_) fun _ _ z=>z.elim;have lk0:∀ v,X.lk[i]?≠#[b,some,v]:=fun v z=>by rw[B.lk] at z;exact Wk v z
  cases f with
  | next=>obtain⟨σ6,H6,J7,d⟩:=h6;exact Of (J7.unhand I.ok) hN hi hk lk0 fun s7 J8=>⟨_,H6,J8,d⟩
  | brk=>obtain⟨σ6,H6,J7,d⟩:=h6;exact Of (J7.unhand I.ok) hN hi hk lk0 fun s7 J8=>⟨_,H6,J8,d⟩
  | cont=>obtain⟨σ6,H6,J7,d⟩:=h6;exact Of (J7.unhand I.ok) hN hi hk lk0 fun s7 J8=>⟨_,H6,J8,d⟩
  | ret u=>obtain⟨v,σ6,H6,J7,r,d⟩:=h6;exact Of (J7.unhand I.ok) hN hi hk lk0 fun s7 J8=>⟨v,_,H6,J8,r,d⟩
 ·have h2:=SP.untried B.lk h1;cases f with
  | next=>exact wpAny_execs_nil h2
  | brk=>exact h2
  | cont=>exact h2
  | ret u=>exact h2
end
section
variable{P:Program}{w:World}{K:Frag}{mg:#[U]}{base:Heap}
theorem Fun.okX{x qual:Str}{st:Stmt}{f:Addr}{fd:FuncData}{N ps:#[D]}{k:Nat}{sp:Sp}(F:#[l,x,qual,st])(S:#[r,N,ps,st])(len:∀ vs H Q E,sp vs H Q E->vs.length=ps.length)
  (hbody:∀ (cdv:Value) (A:Around) (outer:List Env) (s:Shared) (H:Hp) (vs:#[a]) (Q:VK) (E:XK),Vj k (A.deeper (envOfC qual (Zj st) s.heap.objs.size f cdv))->sp vs H Q E ->
   ∃ t,PSs (cxOf #[k] P w K mg base N qual (Zj st) f cdv A outer s H E) (Zx st) t/\t { nx:=fun _ H'=>Q .non H',rt:=Q } (K2 N vs) H):FnOk P w K mg base #[k] (k+1) f fd ps sp:=by
 obtain⟨oc,od,kV,doc,pm,an,cdv,ct,osl,rfl,lk,hcd⟩:=F.ex;exact zll lk hcd S len fun A outer s H vs Q E hr hsp=>hbody cdv A outer s H vs Q E hr hsp
end
def F3{α:Type}(p:α->Prop):List α->Prop
 | []=>True
 | a :: r=>p a/\F3 p r
theorem F3.get:∀ {l:List α} {a:α},F3 p l->a∈l->p a
 | _ :: _,_,h,.head _=>h.1
 | _ :: _,_,h,.tail _ m=>F3.get h.2 m
def Yz(X:Cx)(pn:#[z])(Nc:#[D])(scope:Scope)(cl:List (Str×Addr))(s₀:Shared)(H₀:Hp)(fp:#[B])(C:Addr):Cx :=
 { X with N:=Nc,s₀:=s₀,H₀:=H₀,env:=compEnvC scope cl C X.env,outer:=X.stack,stack:=X.stack,ex:=fp,fn:=fun _=>false,pn:=pn,xe:=fun _ _=>False,lk:=[] }
def cs(js:List Nat)(σ:St)(x:V):St:=some x :: js.map fun j=>(σ[j]?).getD none
def PTs(X:Cx)(ifs:List Expr)(t:TT):Prop :=
 ∀ (pins:#[z]) (s:Shared) (σ:St) (H:Hp) (Q:Bool->Hp->Prop),#[j]->t σ H Q ->
   wpAny (model X.prog X.w) X.A (forIn ifs true fun c r=>if r=true then do let ok <- isTrue c X.env #[F,c];pure (ForInStep.yield ok) else pure (ForInStep.yield r)) (TP X pins σ Q) X.xe s
def tYes:TT:=fun _ H Q=>Q true H
theorem X5:PTs X [] tYes:=fun _ _ _ H _ I h=>wpAny_tests_nil ⟨H,I,h⟩
theorem Ir(h:PT X c t):PTs X [c] t:=fun pins s σ H Q I q=>wpAny_tests_one (h pins s σ H Q I q)
def Aa(J:It)(js:List Nat)(tt:TT)(te:TE)(σ:St)(H:Hp)(Q:VK):Prop:=∃ W:Nat->Nat->#[a]->Hp->Prop,(∃ m,W 0 m [] H)/\∀ i m ys H,W i m ys H ->
 (J.stop i H/\ys.length<=sizeLine/\∀ p,H p=none->Q (.ref p) (upd H p (.lst ys))) \/
 (J.go i H/\ys.length<sizeLine/\∃ N:#[a]->Hp->Prop,(∀ ys' H',N ys' H'->∃ m',m' < m/\W (i+1) m' ys' H')/\∀ x H',J.yld i H x H'->tt (cs js σ x) H' fun b H2=>if b=true then te (cs js σ x) H2 fun y H3=>N (ys++[y]) H3 else N ys H2)
def Ab(wi:TI)(js:List Nat)(tt:TT)(te:TE):TE:=fun σ H Q=>wi σ H fun J H1=>Aa J js tt te σ H1 Q
section
variable{X:Cx}{elt iter:Expr}{x:Str}{px pos:Pos}{ifs:List Expr}{scope:Scope}{cl:List (Str×Addr)}{ys:#[D]}{js:List Nat}
structure zcp(X:Cx)(x:Str)(scope:Scope)(cl:List (Str×Addr))(ys:#[D])(js:List Nat):Prop where
 clos:closureFor scope X.env=pure cl
 kind:scope.kind=.function
 names:∀ y∈scope.names,y.2=.local->scope.names.lookup y.1=some .local
 nocell:∀ y∈scope.names,y.2≠.cell
 own:scope.names.lookup x=some .local
 nd:(x :: ys).Nodup
 at_:js.map (X.N[·]?)=ys.map some
 free:F3 (fun y=>X.env.kindOf y=some .cell/\(relabel scope X.env).names.lookup y=some .cell/\cl.lookup y=#[V,y]) ys
 only:F3 (fun p=>#[V,p.1]=some p.2) cl
 vis:∀ y∈scope.names,y.2=.free->y.1∈ys
theorem Ml{env:Env}:∀ {names:List (Str×NameKind)} {y:Str},(names.map fun (n,k)=>if (k == NameKind.free&&env.scope.kind == .function&&env.kindOf n == some .cell) then (n,NameKind.cell) else (n,k)).lookup y=some .cell \/
  (names.map fun (n,k)=>if (k == NameKind.free&&env.scope.kind == .function&&env.kindOf n == some .cell) then (n,NameKind.cell) else (n,k)).lookup y=some .free->∃ k,(y,k)∈names/\(k=.cell\/k=.free)
 | [],_,h=>by rcases h with h|h<;>simp at h
 | (n,k) :: r,y,h=>by
   by_cases hx:y=n
   ·subst hx;refine⟨k,zxi,?_⟩;rw[zwz] at h;dsimp only at h;by_cases hc:(k == NameKind.free&&env.scope.kind == .function&&env.kindOf y == some .cell)=true
    ·simp only[zyf,beq_iff_eq] at hc;exact .inr hc.1.1
    ·rw[#[c,hc]] at h;simp only[zxo,beq_self_eq_true] at h;rcases h with h|h
     ·exact .inl (Option.some.inj h)
     ·exact .inr (Option.some.inj h)
   ·have hb:(y == n)=false:=zxa.mpr hx;have ih:=@Ml env r y;rw[zwz] at h;have key:∀ z:Str×NameKind,z.1=n->List.lookup y (z :: (r.map fun (n,k)=>if (k == NameKind.free&&env.scope.kind == .function&&env.kindOf n == some .cell) then (n,NameKind.cell) else (n,k))) =
      List.lookup y (r.map fun (n,k)=>if (k == NameKind.free&&env.scope.kind == .function&&env.kindOf n == some .cell) then (n,NameKind.cell) else (n,k)):=fun z hz=>by
     obtain⟨z1,z2⟩:=z;cases hz;simp only[zxo,hb]
    rw[key _ (by dsimp only;split<;>rfl)] at h;obtain⟨k',m,q⟩:=ih h;exact⟨k',zw7 _ m,q⟩
variable{wi:TI}{tt:TT}{te:TE}
end
theorem Wf{K:Frag}{js:List Nat}{tt:TT}{te:TE}{a:Addr}{xs:#[a]}{σ:St}{H:Hp}{Q:VK}(Pv:Nat->#[a]->Hp->Prop)(h0:Pv 0 [] H)(hl:∀ i ys H,i<=xs.length->Pv i ys H->SqL K H a xs)(hz:xs.length<=sizeLine)
  (hy:∀ i ys H,Pv i ys H->ys.length<=i)
  (hs:∀ i x ys H,xs[i]?=some x->Pv i ys H->tt (cs js σ x) H fun b H2=>if b=true then te (cs js σ x) H2 fun y H3=>Pv (i+1) (ys++[y]) H3 else Pv (i+1) ys H2)
  (hd:∀ ys H,Pv xs.length ys H->∀ p,H p=none->Q (.ref p) (upd H p (.lst ys))):Aa (Itl K a) js tt te σ H Q:=by
 refine⟨fun i m ys H=>m=xs.length-i/\i<=xs.length/\Pv i ys H,⟨xs.length,by simp,zxh _,h0⟩,?_⟩;rintro i m ys H ⟨rfl,hi,p⟩;have q:=hl i ys H hi p;have ly:=hy i ys H p;by_cases hlt:i<xs.length
 ·refine .inr ⟨⟨xs,xs[i],q,by simp[hlt]⟩,by omega,Pv (i+1),fun ys' H' p'=>⟨xs.length-(i+1),by omega,rfl,hlt,p'⟩,fun x H' y=>?_⟩;obtain⟨e,y⟩:=y;subst e;exact hs i x ys _ (y xs q) p
 ·have e:i=xs.length:=by omega
  subst e;exact .inl ⟨⟨xs,q,zww _⟩,by omega,hd ys H p⟩
theorem Qa{js:List Nat}{tt:TT}{te:TE}{lo:Int}{n:Nat}{σ:St}{H:Hp}{Q:VK}(Pv:Nat->#[a]->Hp->Prop)(h0:Pv 0 [] H)(hz:n<=sizeLine)(hy:∀ i ys H,Pv i ys H->ys.length<=i)
  (hs:∀ i ys H,i<n->Pv i ys H->tt (cs js σ (.int (lo+i))) H fun b H2=>if b=true then te (cs js σ (.int (lo+i))) H2 fun y H3=>Pv (i+1) (ys++[y]) H3 else Pv (i+1) ys H2)
  (hd:∀ ys H,Pv n ys H->∀ p,H p=none->Q (.ref p) (upd H p (.lst ys))):Aa (Itr lo n) js tt te σ H Q:=by
 refine⟨fun i m ys H=>m=n-i/\i<=n/\Pv i ys H,⟨n,by simp,zxh _,h0⟩,?_⟩;rintro i m ys H ⟨rfl,hi,p⟩;have ly:=hy i ys H p;by_cases hlt:i<n
 ·refine .inr ⟨hlt,by omega,Pv (i+1),fun ys' H' p'=>⟨n-(i+1),by omega,rfl,hlt,p'⟩,fun x H' y=>?_⟩;obtain⟨e,y⟩:=y;subst e y;exact hs i ys _ hlt p
 ·have e:i=n:=by omega
  subst e;exact .inl ⟨zww _,by omega,hd ys H p⟩
theorem Dd{js:List Nat}{te:TE}{lo:Int}{n:Nat}{σ:St}{H:Hp}{Q:VK}(f:Nat->V)(hz:n<=sizeLine)
  (hs:∀ i (R:VK),i<n->R (f i) H->te (cs js σ (.int (lo+i))) H R) (hd:∀ p,H p=none->Q (.ref p) (upd H p #[i,(List.range n).map,f])):Aa (Itr lo n) js tYes te σ H Q:=by
 refine Qa (fun i ys H'=>H'=H/\ys=(List.range i).map f) #[y,rfl] hz (fun i ys H' ⟨_,e⟩=>by rw[e,zwm,zxx];exact zww _) (fun i ys H' hi ⟨e1,e2⟩=>?_) fun ys H' ⟨e1,e2⟩ p hp=>?_
 ·subst e1;unfold tYes;dsimp only;rw[#[f,rfl]];refine hs i _ hi ⟨rfl,?_⟩;rw[e2,List.range_succ,zwq];rfl
 ·subst e1;rw[e2];exact hd p hp
theorem K4:∀ {xs:List V} {us:List Value},xs.length=us.length->(∀ (j:Nat) x u,xs[j]?=some x->us[j]?=some u->RelV x u)->Vals xs us
 | [],[],_,_=>.nil
 | x :: xs,u :: us,hl,h=>.cons (h 0 x u rfl rfl) (K4 (by simpa using hl) fun j x' u' h1 h2=>h (j+1) x' u' (by simpa using h1) (by simpa using h2))
abbrev TF:=St->Hp->(Hp->Prop)->Prop
def PF(X:Cx)(e:Expr)(t:TF):Prop :=
 ∀ (pins:#[z]) (s:Shared) (σ:St) (H:Hp) (k:Hp->Prop),#[j]->t σ H k ->
   wpAny (model X.prog X.w) X.A (eval e X.env) (fun u s'=>∃ y tk H',u=.str y tk/\y.length<=10000/\#[J,H',s']/\k H') X.xe s
def PFs(X:Cx)(es:List Expr)(t:TF):Prop :=
 ∀ (pins:#[z]) (s:Shared) (σ:St) (H:Hp) (k:Hp->Prop) (acc:Str),#[j]->acc.length+10000*es.length<=sizeLine->t σ H k ->
   Joins (model X.prog X.w) X.A X.xe (evalEach es X.env) acc (fun out s'=>out.length<=sizeLine/\∃ H',#[J,H',s']/\k H') s
def zlv:TF:=fun _ H k=>k H
def zlw(t u:TF):TF:=fun σ H k=>t σ H fun H1=>u σ H1 k
def okF(v:V):Prop:=(∃ i,v=.int i/\i.natAbs.log2<1920)\/∃ y,v=.str y/\y.length<=10000
def zmt(te:TE):TF:=fun σ H k=>te σ H fun v H1=>okF v/\k H1
def zlx(t:TF):TE:=fun σ H Q=>t σ H fun H1=>∀ z,Q (.str z) H1
section
variable{X:Cx}{e:Expr}{es:List Expr}{te:TE}{t u:TF}{pos:Pos}
theorem Xv{j}(h:x.length<=10000):PF X (.Constant (.str x) j pos) zlv:=fun _ _ _ H _ I hk=>Calls.Constant_str ⟨x,_,H,rfl,h,I.tok _,hk⟩
theorem Wz(he:PE X e te):PF X (.FormattedValue e (-1) none pos) (zmt te):=by
 intro pins s σ H k I h;refine FormattedValue_plain (thn (he pins s σ H _ I h) fun v s1 ⟨x,H1,I1,r1,ok,hk⟩=>?_);rcases ok with ⟨i,rfl,hi⟩|⟨y,rfl,hy⟩
 ·obtain⟨t,rfl⟩:=r1;refine formatField_int_small hi ⟨_,_,H1,rfl,?_,I1.tok _,hk⟩;have:=int_text_length_le (k:=1920) ⋯ hi;show (Str.ofString (toString i)).length<=10000;rw[PySem.ofString_length];omega
 ·obtain⟨t,rfl⟩:=r1;exact formatField_str (fun t' tk=>⟨y,t',H1,rfl,hy,I1.tok tk,hk⟩) (by rw[sizeLine_eq];omega)
theorem Va:PFs X [] zlv:=fun _ _ _ H _ _ I hz hk=>⟨by simpa using hz,H,I,hk⟩
theorem Z3(h1:PF X e t)(h2:PFs X es u)(hs:evalEach (e :: es) X.env=#[F,e] :: evalEach es X.env:=by rfl):PFs X (e :: es) (zlw t u):=by
 intro pins s σ H k acc I hz h;rw[hs];refine thn (h1 pins s σ H _ I h) fun v s1 ⟨y,tk,H1,e1,hy,I1,hk⟩=>⟨y,tk,e1,?_,?_⟩
 ·rw[strLen_append];rw[zw9] at hz;omega
 ·exact h2 pins s1 σ H1 k _ I1 (by rw[strLen_append];rw[zw9] at hz;omega) hk
theorem Vb(h:PFs X (e :: e' :: es) t)(hl:es.length<=100):PE X (.JoinedStr (e :: e' :: es) pos) (zlx t):=by
 intro pins s σ H Q I h';refine wpAny_JoinedStr ?_;have q:=h pins s σ H _ Str.empty I (by rw[sizeLine_eq];simp only[zw9];have:Str.empty.length=0:=rfl;omega) h';have mono:∀ (ps:List (Sem Value)) (acc:Str) (Q1 Q2:Str->Shared->Prop) (s:Shared),(∀ o s,Q1 o s->Q2 o s)->Joins (model X.prog X.w) X.A X.xe ps acc Q1 s->Joins (model X.prog X.w) X.A X.xe ps acc Q2 s:=by
  intro ps
  induction ps with
  | nil=>intro acc Q1 Q2 s m z;exact m _ _ z
  | cons p r ih=>intro acc Q1 Q2 s m z;exact thn z fun v s1 ⟨y,tk,e1,hz,z1⟩=>⟨y,tk,e1,hz,ih _ _ _ _ m z1⟩
 refine mono _ _ _ _ _ (fun out s1 ⟨hz,H1,I1,hk⟩=>⟨hz,.str out,H1,I1.tok _,#[y,_],hk out⟩) q
end
section
variable{X:Cx}
theorem zbk(hc:X.calm=true):Vx X (.type "list") (fun xs H Q=>∃ a kvs,xs=[.ref a]/\Rd H a (.dK kvs)/\∀ l,H l=none->Q (.ref l) (upd H l #[i,kvs.map,fun kv=>kV kv.1])):=by
 intro pins s σ H xs us Q I r h;obtain⟨a,kvs,rfl,ha,q⟩:=h;obtain⟨u,rfl,ru⟩:=Qq r;cases (show u=Value.ref a from ru);obtain⟨hz,lo,vs,kv,o,es,ep,e1,e2⟩:=Pb I.hok ha;have hl:kvs.length=vs.length:=KV.length kv;refine PySem.W.kdl_call (PySem.W.kdl_dict (knd:=Yr X.prog X.w) (kvs:=vs) (ep:=ep) lo) (I.ok.hd hc) ⟨o,es,e1,e2⟩ (by rw[<- hl];exact hz) fun h' tk acc c hk hS hacc=>?_;have hf:H s.heap.objs.size=none:=I.hok.fresh (zww _);refine⟨.ref s.heap.objs.size,upd H s.heap.objs.size #[i,kvs.map,fun kv=>kV kv.1],I.laid (t':=tk) hk (zww _) ?_,rfl,q _ hf⟩;obtain⟨accl⟩:=acc;refine⟨by rw[zwm];exact hz,accl,c,?_,hS⟩;have hlen:accl.length=vs.length:=by have:=hacc.1;simpa using this
 refine K4 (by rw[zwm,hl,hlen]) fun j x u hx hu=>?_;obtain⟨k,y,hk1,hk2⟩:=hacc.2 j u (by simpa using hu);have ek:=congrArg (·[j]?) (KV.keys kv);simp only[zwu,hk1,zxu] at ek;rw[zwu] at hx;cases hkv:kvs[j]? with
 | none=>rw[hkv] at hx;cases hx
 | some p =>
   rw[hkv] at hx ek;have e1:kV p.1=x:=Option.some.inj hx;have e2:p.1=k:=Option.some.inj ek;rw[<- e1,e2];rcases Y5 hk2 with ⟨i,t,rfl,rfl⟩|⟨z,t,rfl,rfl⟩
   ·exact#[y,t]
   ·exact#[y,t]
end
inductive Dt where
 | non|bl (b:Bool)|int (i:Int)|str (x:Str)|lst (xs:List Dt)|tup (xs:List Dt)
mutual
inductive Is(K:Frag)(H:Hp):V->Dt->Prop where
 | non:Is K H .non .non
 | bl (b:Bool):Is K H (.bl b) (.bl b)
 | int (i:Int):Is K H (.int i) (.int i)
 | str (x:Str):Is K H (.str x) (.str x)
 | lst {a:Addr} {xs:#[a]} {ds:List Dt} (h:SqL K H a xs) (hs:Qr K H xs ds):Is K H (.ref a) (.lst ds)
 | tup {a:Addr} {xs:#[a]} {ds:List Dt} (h:SqT K H a xs) (hs:Qr K H xs ds):Is K H (.ref a) (.tup ds)
inductive Qr(K:Frag)(H:Hp):#[a]->List Dt->Prop where
 | nil:Qr K H [] []
 | cons {x:V} {xs:#[a]} {d:Dt} {ds:List Dt} (h:Is K H x d) (t:Qr K H xs ds):Qr K H (x :: xs) (d :: ds)
end
mutual
def eqD:Dt->Dt->Bool
 | .non,.non=>true
 | .bl a,.bl b=>a == b
 | .bl a,.int b=>(if a then 1 else 0) == b
 | .int a,.bl b=>a == (if b then 1 else 0)
 | .int a,.int b=>a == b
 | .str a,.str b=>a == b
 | .lst xs,.lst ys=>Oq xs ys
 | .tup xs,.tup ys=>Oq xs ys
 | _,_=>false
def Oq:List Dt->List Dt->Bool
 | [],[]=>true
 | x :: xs,y :: ys=>eqD x y&&Oq xs ys
 | _,_=>false
end
mutual
theorem Ac:∀ d:Dt,eqD d d=true
 | .non=>by simp[eqD]
 | .bl _=>by simp[eqD]
 | .int _=>by simp[eqD]
 | .str _=>by simp[eqD]
 | .lst xs=>by rw[eqD];exact Lu xs
 | .tup xs=>by rw[eqD];exact Lu xs
theorem Lu:∀ ds:List Dt,Oq ds ds=true
 | []=>by simp[Oq]
 | d :: ds=>by rw[Oq,Ac d,Lu ds];rfl
end
section
variable{X:Cx}{pins:#[z]}{σ:St}{H:Hp}{s:Shared}
mutual
def toPy:Dt->PyData
 | .non=>.none
 | .bl b=>.bool b
 | .int i=>.int i
 | .str x=>.str x
 | .lst xs=>.list (Wt xs)
 | .tup xs=>.tuple (Wt xs)
def Wt:List Dt->List PyData
 | []=>[]
 | d :: ds=>toPy d :: Wt ds
end
mutual
theorem Mm:∀ d e:Dt,PyData.eqv (toPy d) (toPy e)=eqD d e
 | .non,e=>by cases e<;>simp[toPy,eqD,PyData.eqv]
 | .bl _,e=>by cases e<;>simp[toPy,eqD,PyData.eqv]
 | .int _,e=>by cases e<;>simp[toPy,eqD,PyData.eqv]
 | .str _,e=>by cases e<;>simp[toPy,eqD,PyData.eqv]
 | .lst xs,.lst ys=>by rw[toPy,toPy,PyData.eqv,eqD];exact Lv xs ys
 | .tup xs,.tup ys=>by rw[toPy,toPy,PyData.eqv,eqD];exact Lv xs ys
 | .lst _,.non=>by simp[toPy,eqD,PyData.eqv]
 | .lst _,.bl _=>by simp[toPy,eqD,PyData.eqv]
 | .lst _,.int _=>by simp[toPy,eqD,PyData.eqv]
 | .lst _,.str _=>by simp[toPy,eqD,PyData.eqv]
 | .lst _,.tup _=>by simp[toPy,eqD,PyData.eqv]
 | .tup _,.non=>by simp[toPy,eqD,PyData.eqv]
 | .tup _,.bl _=>by simp[toPy,eqD,PyData.eqv]
 | .tup _,.int _=>by simp[toPy,eqD,PyData.eqv]
 | .tup _,.str _=>by simp[toPy,eqD,PyData.eqv]
 | .tup _,.lst _=>by simp[toPy,eqD,PyData.eqv]
theorem Lv:∀ ds es:List Dt,PyData.eqvAll (Wt ds) (Wt es)=Oq ds es
 | [],[]=>by simp[Wt,Oq,PyData.eqvAll]
 | [],_ :: _=>by simp[Wt,Oq,PyData.eqvAll]
 | _ :: _,[]=>by simp[Wt,Oq,PyData.eqvAll]
 | d :: ds,e :: es=>by rw[Wt,Wt,PyData.eqvAll,Oq,Mm d e,Lv ds es]
end
mutual
theorem Is.reads(I:#[j]):∀ {d:Dt} {x:V} {u:Value},Is X.K H x d->RelV x u->∃ as,Reads s.heap u (toPy d) as
 | _,_,_,.non,r=>by cases r;exact⟨_,.none⟩
 | _,_,_,.bl b,r=>by cases r;exact⟨_,.bool b⟩
 | _,_,_,.int i,r=>by obtain⟨t,rfl⟩:=r;exact⟨_,.int i t⟩
 | _,_,_,.str i,r=>by obtain⟨t,rfl⟩:=r;exact⟨_,.str i t⟩
 | _,_,_,.lst h hs,r=>by
   cases r;obtain⟨its,r1,⟨o,n',e1,e2,e3,e4⟩,_⟩:=I.list h;obtain⟨as,q⟩:=Qr.reads I hs r1;rw[toPy];exact⟨_,.list e1 e2 e4 (by simpa using q)⟩
 | _,_,_,.tup h hs,r=>by
   cases r;obtain⟨its,r1,⟨o,e1,e2,n',e4⟩,_⟩:=I.tuple h;obtain⟨as,q⟩:=Qr.reads I hs r1;rw[toPy];exact⟨_,.tuple e1 e2 e4 (by simpa using q)⟩
theorem Qr.reads(I:#[j]):∀ {ds:List Dt} {xs:List V} {us:List Value},Qr X.K H xs ds->Vals xs us->∃ as,ReadsAll s.heap us (Wt ds) as
 | _,_,_,.nil,r=>by cases r;exact⟨_,.nil⟩
 | _,_,_,.cons h t,r=>by
   cases r with
   | cons r1 r2 =>
     obtain⟨as,q1⟩:=Is.reads I h r1;obtain⟨bs,q2⟩:=Qr.reads I t r2;exact⟨_,.cons q1 q2⟩
end
def shD(d:Dt):Prop:=SeqAt.shaped (toPy d)=true
inductive zh7(K:Frag)(neg:Bool)(x:V)(y:V)(H:Hp)(Q:VK):Prop where
 | mk(d)(e)(_:Is K H x d)(_:Is K H y e)(_:shD d)(_:shD e)(_:Q (.bl (if neg then !eqD d e else eqD d e)) H)
theorem zkb(hu:X.A.units+64<cLine):OpR X (compareOp .Eq) (zh7 X.K false):=by
 intro pins s σ H x y v u Q I rx ry h;obtain⟨d,e,h1,h2,s1,s2,q⟩:=h;obtain⟨as,r1⟩:=h1.reads I rx;obtain⟨bs,r2⟩:=h2.reads I ry;exact eq_dataH r1 r2 s1 s2 hu (by rw[Mm];exact⟨.bl _,H,I,rfl,q⟩)
theorem zkc(hu:X.A.units+64<cLine):OpR X (compareOp .NotEq) (zh7 X.K true):=by
 intro pins s σ H x y v u Q I rx ry h;obtain⟨d,e,h1,h2,s1,s2,q⟩:=h;obtain⟨as,r1⟩:=h1.reads I rx;obtain⟨bs,r2⟩:=h2.reads I ry;exact ne_dataH r1 r2 s1 s2 hu (by rw[Mm];exact⟨.bl _,H,I,rfl,q⟩)
end
section
variable{P:Program}{w:World}{K:Frag}{mg:#[U]}{base:Heap}{x m:Str}{k j:Nat}{ps:#[D]}{sp:Sp}{C:Addr}
def Z4(P:Program)(w:World)(K:Frag)(mg:#[U])(base:Heap)(x:Str)(k:Nat)(ps:#[D])(sp:Sp):Prop :=
 ∃ (f:Addr) (fd:FuncData),FnOk P w K mg base #[k] k f fd ps sp/\mg x=#[e,f]/\PySem.W.keepIn K (.ref f)=true/\Rp K fd ps []
def Zw(P:Program)(w:World)(K:Frag)(mg:#[U])(base:Heap)(C:Addr)(m:Str)(k:Nat)(ps:#[D])(sp:Sp):Prop :=
 ∃ (f:Addr) (fd:FuncData),FnOk P w K mg base #[k] k f fd ps sp/\zfk K C m f/\Rp K fd ps []
def Tt(P:Program)(w:World)(K:Frag)(mg:#[U])(base:Heap)(x:Str)(C:Addr)(k:Nat)(ps:#[D])(sp:Sp):Prop :=
 ∃ (f:Addr) (fd:FuncData),FnOk P w K mg base #[k] k f fd ps sp/\Mk K C f/\mg x=#[e,C]/\Rp K fd ps []
theorem Ae:Ve #[k] X E0:=fun _ _ _ _ _ _ _ h=>by obtain⟨_,_,_,_,_,_,_,_,_,_,z⟩:=h;exact z.elim
structure zm7(K:Frag)(mg:#[U])(x:Str)(st:Stmt)(f:Addr)(fd:FuncData):Prop where
 fn:#[l,x,x,st]
 nm:mg x=#[b,.ref,f]
end
section
variable{X:Cx}{k:Nat}{C:Addr}{ps:#[D]}{sp:Sp}{E:XK}{x m:Str}{p pos apos:Pos}{e o:Expr}{es:List Expr}{ta:TE}{t:TA}
theorem Af(D:Z4 X.prog X.w X.K X.mg X.base x k ps sp)(hr:Vj k X.A)(hx:Ve (CX1 X.prog X.w) X E)(hg:Gl X x)(ha:PA X (e :: es) t)(hdb:(x == ("__debug__":Str))=false:=by decide)
  (he:starEach (e :: es) X.env=(false,#[F,e]) :: starEach es X.env:=by rfl) (hpl:#[ax]=false:=by rfl):PE X (.Call (.Name x p) (e :: es) [] pos) (zcg sp [] E t):=by
 obtain⟨f,fd,F,hm,kp,b⟩:=D;exact zhs F hr hg hm kp b .nil hx ha hdb he hpl
theorem Y0(he:PE X o ta)(c:Cls X.K C)(M:Zw X.prog X.w X.K X.mg X.base C m k ps sp)(hr:Vj k X.A)(hx:Ve (CX1 X.prog X.w) X E)(ha:PA X (e :: es) t)
  (hst:starEach (e :: es) X.env=(false,#[F,e]) :: starEach es X.env:=by rfl) (hpl:#[ax]=false:=by rfl)
  (ht:#[F,.Call (.Attribute o m apos) (e :: es) [] pos]=(do
   let ov <- #[F,o]
   standAt apos.atName
   let (f,first) <- holding [ov] (getMethod ov m pl)
   callWith pos f first (backTo pos (starEach (e :: es) X.env)) (backToKw pos (keywordEach [] X.env))):=by rfl):PE X (.Call (.Attribute o m apos) (e :: es) [] pos) (Bx C m sp [] E ta t):=by
 obtain⟨f,fd,F,hm,b⟩:=M;exact zht he c hm F hr b .nil hx ha hst hpl ht
theorem Ym(he:PE X o ta)(c:Cls X.K C)(M:Zw X.prog X.w X.K X.mg X.base C m k ps sp)(hr:Vj k X.A)(hx:Ve (CX1 X.prog X.w) X E)
  (ht:#[F,.Call (.Attribute o m apos) [] [] pos]=(do
   let ov <- #[F,o]
   standAt apos.atName
   let (f,first) <- holding [ov] (getMethod ov m pl)
   callWith pos f first (backTo pos (starEach [] X.env)) (backToKw pos (keywordEach [] X.env))):=by rfl):PE X (.Call (.Attribute o m apos) [] [] pos) (Bx C m sp [] E ta tNil):=by
 obtain⟨f,fd,F,hm,b⟩:=M;exact zfl he c hm F hr b .nil hx ht
theorem Cr(M:Tt X.prog X.w X.K X.mg X.base x C k ps sp)(hr:Vj (k+1) X.A)(hx:Ve (CX1 X.prog X.w) X E)(hg:Gl X x)(ha:PA X (e :: es) t)(hdb:(x == ("__debug__":Str))=false:=by decide)
  (he:starEach (e :: es) X.env=(false,#[F,e]) :: starEach es X.env:=by rfl) (hpl:#[ax]=false:=by rfl):PE X (.Call (.Name x p) (e :: es) [] pos) (zch C sp [] E t):=by
 obtain⟨f,fd,F,mk,hm,b⟩:=M;exact zhu mk F hr hg hm b .nil hx ha hdb he hpl
theorem zcq(M:Tt X.prog X.w X.K X.mg X.base x C k ps sp)(hr:Vj (k+1) X.A)(hx:Ve (CX1 X.prog X.w) X E)(hg:Gl X x)(hdb:(x == ("__debug__":Str))=false:=by decide):PE X (.Call (.Name x p) [] [] pos) (zch C sp [] E tNil):=by
 obtain⟨f,fd,F,mk,hm,b⟩:=M;exact zfm mk F hr hg hm b .nil hx hdb
theorem Ww(hg:Gl X x)(hm:∃ t,X.mg x=some (.int i t))(hd:(x == ("__debug__":Str))=false:=by decide):PE X (.Name x pos) (tC (.int i)):=by
 obtain⟨t,hm⟩:=hm;exact zcb hg hm #[y,t] hd
theorem Wl(hg:Gl X x)(hm:X.mg x=#[b,.ref,C])(hd:(x == ("__debug__":Str))=false:=by decide):PE X (.Name x pos) (tC (.ref C)):=zcb hg hm (show RelV (.ref C) (.ref C) from rfl) hd
end
inductive zly(te:TE)(D:Q7)(σ:L2.St)(x:V)(H1:Hp):Prop where
 | mk(l)(xs)(_:x=.ref l)(_:#[A,H1,l,xs])(_:te σ H1 fun y H2=>∃ ys,H2 l=#[x,ys]/\ys.length<sizeLine/\D.nx σ (upd H2 l (.lst (ys++[y]))))
def zlz(to te:TE):TS:=fun D σ H=>to σ H fun x H1=>zly te D σ x H1
theorem Y3(ho:PE X o to)(he:PE X e te)(hbase:attributeBase o "append" X.env #[F,o]=eval o X.env:=by rfl)
  (hst:starEach [e] X.env=[(false,#[F,e])]:=by rfl)
  (hline:(apos.endLine == cpos.line)=true:=by rfl) (hs:swapsWith (.Call (.Attribute o "append" apos) [e] [] cpos) none pos.line X.env=pure false:=by rfl):PS X (.Expr (.Call (.Attribute o "append" apos) [e] [] cpos) pos) (zlz to te):=by
 intro pins s σ H D I h;refine wpAny_Expr ?_ I.quiet;refine wpAny_Call_method_late hbase (by rw[hst];rfl) hline rfl (thn (ho pins s σ H _ I h) fun v s1 ⟨x,H1,I1,r1,l,xs,e1,hl,q1⟩=>?_);subst e1;obtain⟨h1,h2⟩:=zbg (T:="list") I1 r1 (.inl ⟨rfl,_,SqL.of hl⟩);refine⟨"list","list.append",PySem.F.plainAttrs_list,PySem.F.slot_list_append,PySem.F.type_list_append,h1,h2,?_⟩;rw[hst];refine Calls.callWith_builtin rfl (Calls.evalArgs_plain ?_);refine Calls.spliced_cons (thn (he pins s1 σ H1 _ I1 q1) fun u s2 ⟨y,H2,I2,r2,ys,hl2,hz,q2⟩=>Calls.spliced_nil ?_);refine thn (zdr pins s2 σ H2 (.ref l) [y] v [u] (fun v H3=>v=.non/\D.nx σ H3) I2 r1 (.cons r2 .nil) ⟨l,ys,y,rfl,rfl,hl2,hz,rfl,q2⟩) fun z s3 ⟨zv,H3,I3,rz,ez,q3⟩=>?_;subst ez;cases rz;exact⟨σ,H3,I3,q3⟩
section
variable{X:Cx}{K:Frag}
theorem zf6(hK:X.K=K):IxR X (Fw K):=hK▸zh2
theorem zh8(hK:X.K=K):IxR X (zfv K):=hK▸zj0
theorem F6(hK:X.K=K):Vx X (.builtin "len") (fun xs H Q=>∃ p ys,xs=[.ref p]/\(SqL K H p ys\/SqT K H p ys)/\Q (.int ys.length) H):=hK▸Ck
theorem Xf(hK:X.K=K):Vx X (.type "list") (fun xs H Q=>∃ p ys,xs=[.ref p]/\(SqL K H p ys\/SqT K H p ys)/\∀ l,H l=none->Q (.ref l) (upd H l (.lst ys))):=hK▸Cm
theorem Z8(hK:X.K=K):Vx X (.builtin "isinstance") (rIsI K):=hK▸zf3
theorem Ng(hK:X.K=K):OpR X (compareOp .In) (rIn K false):=hK▸zdq
theorem O4(hK:X.K=K):OpR X (compareOp .NotIn) (rIn K true):=hK▸Cj
theorem zh9(hK:X.K=K)(hu:X.A.units+64<cLine):OpR X (compareOp .Eq) (zh7 K false):=hK▸zkb hu
theorem zia(hK:X.K=K)(hu:X.A.units+64<cLine):OpR X (compareOp .NotEq) (zh7 K true):=hK▸zkc hu
theorem Mn(hK:X.K=K):SlR X (zj1 K):=hK▸zh3
variable{o e l tg value a:Expr}{f:Str}{pos pos':Pos}{ta tv tl:TE}{es:List Expr}{k n:Nat}{t:TGs}
theorem Zu(hK:X.K=K)(he:PE X e ta)(hb:attributeBase e f X.env #[F,e]=#[F,e]):PE X (.Attribute e f pos) (zlg K ta f):=hK▸zjo he hb
theorem Xg(hK:X.K=K)(ha:PE X o ta)(hv:PE X value tv)(hs:swapsWith value (some (.Attribute o f pos')) pos.line X.env=pure false):PS X (.Assign [.Attribute o f pos'] value pos) (zli K ta tv f):=hK▸zjp ha hv hs
theorem Yh(hK:X.K=K)(hl:PE X l tl):PI X tg l (Bv K tl):=hK▸zhm hl
theorem Xm(hK:X.K=K)(hc:X.calm=true)(h:PGs X es t)(hn:(assignEach es X.env).length=n:=by rfl)(hst:(assignEach es X.env).findIdx? (·.1)=none:=by rfl):PG X (.Tuple es k pos) (zk9 K n t):=hK▸zjk hc h hn hst
theorem De(hK:X.K=K)(ha:PE X a ta)(he:∀ whole,isTrue a X.env whole=(do let v <- whole;standAt a.pos;holding [v] (truthy v))):PT X a (fun σ H Q=>ta σ H fun x H'=>∃ k,TruV K x H' k/\Q k H'):=hK▸zfh ha he
end
section
variable{X:Cx}{K:Frag}
theorem zl0(r:Vals [x,y,z] us):∃ u v w',us=[u,v,w']/\RelV x u/\RelV y v/\RelV z w':=by
 cases r with
 | cons r1 r2 =>
   obtain⟨u,v,rfl,a,b⟩:=zcf r2;exact⟨_,_,_,rfl,r1,a,b⟩
theorem zdy(hc:X.calm=true):Vx X (.builtin "min") (fun xs H Q=>∃ i j k,xs=[.int i,.int j,.int k]/\Q (.int (if j<i then (if k<j then k else j) else (if k<i then k else i))) H):=by
 intro pins s σ H xs us Q I r h;obtain⟨i,j,k,rfl,q⟩:=h;obtain⟨u,v,w',rfl,⟨t,rfl⟩,⟨t',rfl⟩,⟨t'',rfl⟩⟩:=zl0 r;refine min_three_ints (I.ok.hd hc) fun h' tk kp=>⟨_,H,I.kept kp,?_,q⟩
 by_cases h1:j<i
 ·rw[#[f,h1],#[f,h1]];by_cases h2:k<j
  ·rw[#[f,h2],#[f,h2]];exact#[y,_]
  ·rw[#[c,h2],#[c,h2]];exact#[y,_]
 ·rw[#[c,h1],#[c,h1]];by_cases h2:k<i
  ·rw[#[f,h2],#[f,h2]];exact#[y,_]
  ·rw[#[c,h2],#[c,h2]];exact#[y,_]
theorem zcr:∀ {bs:List Bool} {its:List Value} {i:Nat} {v:Value},Vals (bs.map V.bl) its->its[i]?=some v->∃ b,bs[i]?=some b/\v=.bool b
 | [],_,_,_,.nil,e=>by simp at e
 | b :: bs,_,0,v,.cons r t,e=>⟨b,rfl,by
     have e:_=v:=Option.some.inj e;rw[<- e];exact r⟩
 | b :: bs,_,i+1,v,.cons r t,e=>zcr (i:=i) t e
theorem F7:∀ (bs:List Bool),((List.range bs.length).any fun i=>(bs[i]?).getD false)=bs.any id:=fun bs=>by
 rw[zyh,zyb,zyb];constructor
 ·rintro⟨i,hi,e⟩;have hi:=zxs.mp hi;rw[zwn hi] at e;exact⟨_,zxg hi,e⟩
 ·rintro⟨b,hb,e⟩;obtain⟨i,hi,rfl⟩:=zxr hb;exact⟨i,zxs.mpr hi,by rw[zwn hi];exact e⟩
theorem zdz(hK:X.K=K)(hc:X.calm=true):Vx X (.builtin "any") (fun xs H Q=>∃ (l:Addr) (bs:List Bool),xs=[.ref l]/\SqL K H l (bs.map V.bl)/\Q (.bl (bs.any id)) H):=by
 subst hK;intro pins s σ H xs us Q I r h;obtain⟨l,bs,rfl,hl,q⟩:=h;obtain⟨u,rfl,ru⟩:=Qq r;cases ru;obtain⟨its,r',pl,hz⟩:=I.list hl;have hlen:its.length=bs.length:=by have:=r'.length;rw[zwm] at this;exact this.symm
 have hil:=pl.isList;have hlt:l<s.heap.objs.size:=by obtain⟨_,e,_⟩:=hil;exact Heap.lt_size e
 refine call_any_walk (wpAny_pyIter_list hil ?_);refine⟨s.heap.objs.size,[s.heap.objs.size,l],[s.heap.objs.size],its.toArray.size,_,_,fun i=>(bs[i]?).getD false,rfl,Walks.list (A:=X.A.in1) (I.ok.hd hc) _ l (zxd hlt) its.toArray,
  ⟨⟨_,Heap.get?_push_size _ rfl,rfl,rfl⟩,hil.push _⟩,fun i v s' Q' E' hP hQ=>?_,fun h' tk hk=>?_⟩
 ·obtain⟨b,e,rfl⟩:=zcr r' (by simpa using hP);simp only[e,Option.getD_some] at hQ;exact wpAny_truthy_bool hQ
 ·have e:((List.range its.toArray.size).any fun i=>(bs[i]?).getD false)=bs.any id:=by
   rw[zw1,hlen];exact F7 bs
  rw[e];refine⟨.bl (bs.any id),H,I.kept fun b o eb=>?_,rfl,q⟩;refine hk b o (fun hm=>?_) #[ag,_,eb];rw[zwt.mp hm] at eb;exact zx8 _ (Heap.lt_size eb)
theorem Hr(hK:X.K=K):Vx X (.type "tuple") (fun xs H Q=>∃ p ys,xs=[.ref p]/\((SqL K H p ys/\∀ l,H l=none->Q (.ref l) (upd H l (.tup ys)))\/(SqT K H p ys/\Q (.ref p) H))):=hK▸Fy
end
end L2
namespace G
open PySem PySem.Spec PyProof.Rows L2
theorem sz1:1<=sizeLine:=by decide
theorem sz2:2<=sizeLine:=by decide
theorem sz3:3<=sizeLine:=by decide
theorem sz4:4<=sizeLine:=by decide
theorem szN(h:n<=1000):n<=sizeLine:=Nat.le_of_lt (Rt h)
theorem itD{p:Prop}[Decidable p]{A B:Prop}(h1:p->A)(h2:¬ p->B):if decide p=true then A else B:=by
 by_cases h:p
 ·rw[zws h,#[f,rfl]];exact h1 h
 ·rw[zwx h,if_neg ⋯];exact h2 h
theorem itB{b:Bool}{A B:Prop}(h1:b=true->A)(h2:b=false->B):if b=true then A else B:=by
 cases b
 ·exact iteF (h2 rfl)
 ·exact iteT (h1 rfl)
theorem Pd:#[g,V.int i=V.int j]=#[g,i=j]:=by
 by_cases h:i=j
 ·subst h;simp
 ·rw[zwx h,zwx fun z=>h (V.int.inj z)]
theorem itV{i j:Int}{A B:Prop}(h1:i=j->A)(h2:¬ i=j->B):if decide (V.int i=V.int j)=true then A else B:=by
 rw[Pd];exact itD h1 h2
theorem Ze(h:H p=none):Same H (upd H p o):=fun b u e=>by rw[Zh (Zi e h)];exact e
def Yc(i:Int):Prop:=i.natAbs.log2<1920
theorem Yk(h:i.natAbs<=10 ^ 60):Yc i:=by
 unfold Yc;by_cases h0:i.natAbs=0
 ·rw[h0];decide
 ·exact(Nat.log2_lt h0).mpr (zx5 h ⋯)
theorem Z0(h:-1000<=i)(h':i<=1000):Yc i:=Yk (zw6 (show i.natAbs<=1000 by omega) ⋯)
theorem Wg{xs:#[t]}{i:Int}(h0:0<=i)(h1:i<xs.length):atI (xs.map V.int) i=#[b,.int,xs.getD i.toNat 0]:=by
 obtain⟨k,rfl⟩:∃ k:Nat,i=k:=⟨i.toNat,by omega⟩;refine Z7 ?_;have hk:k<xs.length:=by omega
 rw[zwu,zwn hk,zxu,zw2,zxc,zwn hk];rfl
theorem Wu(h1:∀ Q:Bool->Hp->Prop,Q b H->t σ H Q)(h2:∀ Q:Bool->Hp->Prop,Q c H->u σ H Q)(Q:Bool->Hp->Prop)(h:Q (b||c) H):tOr t u σ H Q:=by
 refine h1 _ ?_;cases b with
 | true=>exact h
 | false=>exact h2 _ h
theorem Y1(h1:∀ Q:Bool->Hp->Prop,Q b H->t σ H Q)(h:if b=true then A D σ H else B D σ H):Cf t A B D σ H:=h1 _ h
theorem Yf(h:A { D with nx:=B D } σ H):Z1 A B D σ H:=h
theorem Ag(J:L2.St->Hp->Prop)(hc:∀ Q:Bool->Hp->Prop,Q b H->c σ H Q)(h1:b=true->∀ N:L2.St->Hp->Prop,(∀ σ' H',J σ' H'->N σ' H')->t { D with nx:=N } σ H)
  (h2:b=false->∀ N:L2.St->Hp->Prop,(∀ σ' H',J σ' H'->N σ' H')->e { D with nx:=N } σ H) (h3:∀ σ' H',J σ' H'->u D σ' H'):Z1 (Cf c t e) u D σ H:=by
 refine hc _ ?_;cases b with
 | true=>rw[#[f,rfl]];exact h1 rfl _ h3
 | false=>rw[if_neg ⋯];exact h2 rfl _ h3
theorem Zt(h:D.nx σ H):zfa D σ H:=h
theorem Hs{K:Frag}{C:Addr}{v:Value}{r:Bool}(e:PySem.W.mroIn K C v=some r):(PySem.W.clsIn K C).isSome=true:=by
 obtain⟨cd,h,_⟩:=Option.bind_eq_some_iff.mp e;rw[h];rfl
theorem zkd(K:Frag):PySem.W.kitOne K (.type "int") (.type "int")=some true:=rfl
theorem zke(K:Frag):PySem.W.kitOne K (.type "int") (.type "bool")=some false:=by with_unfolding_all rfl
theorem Lw(K:Frag):PySem.W.kitOne K (.type "list") (.type "list")=some true:=rfl
theorem zf7(K:Frag):PySem.W.kitOne K (.type "tuple") (.type "tuple")=some true:=rfl
theorem zkf(K:Frag):PySem.W.kitOne K (.type "str") (.type "str")=some true:=rfl
inductive TupL(H:Hp):#[a]->List (List V)->Prop where
 | nil:TupL H [] []
 | cons {t:Addr} {r:#[a]} {ts:#[a]} {R:List (List V)} (h:H t=#[b,.tup,r]) (q:TupL H ts R):TupL H (.ref t :: ts) (r :: R)
theorem TupL.mono(k:#[aj]):∀ {ts:List V} {R:List (List V)},TupL H ts R->TupL H' ts R
 | _,_,.nil=>.nil
 | _,_,.cons h r=>.cons (k _ _ h) (TupL.mono k r)
theorem TupL.same(e:#[v])(h:TupL H ts R):TupL H' ts R:=h.mono fun t xs q=>e _ _ q
theorem TupL.length:∀ {ts:List V} {R:List (List V)},TupL H ts R->ts.length=R.length
 | _,_,.nil=>rfl
 | _,_,.cons _ r=>by simp[TupL.length r]
theorem TupL.snoc(h:H t=#[b,.tup,x]):∀ {ts:List V} {R:List (List V)},TupL H ts R->TupL H (ts++[.ref t]) (R++[x])
 | _,_,.nil=>.cons h .nil
 | _,_,.cons h' r=>.cons h' (TupL.snoc h r)
theorem TupL.get:∀ {ts:List V} {R:List (List V)} {i:Nat} {x:V},TupL H ts R->ts[i]?=some x->∃ t r,x=.ref t/\R[i]?=some r/\H t=#[E,r]
 | _,_,_,_,.nil,e=>by simp at e
 | _,_,0,_,.cons h _,e=>by simp at e;subst e;exact⟨_,_,rfl,rfl,h⟩
 | _,_,i+1,x,.cons _ r,e=>by
   obtain⟨t,n,h1,h2,h3⟩:=TupL.get (i:=i) (x:=x) r (by simpa using e);exact⟨t,n,h1,by simpa using h2,h3⟩
theorem TupL.getR:∀ {ts:List V} {R:List (List V)} {i:Nat} {r:List V},TupL H ts R->R[i]?=some r->∃ t,ts[i]?=#[e,t]/\H t=#[E,r]
 | _,_,_,_,.nil,e=>by simp at e
 | _,_,0,_,.cons h _,e=>by simp at e;subst e;exact#[w,_,h]
 | _,_,i+1,x,.cons _ r,e=>by
   obtain⟨t,h1,h2⟩:=TupL.getR (i:=i) (r:=x) r (by simpa using e);exact⟨t,by simpa using h1,h2⟩
theorem TupL.set(h:H t=#[b,.tup,x]):∀ {ts:List V} {R:List (List V)} (i:Nat),TupL H ts R->TupL H (ts.set i (.ref t)) (R.set i x)
 | _,_,_,.nil=>.nil
 | _,_,0,.cons h' r=>.cons h r
 | _,_,i+1,.cons h' r=>.cons h' (TupL.set h i r)
inductive Cs(vs:#[a])(H:Hp)(Q:VK)(_:XK):Prop where
 | mk(i)(_:vs=[.int i])(_:Q (.bl true) H)
def Wb(ns:#[t])(k:Nat):Int:=(ns[k]?).getD 0
inductive zd0(K:Frag)(vs:#[a])(H:Hp)(Q:VK)(_:XK):Prop where
 | mk(b:Addr)(ns:#[t])(k:Nat)(_:vs=[.ref b,.int k])(_:SqL K H b (ns.map V.int))(_:Q (.int (Wb ns k)) H)
def zkg(c k:Int):Int:=(c*48271+k)%2147483647
def zl1(c k:Int):Int:=(zkg c k*69621+7*k)%2147483629
def zmu(c k:Int):Int:=(zl1 c k*39373+zkg c k)%2147483587
def zbl(c k:Int):Int:=(zkg c k*2147483647+zl1 c k)*2147483647+zmu c k
inductive zcs(vs:#[a])(H:Hp)(Q:VK)(_:XK):Prop where
 | mk(c)(k)(_:vs=#[M,c,k])(_:Q (.int (zbl c k)) H)
def stp(c:Int):Int:=([1,2,5,10,100,500,998]:List Int).getD (c%7).toNat 0
def zd1(c:Int)(j:Nat):Int:=1+(c/7+stp c*(j:Int))%999
def K5(c:Int)(many:Nat):#[t]:=(List.range many).map (zd1 c)
inductive Hu(vs:#[a])(H:Hp)(Q:VK)(_:XK):Prop where
 | mk(c:Int)(many:Nat)(_:vs=#[M,c,many])(_:many<=1000)(_:#[az,l,(K5 c many).map,V.int,Q,l])
def Ct(c:Int):Int:=([1,2,5,10,50,97,98]:List Int).getD (c%7).toNat 0
def Df(c:Int)(j:Nat):Int:=1+(c/7+Ct c*(j:Int))%99
def Pf(c:Int)(many:Nat):#[t]:=(List.range many).map (Df c)
inductive zct(vs:#[a])(H:Hp)(Q:VK)(_:XK):Prop where
 | mk(c:Int)(many:Nat)(_:vs=#[M,c,many])(_:many<=1000)(_:#[az,l,(Pf c many).map,V.int,Q,l])
def oneV(x:V):Prop:=x=.non\/∃ i,x=.int i
inductive Og(vs:#[a])(H:Hp)(Q:VK)(_:XK):Prop where
 | mk(x)(_:vs=[x,x])(_:oneV x)(_:Q (.bl true) H)
inductive Hv(K:Frag)(vs:#[a])(H:Hp)(Q:VK)(_:XK):Prop where
 | mk(b c:Addr)(xs:#[a])(_:#[ac,b,c])(_:#[A,H,b,xs])(_:SqL K H c xs)(_:(∀ x∈xs,oneV x))(_:xs.length<=1000)(_:Q (.bl true) H)
inductive Ly(K:Frag)(vs:#[a])(H:Hp)(Q:VK)(_:XK):Prop where
 | mk(b c:Addr)(xs:#[a])(_:#[ac,b,c])(_:H b=#[b,.tup,xs])(_:SqT K H c xs)(_:(∀ x∈xs,oneV x))(_:xs.length<=1000)(_:Q (.bl true) H)
inductive Lz(K:Frag)(vs:#[a])(H:Hp)(Q:VK)(_:XK):Prop where
 | mk(b c:Addr)(ts us:#[a])(R:List (List V))(_:#[ac,b,c])(_:#[A,H,b,ts])(_:SqL K H c us)(_:TupL H ts R)(_:TupL H us R)(_:(∀ r∈R,r.length<=1000/\∀ x∈r,oneV x))(_:R.length<=1000)(_:Q (.bl true) H)
inductive zcu(K:Frag)(vs:#[a])(H:Hp)(Q:VK)(_:XK):Prop where
 | mk(b:Addr)(ns:#[t])(_:vs=[.ref b])(_:SqL K H b (ns.map V.int))(_:ns.length<=63)(_:∀ H',Q (.bl true) H')
structure Row where
 h:Int
 g:Int
 d:Int
 w:#[G]
def oV:#[G]->V
 | none=>.non
 | some n=>.int n
def row4(r:Row):#[a]:=[.int r.h,.int r.g,.int r.d,oV r.w]
theorem zkh(o:#[G]):oneV (oV o):=by
 cases o with
 | none=>exact .inl rfl
 | some n=>exact .inr ⟨n,rfl⟩
theorem zki{H:Hp}{ts:#[a]}{rs:List Row}{i:Nat}{x:V}(h:#[L,H,rs.map,row4])(e:ts[i]?=some x):∃ t r,x=.ref t/\rs[i]?=some r/\H t=some (.tup (row4 r)):=by
 obtain⟨t,r,h1,h2,h3⟩:=h.get e;rw[zwu] at h2;cases q:rs[i]? with
 | none=>rw[q] at h2;cases h2
 | some m=>rw[q] at h2;cases h2;exact⟨t,m,h1,rfl,h3⟩
def hit(n c:Int)(r:Row):Bool:=#[g,r.w=some n]&&(#[g,r.h=c]||#[g,r.g=c])
def Cu(n c:Int)(Rs:#[Z]):Nat×Nat:=Rs.foldl (fun p rs=>(p.1+1,if rs.any (hit n c) then p.1+1 else p.2)) (0,0)
def metS(Rs:#[Z])(n c:Int):Nat:=(Cu n c Rs).2
theorem zf8(n c:Int)(Rs:#[Z]):(Cu n c Rs).1=Rs.length:=by
 have h:∀ (Rs:List (List Row)) (p:Nat×Nat),(Rs.foldl (fun p rs=>(p.1+1,if rs.any (hit n c) then p.1+1 else p.2)) p).1=p.1+Rs.length:=fun Rs=>by
  induction Rs with
  | nil=>intro p;rfl
  | cons r Rs ih=>intro p;rw[List.foldl_cons,ih,zw9];simp only;omega
 have:=h Rs (0,0);unfold Cu;rw[this];simp
theorem zd2(Rs:#[Z])(rs:List Row)(n c:Int):metS (Rs++[rs]) n c=if rs.any (hit n c) then Rs.length+1 else metS Rs n c:=by
 unfold metS;have e:Cu n c (Rs++[rs])=((Cu n c Rs).1+1,if rs.any (hit n c) then (Cu n c Rs).1+1 else (Cu n c Rs).2):=by
  unfold Cu;rw[List.foldl_append];rfl
 rw[e,zf8]
def Ah(kvs:List (List Key×V))(f:Int->Int->Nat):Prop:=∀ n c:Int,valV kvs [inl n,inl c]=if f n c=0 then none else some (.int (f n c))
inductive Qb(H:Hp):#[a]->#[Z]->Prop where
 | nil:Qb H [] []
 | cons {t:Addr} {ts rs:#[a]} {r:List Row} {R:#[Z]} (h:H t=#[b,.tup,ts]) (q:#[L,H,r.map,row4]) (n:Qb H rs R):Qb H (.ref t :: rs) (r :: R)
theorem Qb.mono(k:#[aj]):∀ {ts:List V} {R:List (List Row)},Qb H ts R->Qb H' ts R
 | _,_,.nil=>.nil
 | _,_,.cons h q r=>.cons (k _ _ h) (q.mono k) (Qb.mono k r)
theorem Qb.length:∀ {ts:List V} {R:List (List Row)},Qb H ts R->ts.length=R.length
 | _,_,.nil=>rfl
 | _,_,.cons _ _ r=>by simp[Qb.length r]
theorem Qb.snoc(h:H t=#[b,.tup,xs])(q:TupL H xs (x.map row4)):∀ {ts:List V} {R:List (List Row)},Qb H ts R->Qb H (ts++[.ref t]) (R++[x])
 | _,_,.nil=>.cons h q .nil
 | _,_,.cons h' q' r=>.cons h' q' (Qb.snoc h q r)
theorem Qb.getR:∀ {ts:List V} {R:List (List Row)} {i:Nat} {r:List Row},Qb H ts R->R[i]?=some r->∃ t xs,ts[i]?=#[e,t]/\H t=#[E,xs]/\TupL H xs (r.map row4)
 | _,_,_,_,.nil,e=>by simp at e
 | _,_,0,_,.cons h q _,e=>by simp at e;subst e;exact⟨_,_,rfl,h,q⟩
 | _,_,i+1,x,.cons _ _ r,e=>by
   obtain⟨t,xs,h1,h2,h3⟩:=Qb.getR (i:=i) (r:=x) r (by simpa using e);exact⟨t,xs,by simpa using h1,h2,h3⟩
def tot(Rs:#[Z]):Nat:=(Rs.map List.length).sum
theorem zf9(Rs:#[Z])(rs:List Row):tot (Rs++[rs])=tot Rs+rs.length:=by unfold tot;rw[zwq,List.sum_append];simp
structure Uj(C:Addr)(H:Hp)(p lr ld:Addr)(Rs:#[Z]):Prop where
 at_:∃ dx,H p=some (.ins C dx [("rounds",.ref lr),("meetings",.ref ld)])
 rd:∃ rs,H lr=#[x,rs]/\Qb H rs Rs
 mt:∃ kvs,H ld=#[b,.dT,kvs]/\Ah kvs (metS Rs)/\kvs.length<=2*tot Rs
theorem Uj.same{C:Addr}{H H':Hp}{p lr ld:Addr}{Rs:#[Z]}(h:Uj C H p lr ld Rs)(e:#[v]):Uj C H' p lr ld Rs:=by
 obtain⟨⟨dx,h1⟩,⟨rs,h2,h3⟩,⟨kvs,h4,h5⟩⟩:=h;exact⟨⟨dx,e _ _ h1⟩,⟨rs,e _ _ h2,h3.mono fun t xs q=>e _ _ q⟩,⟨kvs,e _ _ h4,h5⟩⟩
theorem Uj.keep{C:Addr}{H H':Hp}{p lr ld:Addr}{Rs:#[Z]}(h:Uj C H p lr ld Rs)(ep:∀ o,H p=#[d]->H' p=#[d])(er:∀ o,H lr=#[d]->H' lr=#[d])(ed:∀ o,H ld=#[d]->H' ld=#[d])(et:#[aj]):Uj C H' p lr ld Rs:=by
 obtain⟨⟨dx,h1⟩,⟨rs,h2,h3⟩,⟨kvs,h4,h5⟩⟩:=h;exact⟨⟨dx,ep _ h1⟩,⟨rs,er _ h2,h3.mono et⟩,⟨kvs,ed _ h4,h5⟩⟩
theorem Ru:List.lookup ("rounds":Str) ([("rounds",V.ref x),("meetings",V.ref y)]:List (Str×V))=#[b,.ref,x]:=by simp only[zxo,beq_self_eq_true]
theorem Ph:List.lookup ("meetings":Str) ([("rounds",V.ref x),("meetings",V.ref y)]:List (Str×V))=#[b,.ref,y]:=by
 have e:(("meetings":Str) == "rounds")=false:=by decide +kernel
 simp only[zxo,e,beq_self_eq_true]
theorem K6{x y:Addr}{m:Str}(h:¬ m="rounds")(h':¬ m="meetings"):List.lookup m ([("rounds",V.ref x),("meetings",V.ref y)]:#[ab])=none:=by
 have e:(m == "rounds")=false:=zxa.mpr h;have e':(m == "meetings")=false:=zxa.mpr h';simp only[zxo,e,e',List.lookup_nil]
inductive zcv(C:Addr)(vs:#[a])(H:Hp)(Q:VK)(_:XK):Prop where
 | mk(p)(dx)(_:vs=[.ref p])(_:H p=some (.ins C dx []))(_:∀ lr ld H',Uj C H' p lr ld []->(∀ b o,H b=some o->b≠p->H' b=some o)->H lr=none->H ld=none->lr≠ld->Q .non H')
inductive L6(C:Addr)(vs:#[a])(H:Hp)(Q:VK)(_:XK):Prop where
 | mk(p)(lr)(ld)(Rs)(_:vs=[.ref p])(_:Uj C H p lr ld Rs)(_:Q (.int (Rs.length:Nat)) H)
inductive zcw(C N:Addr)(vs:#[a])(H:Hp)(Q:VK)(E:XK):Prop where
 | mk(p)(lr)(ld)(Rs)(i)(_:vs=[.ref p,.int i])(_:Uj C H p lr ld Rs)(_:Yc i)(_:(i<1\/(Rs.length:Int)<i->#[H,N]))(_:∀ (k:Nat) r,i=(k:Int)+1->Rs[k]?=some r->∀ l ts,H l=none->#[L,H,r.map,row4]->Q (.ref l) (upd H l (.lst ts)))
inductive zi8(C:Addr)(vs:#[a])(H:Hp)(Q:VK)(_:XK):Prop where
 | mk(p)(lr)(ld)(Rs)(n)(c)(_:vs=[.ref p,.int n,.int c])(_:Uj C H p lr ld Rs)(_:∀ H',Same H H'->Q (.int (metS Rs n c:Nat)) H')
theorem Oh:([inl n,inl c]:List Key)=[inl n',inl c']↔n=n'/\c=c':=by
 constructor
 ·intro h;injection h with h1 h2;injection h2 with h2 _;exact⟨inl.inj h1,inl.inj h2⟩
 ·rintro⟨rfl,rfl⟩;rfl
theorem Ah.put(h:Ah kvs f)(n c:Int)(t:Nat)(ht:0<t):Ah (putK kvs [inl n,inl c] (.int t)) fun n' c'=>if n'=n/\c'=c then t else f n' c':=fun n' c'=>by
 rw[Vz];show _=if (if n'=n/\c'=c then t else f n' c')=0 then none else #[b,V.int,((if n'=n/\c'=c then t else f n' c':Nat):Int)]
 by_cases e:n'=n/\c'=c
 ·rw[#[f,e],if_pos (Oh.mpr e),if_neg ⋯]
 ·rw[#[c,fun z=>e (Oh.mp z)],#[c,e]];exact h n' c'
def L7(Rs:#[Z])(rs:List Row)(i:Nat)(n c:Int):Nat:=if (rs.take i).any (hit n c) then Rs.length+1 else metS Rs n c
theorem zd3(Rs:#[Z])(rs:List Row):L7 Rs rs 0=metS Rs:=by funext n c;unfold L7;simp
theorem zga(Rs:#[Z])(rs:List Row):L7 Rs rs rs.length=metS (Rs++[rs]):=by funext n c;unfold L7;rw[zw3,zd2]
theorem Dg(e:rs[i]?=some r)(n c:Int):L7 Rs rs (i+1) n c=if hit n c r then Rs.length+1 else L7 Rs rs i n c:=by
 unfold L7;rw[zxy,e,List.any_append];cases h1:(rs.take i).any (hit n c)<;>cases h2:hit n c r<;>simp[h2]
theorem zd4(e:rs[i]?=some r)(h:r.w=none):L7 Rs rs (i+1)=L7 Rs rs i:=by
 funext n c
 rw[Dg e];have:hit n c r=false:=by unfold hit;rw[h];simp
 rw[this];simp
theorem zd5(e:rs[i]?=some r)(h:r.w=some w) :
  (fun n c=>if n=w/\c=r.g then Rs.length+1 else (fun n c=>if n=w/\c=r.h then Rs.length+1 else L7 Rs rs i n c) n c)=L7 Rs rs (i+1):=by
 funext n c
 rw[Dg e];unfold hit;rw[h];show (if n=w/\c=r.g then Rs.length+1 else if n=w/\c=r.h then Rs.length+1 else L7 Rs rs i n c)=_;by_cases h1:n=w
 ·subst h1;by_cases h2:r.g=c
  ·rw[#[f,⟨rfl,h2.symm⟩],#[f,(by simp[h2])]]
  ·rw[#[c,fun z=>h2 z.2.symm]];by_cases h3:r.h=c
   ·rw[#[f,⟨rfl,h3.symm⟩],#[f,(by simp[h3])]]
   ·rw[#[c,fun z=>h3 z.2.symm],#[c,(by simp[h2,h3])]]
 ·rw[#[c,fun z=>h1 z.1],#[c,fun z=>h1 z.1],#[c,(by simp;intro z;exact absurd z.symm h1)]]
theorem zgb{C:Addr}{H1 H':Hp}{x dx lr ld:Addr}(hx:H1 x=none)(hdx:H1 dx=none)(ne:dx≠x)(k:∀ b o,upd (upd H1 dx (.own x)) x (.ins C dx []) b=#[d]->b≠x->H' b=#[d])
  (h1:upd (upd H1 dx (.own x)) x (.ins C dx []) lr=none) (h2:upd (upd H1 dx (.own x)) x (.ins C dx []) ld=none):Same H1 H'/\H1 lr=none/\H1 ld=none:=by
 have fr:∀ {l:Addr},upd (upd H1 dx (.own x)) x (.ins C dx []) l=none->H1 l=none:=fun {l} q=>by
  have n1:l≠x:=fun z=>by rw[z,Zd] at q;cases q
  have n2:l≠dx:=fun z=>by rw[z,Zh ne,Zd] at q;cases q
  rw[Zh n1,Zh n2] at q;exact q
 refine⟨fun b o e=>k b o ?_ (Zi e hx),fr h1,fr h2⟩;rw[Zh (Zi e hx),Zh (Zi e hdx)];exact e
theorem zl2{lr ld:Addr}:putF "meetings" (V.ref ld) [(("rounds":Str),V.ref lr)]=[(("rounds":Str),V.ref lr),(("meetings":Str),V.ref ld)]:=by
 show (if ("rounds":Str)="meetings" then _ else _)=_;rw[if_neg ⋯];rfl
theorem Yg(h:H l=none)(s:#[v]):Same H (upd H' l o):=fun b u e=>by
 rw[Zh (Zi e h)];exact s b u e
theorem zgc(h:oneV x):So x=true:=by rcases h with rfl|⟨i,rfl⟩<;>rfl
inductive RLs(H:Hp):#[B]->#[Z]->Prop where
 | nil:RLs H [] []
 | cons {l:Addr} {ts:#[a]} {ls:#[B]} {r:List Row} {R:#[Z]} (h:#[A,H,l,ts]) (q:#[L,H,r.map,row4]) (n:RLs H ls R):RLs H (l :: ls) (r :: R)
theorem F8(c:Int)(m:Nat):(Pf c m).length=m:=by unfold Pf;rw[zwm,zxx]
theorem Mo(c:Int)(m:Nat):(K5 c m).length=m:=by unfold K5;rw[zwm,zxx]
structure L1(C:Addr)(H0:Hp)(p lr ld kR:Addr)(ls:#[B])(R S:#[Z])(H:Hp):Prop where
 base:Same H0 H
 led:Uj C H p lr ld R
 krs:H kR=some #[i,ls.map,V.ref]
 rls:RLs H ls S
 sep:∀ l∈ls,l≠lr/\l≠kR
structure C1(H0:Hp)(lr ld kR:Addr):Prop where
 fr:H0 lr=none
 fd:H0 ld=none
 fk:H0 kR=none
 rk:lr≠kR
theorem zd6(h1:∀ Q:Bool->Hp->Prop,Q b H->t σ H Q)(h2:∀ Q:Bool->Hp->Prop,Q c H->u σ H Q)(Q:Bool->Hp->Prop)(h:Q (b&&c) H):zk1 t u σ H Q:=by
 refine h1 _ ?_;cases b with
 | true=>exact h2 _ h
 | false=>exact h
def Qs(Rs:#[Z])(n c rest:Int):Bool:=#[g,(if (0:Int)>(Rs.length:Nat)-rest then 0 else ((Rs.length:Nat):Int)-rest)<(metS Rs n c:Nat)]
inductive Ai(C:Addr)(vs:#[a])(H:Hp)(Q:VK)(_:XK):Prop where
 | mk(p)(lr)(ld)(Rs)(n)(c)(rest)(_:vs=[.int n,.int c,.ref p,.int rest])(_:Uj C H p lr ld Rs)(_:∀ H',Same H H'->Q (.bl (Qs Rs n c rest)) H')
def bw(b:Bool)(w:Str):#[D]:=if b then [w] else []
def whyS(Rs:#[Z])(n g c h gu d:Int)(o:Bool)(rest:Int):#[D] :=
 bw o "away"++(bw (decide (g<d)) "grade"++(bw (decide (c=h)||decide (c=gu)) "club"++bw (Qs Rs n h rest||Qs Rs n gu rest) "met"))
inductive Dh(K:Frag)(C:Addr)(vs:#[a])(H:Hp)(Q:VK)(_:XK):Prop where
 | mk(t1 t2 p lr ld:Addr)(Rs:#[Z])(n g c h gu d rest:Int)(o:Bool)(_:vs=[.ref t1,.ref t2,.bl o,.ref p,.int rest])(_:H t1=#[b,.tup,[.int n,.int g,.int c]])(_:H t2=#[b,.tup,[.int h,.int gu,.int d]])(_:Uj C H p lr ld Rs)(_:#[az,l,(whyS Rs n g c h gu d o rest).map,V.str,Q,l])
def Gr(c:TT)(σ:L2.St)(H:Hp)(b:Bool):Prop:=∀ Q:Bool->Hp->Prop,(∀ H1,Same H H1->Q b H1)->c σ H Q
theorem Aj(h1:Gr t σ H b)(h2:∀ H1,Same H H1->Gr u σ H1 c):Gr (tOr t u) σ H (b||c):=fun Q h=>by
 refine h1 _ fun H1 s1=>?_;cases b with
 | true=>exact h H1 s1
 | false=>exact h2 H1 s1 _ fun H2 s2=>h H2 (s1.trans s2)
theorem Mp(h:∀ Q:Bool->Hp->Prop,Q b H->c σ H Q):Gr c σ H b:=fun Q q=>h Q (q H (Same.refl H))
theorem Ss(hc:Gr c σ H b)(h0:H0 l=none)(s:Same H0 H)(hl:H l=some #[i,xs.map,V.str])(hx:xs.length<=100)(hv:σ[i]?=some #[e,l])
  (h3:∀ H',Same H0 H'->H' l=some #[i,(xs++bw b w).map,V.str]->(∀ b o,H b=some o->b≠l->H' b=some o)->u D σ H'):Z1 (Cf c (zlz (tVar i) (tC (.str w))) zfa) u D σ H:=by
 refine hc _ fun H1 s1=>?_;have hl1:=s1 _ _ hl;cases b with
 | true =>
   rw[#[f,rfl]];refine⟨_,hv,l,_,rfl,hl1,_,hl1,Rt (by rw[zwm];omega),?_⟩;refine h3 _ (Yg h0 (s.trans s1)) ?_ fun b o e n=>by rw[Zh n];exact s1 _ _ e
   rw[Zd,zwq];rfl
 | false =>
   rw[if_neg ⋯];exact h3 _ (s.trans s1) (by rw[show bw false w=[] from rfl,zyv];exact hl1) fun b o e _=>s1 _ _ e
theorem L8(b:Bool)(w:Str):(bw b w).length<=1:=by cases b<;>simp[bw]
theorem zib:x<metS Rs n c↔∃ (j:Nat) (r:List Row),Rs[j]?=some r/\r.any (hit n c)=true/\x<j+1:=by
 have gen:∀ (Rs:List (List Row)) (p:Nat×Nat),p.2<=p.1->(x<(Rs.foldl (fun p rs=>(p.1+1,if rs.any (hit n c) then p.1+1 else p.2)) p).2↔(∃ (j:Nat) (r:List Row),Rs[j]?=some r/\r.any (hit n c)=true/\x<p.1+j+1)\/x<p.2):=fun Rs=>by
  induction Rs with
  | nil=>intro p hp;simp
  | cons r Rs ih =>
    intro p hp;rw[List.foldl_cons,ih _ (by show (if r.any (hit n c) then p.1+1 else p.2)<=p.1+1;split<;>omega)];show ((∃ (j:Nat) (r':List Row),Rs[j]?=some r'/\r'.any (hit n c)=true/\x<p.1+1+j+1)\/x<(if r.any (hit n c) then p.1+1 else p.2))↔_;constructor
    ·rintro(⟨j,r',h1,h2,h3⟩|h)
     ·exact .inl ⟨j+1,r',by simpa using h1,h2,by omega⟩
     ·by_cases hr:r.any (hit n c)=true
      ·rw[#[f,hr]] at h;exact .inl ⟨0,r,rfl,hr,by omega⟩
      ·rw[#[c,hr]] at h;exact .inr h
    ·rintro(⟨j,r',h1,h2,h3⟩|h)
     ·cases j with
      | zero =>
        have e:r=r':=by simpa using h1
        subst e;exact .inr (by rw[#[f,h2]];omega)
      | succ j=>exact .inl ⟨j,r',by simpa using h1,h2,by omega⟩
     ·right
      split<;>omega
 have:=gen Rs (0,0) (zww _);unfold metS Cu;rw[this];simp
theorem zd7{Rs:#[Z]}{n c rest:Int}:Qs Rs n c rest=true↔∃ (j:Nat) (r:List Row),Rs[j]?=some r/\r.any (hit n c)=true/\(Rs.length:Int)-rest<=j:=by
 unfold Qs;rw[decide_eq_true_eq];have e:(if (0:Int)>(Rs.length:Nat)-rest then 0 else ((Rs.length:Nat):Int)-rest)<(metS Rs n c:Nat)↔(((Rs.length:Nat):Int)-rest).toNat<metS Rs n c:=by
  split<;>omega
 rw[e,zib];constructor
 ·rintro⟨j,r,h1,h2,h3⟩;exact⟨j,r,h1,h2,by omega⟩
 ·rintro⟨j,r,h1,h2,h3⟩;exact⟨j,r,h1,h2,by omega⟩
theorem zgd(c:Int)(hi:i<40)(hj:j<40)(h:zd1 c i=zd1 c j):i=j:=by
 unfold zd1 at h;have hs:stp c=1\/stp c=2\/stp c=5\/stp c=10\/stp c=100\/stp c=500\/stp c=998:=by
  unfold stp;have h0:0<=c%7:=by omega
  have h1:c%7<7:=by omega
  generalize c%7=r at h0 h1;obtain⟨k,rfl⟩:∃ k:Nat,r=k:=⟨r.toNat,by omega⟩;rw[zw2];have hk:k<7:=by omega
  match k,hk with
  | 0,_=>simp
  | 1,_=>simp
  | 2,_=>simp
  | 3,_=>simp
  | 4,_=>simp
  | 5,_=>simp
  | 6,_=>simp
 generalize c/7=x at h;rcases hs with e|e|e|e|e|e|e<;>rw[e] at h<;>omega
end G
namespace G
open PySem PySem.Spec PyProof.Rows L2
abbrev P3:=Int×Int×Int
def pV(m:P3):#[a]:=[.int m.1,.int m.2.1,.int m.2.2]
theorem Ot{H:Hp}{ts:#[a]}{Ms:List P3}{i:Nat}{x:V}(h:#[L,H,Ms.map,pV])(e:ts[i]?=some x):∃ t m,x=.ref t/\Ms[i]?=some m/\H t=some (.tup (pV m)):=by
 obtain⟨t,r,h1,h2,h3⟩:=h.get e;rw[zwu] at h2;cases q:Ms[i]? with
 | none=>rw[q] at h2;cases h2
 | some m=>rw[q] at h2;cases h2;exact⟨t,m,h1,rfl,h3⟩
theorem TupL.reverse:∀ {ts:List V} {R:List (List V)},TupL H ts R->TupL H ts.reverse R.reverse
 | _,_,.nil=>.nil
 | _,_,.cons h q=>by rw[zyl,zyl];exact(TupL.reverse q).snoc h
def Pj(Rs:#[Z])(h gu d:Int)(os:#[a])(rest:Int)(m:P3):Bool:=(whyS Rs m.1 m.2.1 m.2.2 h gu d (inV (.int m.1) os) rest).isEmpty
inductive Ak(K:Frag)(C:Addr)(vs:#[a])(H:Hp)(Q:VK)(_:XK):Prop where
 | mk(lp lo tm p lr ld:Addr)(Rs:#[Z])(ts:#[a])(Ms:List P3)(os:#[a])(h gu d rest:Int)(_:vs=[.ref lp,.ref tm,.ref lo,.ref p,.int rest])(_:#[A,H,lp,ts])(_:#[L,H,Ms.map,pV])(_:#[A,H,lo,os])(_:(∀ x∈os,oneV x))(_:H tm=#[b,.tup,[.int h,.int gu,.int d]])(_:Uj C H p lr ld Rs)(_:Ms.length<=1000)(_:#[az,l,(Ms.filter (Pj Rs h gu d os rest)).map,fun m=>V.int m.1,Q,l])
theorem zd8{Rs:#[Z]}{n c rest:Int}(hr:0<=rest):Qs Rs n c rest=true↔∃ rs∈Rs.drop ((Rs.length:Int)-rest).toNat,∃ r∈rs,hit n c r=true:=by
 rw[zd7];constructor
 ·rintro⟨j,rs,h1,h2,h3⟩;obtain⟨r,hr1,hr2⟩:=zyb.mp h2;refine⟨rs,?_,r,hr1,hr2⟩;have hk:((Rs.length:Int)-rest).toNat<=j:=by omega
  refine zw0 (i:=j-((Rs.length:Int)-rest).toNat) ?_;rw[List.getElem?_drop,Nat.add_sub_cancel' hk];exact h1
 ·rintro⟨rs,h1,r,h2,h3⟩;obtain⟨i,hi,e⟩:=zxr h1;refine⟨((Rs.length:Int)-rest).toNat+i,rs,?_,zyb.mpr ⟨r,h2,h3⟩,by omega⟩;rw[<- List.getElem?_drop,zwn hi,e]
theorem Cv{js:List Nat}{tt:TT}{te:TE}{lo:Int}{n:Nat}{σ:L2.St}{H:Hp}{Q:VK}(p:Nat->Bool)(f:Nat->V)(hz:n<=1000)
  (ht:∀ (i:Nat) (R:Bool->Hp->Prop),i<n->R (p i) H->tt (cs js σ (.int (lo+i))) H R) (hs:∀ (i:Nat) (R:VK),i<n->p i=true->R (f i) H->te (cs js σ (.int (lo+i))) H R)
  (hd:∀ q,H q=none->Q (.ref q) (upd H q #[i,((List.range n).filter p).map,f])):Aa (Itr lo n) js tt te σ H Q:=by
 refine Qa (fun i ys H'=>H'=H/\ys=((List.range i).filter p).map f) #[y,rfl] (szN hz) (fun i ys H' ⟨_,e⟩=>by rw[e,zwm];exact zw6 (zxw _ _) (by rw[zxx];exact zww _)) (fun i ys H' hi ⟨e1,e2⟩=>?_) fun ys H' ⟨e1,e2⟩ q hq=>?_
 ·subst e1;refine ht i _ hi ?_;have e3:((List.range (i+1)).filter p).map f=ys++(if p i then [f i] else []):=by
   rw[e2,List.range_succ,zyx,zwq];cases hp:p i<;>simp[hp]
  cases hp:p i with
  | true =>
    rw[#[f,rfl]];refine hs i _ hi hp ⟨rfl,?_⟩;rw[e3,hp];rfl
  | false =>
    rw[if_neg ⋯];refine⟨rfl,?_⟩;rw[e3,hp];simp
 ·subst e1;rw[e2];exact hd q hq
def zi9(xs:#[a]):List Nat:=(List.range xs.length).filter fun i=>#[g,xs[i]?=some .non]
def W0(xs:#[a])(n:Int):Option Nat:=(List.range xs.length).find? fun i=>#[g,xs[i]?=#[q,n]]
def oN:Option Nat->V
 | none=>.non
 | some i=>.int i
inductive Dj(K:Frag)(vs:#[a])(H:Hp)(Q:VK)(_:XK):Prop where
 | mk(b:Addr)(xs:#[a])(n:Int)(_:vs=[.ref b,.int n])(_:#[A,H,b,xs])(_:(∀ x∈xs,oneV x))(_:xs.length<=100)(_:∀ H',Same H H'->Q (oN (W0 xs n)) H')
def Yv:#[K]->#[a]->#[a]
 | [],xs=>xs
 | (p,w) :: r,xs=>Yv r (xs.set p (oV w))
def Uk(s:Nat×Option Int):#[a]:=[.int (s.1:Nat),oV s.2]
inductive L9(K:Frag)(vs:#[a])(H:Hp)(Q:VK)(_:XK):Prop where
 | mk(b c:Addr)(xs ts:#[a])(st:#[K])(_:#[ac,b,c])(_:#[A,H,b,xs])(_:#[A,H,c,ts])(_:#[L,H,st.map,Uk])(_:(∀ s∈st,s.1<xs.length))(_:(∀ x∈xs,oneV x))(_:xs.length<=100)(_:st.length<=100)(_:∀ l H',H' l=#[x,Yv st xs]->#[v]->H l=none->#[S,l])
theorem Wm:∀ (st:List (Nat×Option Int)) (xs:List V),(Yv st xs).length=xs.length
 | [],_=>rfl
 | (p,w) :: r,xs=>by rw[Yv,Wm r,zx3]
theorem Al(xs:#[a])(n:Int):(W0 xs n=none/\∀ i:Nat,xs[i]?≠#[b,V.int,n])\/∃ i:Nat,W0 xs n=some i/\xs[i]?=some (V.int n):=by
 unfold W0;cases h:(List.range xs.length).find? (fun i=>#[g,xs[i]?=#[q,n]]) with
 | none =>
   refine #[T,rfl,fun i e=>?_];have hi:i<xs.length:=(zwo.mp e).1;have:=List.find?_eq_none.mp h i (zxs.mpr hi);exact this (zws e)
 | some i =>
   have:=List.find?_some h;exact .inr #[w,i,of_decide_eq_true this]
theorem zd9(xs:#[a])(k:Nat):Nd xs (some (k:Int)) none=xs.drop k:=by
 unfold Nd;rw[HT.sIx_nat,HT.sIx_none];by_cases h:k<=xs.length
 ·rw[Nat.min_eq_left h,<- zyn,zw3]
 ·rw[Nat.min_eq_right ⋯,List.drop_length,List.take_nil,List.drop_eq_nil_of_le ⋯]
inductive zcx(vs:#[a])(H:Hp)(Q:VK)(_:XK):Prop where
 | mk(x)(_:vs=[.bl x,.bl x])(_:Q (.bl true) H)
theorem zkj(K:Frag):PySem.W.kitOne K (.type "bool") (.type "bool")=some true:=rfl
inductive ILs(H:Hp):#[B]->#[I]->Prop where
 | nil:ILs H [] []
 | cons {l:Addr} {ls:#[B]} {r:#[t]} {R:#[I]} (h:H l=some #[i,r.map,V.int]) (n:ILs H ls R):ILs H (l :: ls) (r :: R)
theorem ILs.keep:∀ {ls:List Addr} {R:List (List Int)},(∀ l∈ls,∀ o,H l=some o->H' l=some o)->ILs H ls R->ILs H' ls R
 | _,_,_,.nil=>.nil
 | _,_,k,.cons h r=>.cons (k _ zxi _ h) (ILs.keep (fun l hl=>k l (zw7 _ hl)) r)
theorem ILs.same(e:#[v])(h:ILs H ls R):ILs H' ls R:=h.keep fun l _ o q=>e _ _ q
theorem ILs.length:∀ {ls:List Addr} {R:List (List Int)},ILs H ls R->ls.length=R.length
 | _,_,.nil=>rfl
 | _,_,.cons _ r=>by simp[ILs.length r]
theorem ILs.snoc(h:H l=some #[i,x.map,V.int]):∀ {ls:List Addr} {R:List (List Int)},ILs H ls R->ILs H (ls++[l]) (R++[x])
 | _,_,.nil=>.cons h .nil
 | _,_,.cons h' r=>.cons h' (ILs.snoc h r)
theorem ILs.has:∀ {ls:List Addr} {R:List (List Int)} {l:Addr},ILs H ls R->l∈ls->∃ xs,H l=#[x,xs]
 | _,_,_,.nil,e=>by simp at e
 | _,_,_,.cons h r,e=>by
   rcases zwr.mp e with rfl|e
   ·exact⟨_,h⟩
   ·exact ILs.has r e
theorem ILs.getR:∀ {ls:List Addr} {R:List (List Int)} {i:Nat} {r:List Int},ILs H ls R->R[i]?=some r->∃ l,ls[i]?=some l/\H l=some #[i,r.map,V.int]
 | _,_,_,_,.nil,e=>by simp at e
 | _,_,0,_,.cons h _,e=>by simp at e;subst e;exact#[w,_,h]
 | _,_,i+1,x,.cons _ r,e=>by
   obtain⟨t,h1,h2⟩:=ILs.getR (i:=i) (r:=x) r (by simpa using e);exact⟨t,by simpa using h1,h2⟩
theorem ILs.getL:∀ {ls:List Addr} {R:List (List Int)} {i:Nat} {l:Addr},ILs H ls R->ls[i]?=some l->∃ r,R[i]?=some r/\H l=some #[i,r.map,V.int]
 | _,_,_,_,.nil,e=>by simp at e
 | _,_,0,_,.cons h _,e=>by simp at e;subst e;exact#[w,_,h]
 | _,_,i+1,x,.cons _ r,e=>by
   obtain⟨t,h1,h2⟩:=ILs.getL (i:=i) (l:=x) r (by simpa using e);exact⟨t,by simpa using h1,h2⟩
structure K7(rows:#[I])(nu:#[t]):Prop where
 few:rows.length<=20
 crowd:nu.length<=30
 inj:nu.Nodup
 rng:∀ n∈nu,1<=n/\n<=999
 sub:∀ r∈rows,r.Nodup/\∀ n∈r,n∈nu
structure Y7(rows:#[I])(gs:#[a]):Prop where
 len:gs.length=rows.length
 one:∀ x∈gs,oneV x
 may:∀ (k:Nat) (n:Int),gs[k]?=#[q,n]->∃ r,rows[k]?=some r/\n∈r
 inj:∀ (j k:Nat) (n:Int),gs[j]?=#[q,n]->gs[k]?=#[q,n]->j=k
def Oi(rows:#[I])(gs:#[a])(p:Nat):Prop:=∃ S:Nat->Prop,S p/\∀ q,S q->q<rows.length/\∀ r,rows[q]?=some r->∀ n∈r,∃ q',q' < p/\gs[q']?=#[q,n]/\S q'
def Um(rows:#[I])(gs:#[a]):Prop:=∀ p,gs[p]?=some .non->Oi rows gs p
inductive zge(K:Frag)(vs:#[a])(H:Hp)(Q:VK)(_:XK):Prop where
 | mk(l:Addr)(ls:#[B])(rows:#[I])(nu:#[t])(_:vs=[.ref l])(_:H l=some #[i,ls.map,V.ref])(_:ILs H ls rows)(_:K7 rows nu)(_:∀ l' gs H',H' l'=#[x,gs]->Y7 rows gs->Um rows gs->#[v]->H l'=none->#[S,l'])
inductive K8(K:Frag)(vs:#[a])(H:Hp)(Q:VK)(_:XK):Prop where
 | mk(l lg:Addr)(ls:#[B])(rows:#[I])(gs:#[a])(_:#[ac,l,lg])(_:H l=some #[i,ls.map,V.ref])(_:ILs H ls rows)(_:rows.length<=100)(_:#[A,H,lg,gs])(_:Y7 rows gs)(_:∀ H',Same H H'->Q (.bl true) H')
theorem Iu{n:Int}{r:#[t]}:inV (.int n) (r.map V.int)=#[g,n∈r]:=by
 induction r with
 | nil=>rfl
 | cons x r ih =>
   unfold inV at ih ⊢;rw[zwz,zyk,ih];have e:eqV (.int x) (.int n)=#[g,n=x]:=by
    show (x == n)=_;by_cases h:n=x
    ·subst h;simp
    ·rw[zwx h];exact zxa.mpr (Ne.symm h)
   rw[e];by_cases h:n=x
   ·subst h;simp
   ·by_cases h2:n∈r<;>simp[h,h2]
theorem zea(r:#[t]):(r.map V.int).all So=true:=by
 rw[List.all_map];exact zyo.mpr fun _ _=>rfl
end G
namespace G
open PySem PySem.Spec PyProof.Rows L2
def newS(st:#[K])(k:Nat):#[a]:=(st.filter fun s=>decide (s.1=k)).map fun s=>oV s.2
theorem Dk:∀ (st:List (Nat×Option Int)) (xs:List V) (k:Nat),(st.map (·.1)).Nodup->k<xs.length->(Yv st xs)[k]?=some ((newS st k++[xs.getD k .non]).getD 0 .non)
 | [],xs,k,_,hk=>by
   rw[Yv,zwn hk];show _=some (xs.getD k .non);rw[zxc,zwn hk];rfl
 | (p,w) :: r,xs,k,nd,hk=>by
   rw[zwz,zxe] at nd;rw[Yv,Dk r _ k nd.2 (by rw[zx3];exact hk)];by_cases h:p=k
   ·subst h;have e:newS r p=[]:=by
     unfold newS;rw[List.map_eq_nil_iff,List.filter_eq_nil_iff];intro s hs z;exact nd.1 (zwv.mpr ⟨s,hs,of_decide_eq_true z⟩)
    have e2:newS ((p,w) :: r) p=oV w :: newS r p:=by
     unfold newS;rw[zx7,if_pos (zws rfl),zwz]
    rw[e2,e];show some ((xs.set p (oV w)).getD p .non)=#[b,oV,w];rw[zxc,zxp hk];rfl
   ·have e2:newS ((p,w) :: r) k=newS r k:=by
     unfold newS;rw[zx7,#[c,(by rw[zwx h];decide)]]
    rw[e2];have e3:(xs.set p (oV w)).getD k .non=xs.getD k .non:=by
     rw[zxc,zxc,zxn h]
    rw[e3]
section
variable{rows:#[I]}{gs:#[a]}
def adjN(rows:#[I])(gs:#[a])(q:Nat)(n:Int)(q':Nat):Prop:=(∃ r,rows[q]?=some r/\n∈r)/\gs[q']?=#[q,n]
def Nh(rows:#[I])(gs:#[a])(q:Nat)(n:Int):Prop:=(∃ r,rows[q]?=some r/\n∈r)/\∀ j:Nat,gs[j]?≠some (V.int n)
def Th(rows:#[I])(gs:#[a])(q:Nat):Prop:=∃ n,Nh rows gs q n
inductive Walk(rows:#[I])(gs:#[a])(p:Nat):Nat->Nat->Prop where
 | nil:Walk rows gs p p 0
 | snoc {q q' k:Nat} {n:Int} (h:Walk rows gs p q k) (a:adjN rows gs q n q'):Walk rows gs p q' (k+1)
theorem Walk.cons(a:adjN rows gs p n p')(h:Walk rows gs p' q k):Walk rows gs p q (k+1):=by
 induction h with
 | nil=>exact .snoc .nil a
 | snoc _ a' ih=>exact .snoc ih a'
inductive Ch(rows:#[I])(gs:#[a]):Nat->#[K]->Nat->#[G]->Prop where
 | one (q:Nat) (w:#[G]):Ch rows gs q [(q,w)] q w
 | step {q q' e:Nat} {n:Int} {st:#[K]} {w:#[G]} (a:adjN rows gs q n q') (h:Ch rows gs q' st e w):Ch rows gs q ((q,some n) :: st) e w
theorem Ch.pos{q e:Nat}{st:#[K]}{w:#[G]}(h:#[ai]):0<st.length:=by cases h<;>simp
theorem Ch.walk{q e:Nat}{st:#[K]}{w:#[G]}(h:#[ai]):Walk rows gs q e (st.length-1):=by
 induction h with
 | one q w=>exact .nil
 | step a h ih =>
   have:=h.pos;have e:=Walk.cons a ih;rw[zw9,Nat.add_sub_cancel];rw[Nat.sub_add_cancel this] at e;exact e
theorem Ch.drop{q e:Nat}{st:#[K]}{w:#[G]}(h:#[ai]):∀ x∈st.map (·.1),∃ st',Ch rows gs x st' e w/\st'.length<=st.length:=by
 induction h with
 | one q w=>intro x hx;simp at hx;subst hx;exact⟨_,.one _ _,zww _⟩
 | @step q q' e n st w a h ih =>
   intro x hx;rw[zwz] at hx;rcases zwr.mp hx with z|z
   ·subst z;exact⟨_,.step a h,zww _⟩
   ·obtain⟨st',h1,h2⟩:=ih x z;exact⟨st',h1,by rw[zw9];omega⟩
theorem Ch.hd{q e:Nat}{st:#[K]}{w:#[G]}(h:#[ai]):∃ x r,st=(q,x) :: r:=by cases h<;>exact⟨_,_,rfl⟩
theorem Ch.last{q e:Nat}{st:#[K]}{w:#[G]}(h:#[ai]):e∈st.map (·.1):=by
 induction h with
 | one q w=>simp
 | step a h ih=>rw[zwz];exact zw7 _ ih
theorem Ch.nodup{q e:Nat}{st:#[K]}{w:#[G]}(h:#[ai])(hm:∀ k,Walk rows gs q e k->st.length<=k+1):(st.map (·.1)).Nodup:=by
 induction h with
 | one q w=>simp
 | @step q q' e n st w a h ih =>
   rw[zwz,zxe];refine⟨fun hq=>?_,ih fun k hk=>?_⟩
   ·obtain⟨st',h1,h2⟩:=h.drop q hq;have:=hm _ h1.walk;have:=h1.pos;rw[zw9] at *;omega
   ·have:=hm _ (Walk.cons a hk);rw[zw9] at this;omega
theorem Ch.mem{q e:Nat}{st:#[K]}{w:#[G]}(h:#[ai]):∀ (k:Nat) (n:Int),(k,some n)∈st->(adjN rows gs k n k\/True)/\(((∃ r,rows[k]?=some r/\n∈r)/\∃ k',gs[k']?=some (V.int n)/\k'∈st.tail.map (·.1))\/(w=some n/\k=e)):=by
 induction h with
 | one q w =>
   intro k n hk;simp at hk;exact⟨.inr trivial,.inr ⟨hk.2.symm,hk.1⟩⟩
 | @step q q' e n' st w a h ih =>
   intro k n hk;refine⟨.inr trivial,?_⟩;rcases zwr.mp hk with z|z
   ·cases z;refine .inl ⟨a.1,q',a.2,?_⟩;obtain⟨x,r,e⟩:=h.hd;rw[e];simp
   ·rcases(ih k n z).2 with ⟨h1,k',h2,h3⟩|h1
    ·refine .inl ⟨h1,k',h2,?_⟩;show k'∈st.map (·.1);obtain⟨x,r,e⟩:=h.hd;rw[e] at h3 ⊢;exact zw7 _ h3
    ·exact .inr h1
theorem Ch.inj{q e:Nat}{st:#[K]}{w:#[G]}(FP:Y7 rows gs)(h:#[ai])(hw:∀ n,w=some n->∀ j:Nat,gs[j]?≠#[b,V.int,n])(nd:(st.map (·.1)).Nodup):∀ (j k:Nat) (n:Int),(j,some n)∈st->(k,some n)∈st->j=k:=by
 induction h with
 | one q w=>intro j k n h1 h2;simp at h1 h2;rw[h1.1,h2.1]
 | @step q q' e n' st w a h ih =>
   intro j k n h1 h2;rw[zwz,zxe] at nd;have key:∀ k,(k,some n')∈st->False:=fun k hk=>by
    rcases(h.mem k n' hk).2 with ⟨_,k',h2,h3⟩|⟨h1,_⟩
    ·have e:k'=q':=FP.inj k' q' n' h2 a.2;subst e;obtain⟨x,r,e⟩:=h.hd;have nd2:=nd.2;rw[e] at nd2 h3;rw[zwz,zxe] at nd2;exact nd2.1 h3
    ·exact hw n' h1 q' a.2
   rcases zwr.mp h1 with z1|z1<;>rcases zwr.mp h2 with z2|z2
   ·cases z1;cases z2;rfl
   ·cases z1;exact(key k z2).elim
   ·cases z2;exact(key j z1).elim
   ·exact ih hw nd.2 j k n z1 z2
theorem zgf{st:#[K]}{k:Nat}(nd:(st.map (·.1)).Nodup):(k∉st.map (·.1)/\newS st k=[])\/∃ w,(k,w)∈st/\newS st k=[oV w]:=by
 induction st with
 | nil=>exact #[T,by simp,rfl]
 | cons s r ih =>
   obtain⟨p,w⟩:=s;rw[zwz,zxe] at nd;by_cases h:p=k
   ·subst h;refine .inr ⟨w,zxi,?_⟩;rcases ih nd.2 with ⟨_,e⟩|⟨w',h1,_⟩
    ·have e2:newS ((p,w) :: r) p=oV w :: newS r p:=by
      unfold newS;rw[zx7,if_pos (zws rfl),zwz]
     rw[e2,e]
    ·exact absurd (zwv.mpr ⟨_,h1,rfl⟩) nd.1
   ·have e2:newS ((p,w) :: r) k=newS r k:=by
     unfold newS;rw[zx7,#[c,(by rw[zwx h];decide)]]
    rw[e2];rcases ih nd.2 with ⟨h1,e⟩|⟨w',h1,e⟩
    ·exact .inl ⟨fun z=>by rcases zwr.mp z with q|q;exact h q.symm;exact h1 q,e⟩
    ·exact .inr ⟨w',zw7 _ h1,e⟩
theorem W2{st:#[K]}{xs:#[a]}{k:Nat}(nd:(st.map (·.1)).Nodup)(hk:k<xs.length):(k∉st.map (·.1)/\(Yv st xs)[k]?=xs[k]?)\/∃ w,(k,w)∈st/\(Yv st xs)[k]?=#[b,oV,w]:=by
 rw[Dk st xs k nd hk];rcases zgf (k:=k) nd with ⟨h,e⟩|⟨w,h,e⟩
 ·refine #[T,h,?_];rw[e];show some (xs.getD k .non)=_;rw[zxc,zwn hk];rfl
 ·exact .inr ⟨w,h,by rw[e];rfl⟩
theorem Ch.lt{q e:Nat}{st:#[K]}{w:#[G]}(FP:Y7 rows gs)(h:#[ai])(hq:q<rows.length):∀ s∈st,s.1<rows.length:=by
 induction h with
 | one q w=>intro s hs;simp at hs;subst hs;exact hq
 | @step q q' e n st w a h ih =>
   intro s hs;rcases zwr.mp hs with z|z
   ·subst z;exact hq
   ·refine ih ?_ s z;have:=(zwo.mp a.2).1;rw[FP.len] at this;exact this
theorem Ch.fill{q e:Nat}{st:#[K]}{w:#[G]}(FP:Y7 rows gs)(h:#[ai])(hq:q<rows.length)(hw:∀ n,w=some n->Nh rows gs e n)(nd:(st.map (·.1)).Nodup):Y7 rows (Yv st gs):=by
 have hlt:=h.lt FP hq;have hinj:=h.inj FP (fun n hn=>(hw n hn).2) nd;have src:∀ (k:Nat) (n:Int),(k,some n)∈st->(∃ r,rows[k]?=some r/\n∈r)/\∀ j:Nat,gs[j]?=#[b,V.int,n]->j∈st.map (·.1):=fun k n hk=>by
  rcases(h.mem k n hk).2 with ⟨h1,k',h2,h3⟩|⟨h1,rfl⟩
  ·refine⟨h1,fun j hj=>?_⟩;rw[FP.inj j k' n hj h2];obtain⟨x,r,e⟩:=h.hd;rw[e] at h3 ⊢;exact zw7 _ h3
  ·exact⟨(hw n h1).1,fun j hj=>absurd hj ((hw n h1).2 j)⟩
 have cs:∀ k,k<gs.length->(k∉st.map (·.1)/\(Yv st gs)[k]?=gs[k]?)\/∃ w,(k,w)∈st/\(Yv st gs)[k]?=#[b,oV,w]:=fun k hk=>W2 nd hk;have at_:∀ (k:Nat) (n:Int),(Yv st gs)[k]?=#[b,V.int,n]->(k∉st.map (·.1)/\gs[k]?=#[b,V.int,n])\/(k,some n)∈st:=fun k n hk=>by
  have hkl:k<gs.length:=by
   have:=(zwo.mp hk).1;rw[Wm] at this;exact this
  rcases cs k hkl with ⟨h1,e⟩|⟨w',h1,e⟩
  ·exact #[T,h1,by rw[<- e];exact hk]
  ·rw[e] at hk;cases w' with
   | none=>cases hk
   | some m=>cases hk;exact .inr h1
 refine⟨by rw[Wm];exact FP.len,fun x hx=>?_,fun k n hk=>?_,fun j k n hj hk=>?_⟩
 ·obtain⟨k,hk,rfl⟩:=zxr hx;have hkl:k<gs.length:=by rw[Wm] at hk;exact hk
  have e0:=zwn hk;rcases cs k hkl with ⟨_,e⟩|⟨w',_,e⟩
  ·rw[e,zwn hkl] at e0;rw[<- Option.some.inj e0];exact FP.one _ (zxg hkl)
  ·rw[e] at e0;rw[<- Option.some.inj e0];exact zkh w'
 ·rcases at_ k n hk with ⟨_,h1⟩|h1
  ·exact FP.may k n h1
  ·exact(src k n h1).1
 ·rcases at_ j n hj with ⟨a1,a2⟩|a1<;>rcases at_ k n hk with ⟨b1,b2⟩|b1
  ·exact FP.inj j k n a2 b2
  ·exact absurd ((src k n b1).2 j a2) a1
  ·exact absurd ((src j n a1).2 k b2) b1
  ·exact hinj j k n a1 b1
theorem Ch.out{p0 q e:Nat}{n0:Int}{w:#[G]}{st:#[K]}{S:Nat->Prop}(FP:Y7 rows gs)(hS:∀ q,S q->q<rows.length/\∀ r,rows[q]?=some r->∀ n∈r,∃ q',q' < p0/\gs[q']?=#[q,n]/\S q')(h:#[ai]):w=some n0->Nh rows gs e n0->¬ S q:=by
 induction h with
 | one q w =>
   intro hw hf hs;obtain⟨r,h1,h2⟩:=hf.1;obtain⟨q',_,h3,_⟩:=(hS _ hs).2 r h1 n0 h2;exact hf.2 q' h3
 | @step q q' e n st w a h ih =>
   intro hw hf hs;obtain⟨r,h1,h2⟩:=a.1;obtain⟨q'',_,h3,h4⟩:=(hS q hs).2 r h1 n h2;have:q''=q':=FP.inj q'' q' n h3 a.2;subst this;exact ih hw hf h4
theorem Oi.behind{p0 q e:Nat}{n0:Int}{st:#[K]}(FP:Y7 rows gs)(S0:Oi rows gs p0)(h:Ch rows gs q st e (some n0))(hf:Nh rows gs e n0)(hq:q<rows.length)(nd:(st.map (·.1)).Nodup):Oi rows (Yv st gs) p0:=by
 obtain⟨S,hp,hS⟩:=S0;have outAll:∀ x∈st.map (·.1),¬ S x:=fun x hx=>by
  obtain⟨st',h1,_⟩:=h.drop x hx;exact h1.out FP hS rfl hf
 refine⟨S,hp,fun q1 h1=>⟨(hS q1 h1).1,fun r hr n hn=>?_⟩⟩;obtain⟨q',h2,h3,h4⟩:=(hS q1 h1).2 r hr n hn;refine⟨q',h2,?_,h4⟩;have hkl:q' < gs.length:=(zwo.mp h3).1;rcases W2 nd hkl with ⟨_,e⟩|⟨w,h5,_⟩
 ·rw[e];exact h3
 ·exact absurd h4 (outAll q' (zwv.mpr ⟨_,h5,rfl⟩))
structure Xw(rows:#[I])(gs:#[a])(p:Nat)(st:#[K])(e:Nat)(w:#[G]):Prop where
 ch:Ch rows gs p st e w
 free:∀ n,w=some n->Nh rows gs e n/\∀ q k,Walk rows gs p q k->Th rows gs q->st.length<=k+1
 none:w=none->(∀ q k,Walk rows gs p q k->¬ Th rows gs q)/\(∀ q k,Walk rows gs p q k->q<=e)/\∀ k,Walk rows gs p e k->st.length<=k+1
theorem Xw.nodup{p e:Nat}{st:#[K]}{w:#[G]}(c:Xw rows gs p st e w):(st.map (·.1)).Nodup:=by
 refine c.ch.nodup fun k hk=>?_;cases h:w with
 | none=>exact(c.none h).2.2 k hk
 | some n=>exact(c.free n h).2 e k hk ⟨n,(c.free n h).1⟩
theorem Xw.fill{p e:Nat}{st:#[K]}{w:#[G]}(FP:Y7 rows gs)(c:Xw rows gs p st e w)(hp:p<rows.length):Y7 rows (Yv st gs):=c.ch.fill FP hp (fun n hn=>(c.free n hn).1) c.nodup
theorem zgg(FP:Y7 rows gs)(hp:p<rows.length)(ha:∀ q n,gs[q]?=#[b,V.int,n]->q<p)(hn:∀ q k,Walk rows gs p q k->¬ Th rows gs q):Oi rows gs p:=by
 refine⟨fun q=>∃ k,Walk rows gs p q k,⟨0,.nil⟩,fun q ⟨k,hk⟩=>⟨?_,fun r hr n hnr=>?_⟩⟩
 ·cases hk with
  | nil=>exact hp
  | snoc _ a =>
    have:=(zwo.mp a.2).1;rw[FP.len] at this;exact this
 ·by_cases hx:∃ j:Nat,gs[j]?=some (V.int n)
  ·obtain⟨j,hj⟩:=hx;exact⟨j,ha j n hj,hj,k+1,.snoc hk ⟨⟨r,hr,hnr⟩,hj⟩⟩
  ·exact absurd ⟨n,⟨r,hr,hnr⟩,fun j hj=>hx ⟨j,hj⟩⟩ (hn q k hk)
end
section
variable{rows:#[I]}{gs:#[a]}{p:Nat}
structure Bfs(rows:#[I])(gs:#[a])(p:Nat)(line:List Nat)(dep:Nat->Nat):Prop where
 nodup:line.Nodup
 memp:p∈line
 d0:dep p=0
 walk:∀ q∈line,Walk rows gs p q (dep q)
 sorted:∀ (i j q q':Nat),i<=j->line[i]?=some q->line[j]?=some q'->dep q<=dep q'
def Done(rows:#[I])(gs:#[a])(line:List Nat)(dep:Nat->Nat)(dn:Nat):Prop:=∀ (i q:Nat),i<dn->line[i]?=some q->∀ n q',adjN rows gs q n q'->q'∈line/\dep q'<=dep q+1
theorem zeb(rows:#[I])(gs:#[a])(p:Nat):Bfs rows gs p [p] fun _=>0:=by
 refine⟨by simp,by simp,rfl,fun q hq=>?_,fun i j q q' _ _ _=>zww _⟩;simp at hq;subst hq;exact .nil
variable{line:List Nat}{dep:Nat->Nat}{dn:Nat}
theorem Bfs.reach(B:Bfs rows gs p line dep)(D:Done rows gs line dep dn)(h:Walk rows gs p q k):(q∈line/\dep q<=k)\/∃ j q',dn<=j/\line[j]?=some q'/\dep q' < k:=by
 induction h with
 | nil=>exact #[T,B.memp,by rw[B.d0];exact zww _]
 | @snoc q q' k n h a ih =>
   rcases ih with ⟨h1,h2⟩|⟨j,x,h1,h2,h3⟩
   ·obtain⟨i,hi,e⟩:=zxr h1;have e':line[i]?=some q:=by rw[zwn hi,e]
    by_cases hd:i<dn
    ·obtain⟨a1,a2⟩:=D i q hd e' n q' a;exact #[T,a1,by omega]
    ·exact .inr ⟨i,q,by omega,e',by omega⟩
   ·exact .inr ⟨j,x,h1,h2,by omega⟩
theorem Bfs.full(B:Bfs rows gs p line dep)(D:Done rows gs line dep line.length)(h:Walk rows gs p q k):q∈line/\dep q<=k:=by
 rcases B.reach D h with z|⟨j,x,h1,h2,_⟩
 ·exact z
 ·have:=(zwo.mp h2).1;omega
theorem Bfs.early(B:Bfs rows gs p line dep)(D:Done rows gs line dep dn)(hh:line[dn]?=some here)(h:Walk rows gs p q k)(hk:k<dep here):∃ i,i<dn/\line[i]?=some q:=by
 rcases B.reach D h with ⟨h1,h2⟩|⟨j,x,h1,h2,h3⟩
 ·obtain⟨i,hi,e⟩:=zxr h1;have e':line[i]?=some q:=by rw[zwn hi,e]
  refine⟨i,?_,e'⟩;by_cases hd:i<dn
  ·exact hd
  ·have:=B.sorted dn i here q ⋯ hh e';omega
 ·have:=B.sorted dn j here x h1 hh h2;omega
theorem Bfs.fewest(B:Bfs rows gs p line dep)(D:Done rows gs line dep dn)(hh:line[dn]?=some here)(hno:∀ (i q:Nat),i<dn->line[i]?=some q->¬ Th rows gs q)(h:Walk rows gs p q k)(hf:Th rows gs q):dep here+1<=k+1:=by
 by_cases hk:k<dep here
 ·obtain⟨i,hi,e⟩:=B.early D hh h hk;exact absurd hf (hno i q hi e)
 ·omega
def V0(dep:Nat->Nat)(q d:Nat):Nat->Nat:=fun x=>if x=q then d else dep x
theorem Bfs.app(B:Bfs rows gs p line dep)(hh:line[dn]?=some here)(near:∀ x∈line,dep x<=dep here+1)(a:adjN rows gs here n q')(hn:q'∉line) :
  Bfs rows gs p (line++[q']) (V0 dep q' (dep here+1))/\(∀ x∈line,V0 dep q' (dep here+1) x=dep x)/\∀ x∈line++[q'],V0 dep q' (dep here+1) x<=dep here+1:=by
 have old:∀ x∈line,V0 dep q' (dep here+1) x=dep x:=fun x hx=>by
  unfold V0;rw[#[c,fun (z:x=q')=>hn (by rw[<- z];exact hx)]]
 have new:V0 dep q' (dep here+1) q'=dep here+1:=by unfold V0;rw[#[f,rfl]]
 have hhm:=zw0 hh;have all:∀ x∈line++[q'],V0 dep q' (dep here+1) x<=dep here+1:=fun x hx=>by
  rcases zwy.mp hx with z|z
  ·rw[old x z];exact near x z
  ·rw[zwt.mp z,new];exact zww _
 refine⟨⟨Co B.nodup hn,zxb _ B.memp,by rw[old p B.memp];exact B.d0,fun q hq=>?_,fun i j x y hij hx hy=>?_⟩,old,all⟩
 ·rcases zwy.mp hq with z|z
  ·rw[old q z];exact B.walk q z
  ·rw[zwt.mp z,new];exact .snoc (B.walk here hhm) a
 ·by_cases hj:j<line.length
  ·rw[zxl hj] at hy;rw[zxl ⋯] at hx;rw[old x (zw0 hx),old y (zw0 hy)];exact B.sorted i j x y hij hx hy
  ·rw[zxj ⋯] at hy;have:y=q':=by
    cases e:j-line.length with
    | zero=>rw[e] at hy;simpa using hy.symm
    | succ m=>rw[e] at hy;simp at hy
   subst this;rw[new];exact all x (zw0 hx)
theorem Done.app(D:Done rows gs line dep dn)(hd:dn<=line.length)(hl:∃ r,line'=line++r)(he:∀ x∈line,dep' x=dep x):Done rows gs line' dep' dn:=fun i q hi e n q' a=>by
 obtain⟨r,rfl⟩:=hl;rw[zxl ⋯] at e;obtain⟨h1,h2⟩:=D i q hi e n q' a;exact⟨zxb _ h1,by rw[he q' h1,he q (zw0 e)];exact h2⟩
def Tu(rows:#[I])(gs:#[a])(p:Nat)(line:List Nat)(dep:Nat->Nat)(fr:Nat->Option (Nat×Int)):Prop:=fr p=none/\∀ q∈line,q≠p->∃ par n,fr q=some (par,n)/\par∈line/\adjN rows gs par n q/\dep q=dep par+1
theorem Tu.back(d0:dep p=0)(F:Tu rows gs p line dep fr):∀ (d q e:Nat) (w:Option Int) (st:List (Nat×Option Int)),dep q=d->q∈line->#[ai]->∃ pre,Ch rows gs p (pre++st) e w/\pre.length=d:=fun d=>by
 induction d with
 | zero =>
   intro q e w st hd hq h;by_cases hp:q=p
   ·subst hp;exact⟨[],h,rfl⟩
   ·obtain⟨par,n,_,_,_,h4⟩:=F.2 q hq hp;omega
 | succ d ih =>
   intro q e w st hd hq h;by_cases hp:q=p
   ·subst hp;rw[d0] at hd;cases hd
   ·obtain⟨par,n,h1,h2,h3,h4⟩:=F.2 q hq hp;obtain⟨pre,h5,h6⟩:=ih par e w _ ⋯ h2 (.step h3 h);exact⟨pre++[(par,some n)],by rw[zx9];exact h5,by rw[zwp,h6];rfl⟩
theorem zbm{here:Nat}{n:Int}{st:#[K]}(B:Bfs rows gs p line dep)(D:Done rows gs line dep dn)(hh:line[dn]?=some here)(hno:∀ (i q:Nat),i<dn->line[i]?=some q->¬ Th rows gs q)(hf:Nh rows gs here n)(c:Ch rows gs p st here (some n))(hl:st.length=dep here+1):Xw rows gs p st here (some n) :=
 ⟨c,fun m e=>by cases e;exact⟨hf,fun q k hk hq=>by rw[hl];exact B.fewest D hh hno hk hq⟩,(fun z=>nomatch z)⟩
theorem zbn{e:Nat}{st:#[K]}(B:Bfs rows gs p line dep)(D:Done rows gs line dep line.length)(hno:∀ q∈line,¬ Th rows gs q)(he:∀ q∈line,q<=e)(c:Ch rows gs p st e none)(hl:st.length=dep e+1):Xw rows gs p st e none :=
 ⟨c,(fun m z=>nomatch z),fun _=>⟨fun q k hk=>hno q (B.full D hk).1,fun q k hk=>he q (B.full D hk).1,fun k hk=>by rw[hl];have:=(B.full D hk).2;omega⟩⟩
end
end G
namespace L2
open PySem PySem.Spec PyProof.Rows
inductive zkk(x:V)(vs:#[a])(H:Hp)(Q:VK):Prop where
 | mk(l:Addr)(xs:#[a])(y:V)(j:Nat)(_:x=.ref l)(_:vs=[y])(_:#[A,H,l,xs])(_:So y=true)(_:xs.all So=true)(_:(∃ z,xs[j]?=some z/\eqV z y=true))(_:(∀ m z,m<j->xs[m]?=some z->eqV z y=false))(_:Q (.int (j:Nat)) H)
theorem zgh:MtM X "list.index" zkk:=by
 intro pins s σ H x vs v us Q I rx rv h;obtain⟨l,xs,y,j,rfl,rfl,hH,fy,fs,⟨zj,hzj,hej⟩,hno,q⟩:=h;cases rx;obtain⟨u,rfl,ru⟩:=rv.one;obtain⟨z,its,n,r,hl,e⟩:=I.lstM hH;have hjx:j<xs.length:=(zwo.mp hzj).1;have hj:j<its.toArray.size:=by rw[zw1];omega
 have hline:=Na;have ev:∀ (m:Nat) (hm:m<its.toArray.size) (w:V),xs[m]?=some w->eqU y (its.toArray[m]'hm)=eqV w y:=fun m hm w hw=>by
  obtain⟨uu,hu,ruu⟩:=r.get hw;have:its.toArray[m]'hm=uu:=by
   have h1:its[m]?=some (its.toArray[m]'hm):=by simp
   rw[h1] at hu;exact Option.some.inj hu
  rw[this];refine zbf ruu ?_;exact zyo.mp fs w (zw0 hw)
 refine call_meets PySem.F.slot_list_index ⟨_,e,rfl⟩ PySem.F.entry_list_index (PySem.F.args_list_index_2 _ _) (SeqAt.list_indexAt l its.toArray n none #[] u (eqU y) j hj ⋯ (by rw[ev j hj zj hzj];exact hej) fun m hm hmj=>?_) ⟨e,fun w hw=>Rr ru fy r fs w (by simpa using hw),?_⟩
 ·have hmx:m<xs.length:=by rw[zw1] at hm;omega
  have hw:xs[m]?=some (xs[m]'hmx):=zwn hmx;rw[ev m hm _ hw];exact hno m _ hmj hw
 ·exact⟨.int (j:Nat),H,I.tok _,#[y,_],q⟩
end L2
namespace G
open PySem PySem.Spec PyProof.Rows L2
theorem zl3{H:Hp}{ts:#[a]}{st:#[K]}{i:Nat}{s:Nat×Option Int}(h:#[L,H,st.map,Uk])(e:st[i]?=some s):∃ t,ts[i]?=#[e,t]/\H t=some (.tup (Uk s)):=by
 have e':(st.map Uk)[i]?=#[b,Uk,s]:=by rw[zwu,e];rfl
 exact h.getR e'
theorem Iv(ho:oneV z):eqV z (.int n)=true↔z=.int n:=by
 rcases ho with rfl|⟨i,rfl⟩
 ·constructor
  ·intro h;cases h
  ·intro h;cases h
 ·show (i == n)=true↔_;constructor
  ·intro h;rw[beq_iff_eq.mp h]
  ·intro h;cases h;simp
theorem zgi(ho:∀ x∈gs,oneV x):inV (.int n) gs=true↔∃ j:Nat,gs[j]?=some (V.int n):=by
 unfold inV;rw[zyb];constructor
 ·rintro⟨z,hz,e⟩;obtain⟨j,hj,rfl⟩:=zxr hz;exact⟨j,by rw[zwn hj,(Iv (ho _ hz)).mp e]⟩
 ·rintro⟨j,hj⟩;have:=zw0 hj;exact⟨_,this,(Iv (ho _ this)).mpr rfl⟩
theorem zic(r:#[t]):PyData.canLayAll0 (Wt (r.map Dt.int))=true/\PyData.depthAll (Wt (r.map Dt.int))<=1:=by
 induction r with
 | nil=>exact⟨rfl,by decide⟩
 | cons x r ih =>
   obtain⟨h1,h2⟩:=ih;refine⟨by rw[zwz,Wt,PyData.canLayAll0,h1];rfl,?_⟩;rw[zwz,Wt,PyData.depthAll];have:PyData.depth (toPy (Dt.int x))<=1:=by simp[toPy,PyData.depth]
   omega
theorem zid(r:#[t]):shD #[i,r.map,Dt.int]:=by
 obtain⟨a1,a2⟩:=zic r;unfold shD SeqAt.shaped;rw[toPy,PyData.canLay0,a1,Bool.true_and];refine zws ?_;rw[PyData.depth];omega
theorem zie:shD (.lst []):=zid []
theorem zif(f:α->Dt)(xs:List α):eqD #[i,xs.map,f] (.lst [])=xs.isEmpty:=by
 cases xs with
 | nil=>simp[eqD,Oq]
 | cons x xs=>simp[eqD,Oq]
structure znb(rows:#[I])(gs:#[a])(i:Nat):Prop where
 len:gs.length=i
 one:∀ x∈gs,oneV x
 may:∀ (k:Nat) (n:Int),gs[k]?=#[q,n]->∃ r,rows[k]?=some r/\n∈r
 inj:∀ (j k:Nat) (n:Int),gs[j]?=#[q,n]->gs[k]?=#[q,n]->j=k
theorem Y7.drop(F:Y7 rows gs)(p:Nat):Y7 rows (gs.set p .non):=by
 have cs:∀ (k:Nat) (n:Int),(gs.set p .non)[k]?=#[q,n]->k≠p/\gs[k]?=#[q,n]:=fun k n h=>by
  by_cases e:k=p
  ·subst e;by_cases hk:k<gs.length
   ·rw[zxp hk] at h;cases h
   ·rw[List.getElem?_eq_none (by rw[zx3];omega)] at h;cases h
  ·rw[zxn (Ne.symm e)] at h;exact⟨e,h⟩
 refine⟨by rw[zx3];exact F.len,fun x hx=>?_,fun k n h=>F.may k n (cs k n h).2,fun j k n h1 h2=>F.inj j k n (cs j n h1).2 (cs k n h2).2⟩;rcases List.mem_or_eq_of_mem_set hx with z|z
 ·exact F.one x z
 ·exact .inl z
theorem Y7.without(F:Y7 rows gs)(hx:gs[p]?=some x)(f:Int->Bool)(hf:∀ n,f n=false->x=.int n):Y7 (rows.map fun r=>r.filter f) (gs.set p .non):=by
 have D:=F.drop p;refine⟨by rw[zwm];exact D.len,D.one,fun k n h=>?_,D.inj⟩;obtain⟨r,h1,h2⟩:=D.may k n h;refine⟨r.filter f,by rw[zwu,h1];rfl,zxz.mpr ⟨h2,?_⟩⟩;cases e:f n with
 | true=>rfl
 | false =>
   have hx':=hf n e;subst hx';have hk:k≠p:=fun z=>by
    subst z;rw[zxp (zwo.mp hx).1] at h;cases h
   rw[zxn (Ne.symm hk)] at h;exact absurd (F.inj k p n h hx) hk
theorem zgj(h1:Gr t σ H b)(h:∀ H1,Same H H1->if b=true then A D σ H1 else B D σ H1):Cf t A B D σ H:=h1 _ fun H1 s1=>h H1 s1
def Qt(xs:List Nat):#[a]:=xs.map fun k=>V.int (k:Nat)
end G
namespace G
open PySem PySem.Spec PyProof.Rows L2
inductive Cw(K:Frag)(vs:#[a])(H:Hp)(Q:VK)(_:XK):Prop where
 | mk(l lg:Addr)(ls:#[B])(rows:#[I])(nu:#[t])(gs:#[a])(p:Nat)(_:vs=[.ref l,.ref lg,.int p])(_:H l=some #[i,ls.map,V.ref])(_:ILs H ls rows)(_:K7 rows nu)(_:#[A,H,lg,gs])(_:Y7 rows gs)(_:p<rows.length)(_:gs[p]?=some .non)(_:∀ lt ts st e w H',H' lt=#[x,ts]->#[L,H',st.map,Uk]->Xw rows gs p st e w->#[v]->H lt=none->#[S,lt])
theorem Xw.len{rows:#[I]}{gs:#[a]}{p e:Nat}{st:#[K]}{w:#[G]}(FP:Y7 rows gs)(hp:p<rows.length)(c:Xw rows gs p st e w):st.length<=rows.length:=by
 have hlt:=c.ch.lt FP hp;have:=c.nodup.length_le_of_subset (l₂:=List.range rows.length) fun x hx=>by
  obtain⟨s,hs,rfl⟩:=zwv.mp hx;exact zxs.mpr (hlt s hs)
 rw[zwm,zxx] at this;exact this
end G
namespace L2
open PySem PySem.Spec PyProof.Rows
section
variable{X:Cx}{pins:#[z]}{σ:List (Option V)}{H H':Hp}{s:Shared}{h':Heap}
theorem Inv.turnedL{t':Nat}{fp:#[B]}(I:#[j])(hf:∀ b∈fp,FpOk X pins H b)(k:∀ b o,b∉fp->#[O,b]=#[d]->h'.get? b=#[d]):#[J,H,{ s with heap:=h',toks:=t' }]:=by
 have nit:∀ b u,H b=some u->b∉fp:=fun b u e z=>by rw[(hf b z).1] at e;cases e
 refine I.step (g':=s.gens) (d':=s.drawn) (ch:=fp) (fun b hb=>?_) (fun b o _ _ hc e _=>k b o hc e) (fun b o _ _ hc e _=>⟨o.slots,k b o hc e⟩) (fun _ _ _ _ n=>n)
  (fun b o hc e=>⟨o,k b o hc e⟩) (fun _ _ e=>e) (fun _ _ _ e=>e) (fun b ps e=>⟨#[],by rw[e];simp⟩) (fun m hm=>?_) (fun b u e=>?_) I.bare
 ·obtain⟨f0,f1,f2,f3,f4,f5⟩:=hf b hb;exact⟨f3,f1,f4,f5⟩
 ·obtain⟨o,es,ep,ho,r⟩:=hm;exact⟨o,es,ep,k _ o (fun z=>(hf _ z).2.1 rfl) ho,r⟩
 ·refine(I.hok b u e).stay (fun c v hc q=>k c v ?_ q) (fun _ q=>q) fun _ _ q=>q;rcases hc with z|z
  ·rw[z];exact nit b u e
  ·exact nit c _ z
theorem Inv.turnLay{t':Nat}{fp:#[B]}{a:Addr}{o:HO}(I:#[j])(hf:∀ b∈fp,FpOk X pins H b)(k:∀ b o,b∉fp->#[O,b]=#[d]->h'.get? b=#[d])(hp:s.heap.objs.size<=a)(new:Y9 X.prog X.w (upd H a o) h' a o):#[J,upd H a o,{ s with heap:=h',toks:=t' }]:=by
 have nit:∀ b u,H b=some u->b∉fp:=fun b u e z=>by rw[(hf b z).1] at e;cases e
 have hn:H a=none:=I.hok.fresh hp;have ne:∀ b u,#[O,b]=some u->b≠a:=fun b u e=>zxd (zw5 (Heap.lt_size e) hp);refine I.step (g':=s.gens) (d':=s.drawn) (ch:=fp) (fun b hb=>?_) (fun b o _ _ hc e _=>k b o hc e) (fun b o _ _ hc e _=>⟨o.slots,k b o hc e⟩) (fun b u _ e n=>by rw[Zh (ne b u e)];exact n)
  (fun b o hc e=>⟨o,k b o hc e⟩) (fun b _ e=>by rw[Zh (Zi e hn)];exact e) (fun b _ _ e=>by rw[Zh (Zi e hn)];exact e) (fun b ps e=>⟨#[],by rw[Zh (Zi e hn),e];simp⟩) (fun m hm=>?_) (fun b u e=>?_) I.bare
 ·obtain⟨f0,f1,f2,f3,f4,f5⟩:=hf b hb;exact⟨f3,f1,f4,f5⟩
 ·obtain⟨o,es,ep,ho,r⟩:=hm;exact⟨o,es,ep,k _ o (fun z=>(hf _ z).2.1 rfl) ho,r⟩
 ·by_cases hb:b=a
  ·subst hb;rw[Zd] at e;cases e;exact new
  ·rw[Zh hb] at e;refine(I.hok b u e).stay (fun c v hc q=>k c v ?_ q) (fun c q=>by rw[Zh (Zi q hn)];exact q) fun c _ q=>by rw[Zh (Zi q hn)];exact q
   rcases hc with z|z
   ·rw[z];exact nit b u e
   ·exact nit c _ z
end
def Ite(K:Frag)(a:Addr):It :=
 ⟨fun i H=>∃ xs x,SqL K H a xs/\xs[i]?=some x,fun i H x H'=>∃ p y,H p=none/\(∀ xs,SqL K H a xs->xs[i]?=some y)/\x=.ref p/\H'=upd H p (.tup [.int (i:Nat),y]),fun i H=>∃ xs,SqL K H a xs/\xs.length<=i⟩
theorem zec{P:Program}{w:World}{K:Frag}{elts:List Expr}{k:Nat}{tp:Pos}(a e it:Addr)(hne:e≠it):Bu P w K (.Tuple elts k tp) (Ite K a) [e,it] e (fun i h=>(∃ old,IsEnum h e it (i:Nat) old)/\h.IsListIter it a i) where
 mem:=by simp
 obj:=fun i h st b hb=>by
  obtain⟨⟨old,h1⟩,h2⟩:=st;have e:b=e\/b=it:=by simpa using hb
  rcases e with rfl|rfl
  ·exact⟨_,h1,fun v z=>by cases z⟩
  ·obtain⟨o,e,c,d⟩:=h2;exact⟨o,e,fun v z=>by rw[d] at z;cases z⟩
 keep:=fun i h h' st k=>⟨let ⟨old,h1⟩:=st.1;⟨old,k e (by simp) _ h1⟩,st.2.at fun o q=>k it (by simp) o q⟩
 item:=by
  intro X hP hw hK hc i pins s σ H E I hf st hg;subst hP hw hK;obtain⟨xs,x,hq,hx⟩:=hg;obtain⟨its,rv,p,hz⟩:=I.list hq;obtain⟨u,hu,ru⟩:=rv.get hx;obtain⟨⟨old,h1⟩,h2⟩:=st;refine wpAny_pyNext_enum_item h1 h2 p.isList (x:=u) (by simpa using hu) hne fun h' o1 o2 o3 o4 o5=>?_;refine#[w,_,wpAny_letOwnedTupleGo_enum o1 fun h'' e1 sb=>?_];have hes:e≠s.heap.objs.size:=fun z=>by
   exact zx8 _ (z▸Heap.lt_size h1)
  have kk:∀ b o,b∉[e,it]->#[O,b]=#[d]->h''.get? b=#[d]:=fun b o hb q=>by
   have hb':b≠e/\b≠it:=by simpa using hb
   exact(sb.2 b hb'.1).trans (o5 b o hb'.1 hb'.2 q)
  have new:h''.get? s.heap.objs.size=some { cls:=Value.type "tuple",data:=Data.seq #[Value.int (i:Nat) s.toks,u] }:=(sb.2 _ (Ne.symm hes)).trans o3;have line:=Na;refine⟨.ref s.heap.objs.size,_,I.turnLay (t':=s.toks+1) (o:=.tup [.int (i:Nat),x]) hf kk (zww _) ⟨?_,_,.cons #[y,s.toks] (.cons ru .nil),⟨_,new,rfl,_,rfl⟩⟩,rfl,⟨_,x,I.hok.fresh (zww _),fun ys hy=>by rw[I.list_inj hy hq];exact hx,rfl,rfl⟩,⟨⟨u,e1⟩,o2.at fun o q=>(sb.2 it (Ne.symm hne)).trans q⟩,fun b hb=>?_⟩
  ·show 2<=sizeLine;rw[sizeLine_eq];decide
  ·have hb':b=e\/b=it:=by simpa using hb
   have hlt:b<s.heap.objs.size:=by
    rcases hb' with rfl|rfl
    ·exact Heap.lt_size h1
    ·obtain⟨o,q,_⟩:=h2;exact Heap.lt_size q
   rw[Zh (zxd hlt)];exact(hf b hb).1
 done:=by
  intro X hP hw hK hc i pins s σ H E I hf st hg;subst hP hw hK;obtain⟨xs,hq,hx⟩:=hg;obtain⟨its,rv,p,hz⟩:=I.list hq;obtain⟨⟨old,h1⟩,h2⟩:=st;have hl:=rv.length;exact wpAny_pyNext_enum_end (I.ok.hd hc) h1 h2 p.isList (by simp;omega) fun h' eb=>⟨rfl,I.turnedL (t':=s.toks) hf fun b o hb q=>eb b o (fun z=>hb (by simp[z])) q⟩
 self:=fun _ _ _ _ _ st h=>by
  obtain⟨⟨old,h1⟩,h2⟩:=st;exact wpAny_pyIter_enum h1 h
inductive zkl(K:Frag)(R:It->Hp->Prop)(vs:#[a])(H1:Hp):Prop where
 | mk(a)(_:vs=[.ref a])(_:(∃ xs,SqL K H1 a xs))(_:R (Ite K a) H1)
def zl4(K:Frag)(ta:TA):TI:=fun σ H R=>ta σ H fun vs H1=>zkl K R vs H1
theorem zcy{X:Cx}{K:Frag}{elts:List Expr}{k:Nat}{tp:Pos}{a:Expr}{ta:TA}{p pos:Pos}(hK:X.K=K)(hg:Gl X "enumerate")(hm:X.mg "enumerate"=none)(ha:PA X [a] ta)(hs:starEach [a] X.env=[(false,#[F,a])]:=by rfl):PI X (.Tuple elts k tp) (.Call (.Name "enumerate" p) [a] [] pos) (zl4 K ta):=by
 subst hK;intro pins s σ H R I h;refine Call_ (O9 I hg hm boot_enumerate (PyProof.Rows.callWith_type1 (thn (ha pos pins s σ H _ I h) fun us s1 ⟨vs,H1,I1,r1,q1⟩=>?_) hs rfl));obtain⟨a,e,⟨xs,hq⟩,q⟩:=q1;subst e;obtain⟨u,rfl,ru⟩:=Qq r1;cases ru;obtain⟨its,rv,pl,hz⟩:=I1.list hq;refine call_enumerate_list pl.isList fun h' e1 e2 e3 e4=>?_;refine wpAny_pyIter_enum e1 ?_;refine⟨_,[s1.heap.objs.size+1,s1.heap.objs.size],_,_,H1,rfl,I1.kept (t':=s1.toks) e4,zec a _ _ (Nat.succ_ne_self _),⟨⟨_,e1⟩,e2⟩,fun b hb=>?_,q⟩;have e:b=s1.heap.objs.size+1\/b=s1.heap.objs.size:=by simpa using hb
 rcases e with rfl|rfl
 ·exact I1.fpOk (Nat.le_succ _) (I1.hok.fresh (Nat.le_succ _))
 ·exact I1.fpOk (zww _) (I1.hok.fresh (zww _))
theorem Am{K:Frag}{a:Addr}{xs:#[a]}{g:TG}{tb:TS}{D:Q7}{σ:St}{H:Hp}(Pv:Nat->St->Hp->Prop)(h0:Pv 0 σ H)(hl:∀ i σ H,i<=xs.length->Pv i σ H->SqL K H a xs)
  (hs:∀ i x p σ H,xs[i]?=some x->Pv i σ H->H p=none->g (.ref p) σ (upd H p (.tup [.int (i:Nat),x])) fun σ2 H2=>tb { D with nx:=Pv (i+1),ct:=Pv (i+1),bk:=D.nx } σ2 H2) (hd:∀ σ H,Pv xs.length σ H->D.nx σ H) :
  ∃ W:Nat->Nat->St->Hp->Prop,(∃ m,W 0 m σ H)/\∀ i m σ H,W i m σ H ->
    ((Ite K a).stop i H/\D.nx σ H)\/((Ite K a).go i H/\∃ N:St->Hp->Prop,(∀ σ' H',N σ' H'->∃ m',m' < m/\W (i+1) m' σ' H')/\∀ x H',(Ite K a).yld i H x H'->g x σ H' fun σ2 H2=>tb { D with nx:=N,ct:=N,bk:=D.nx } σ2 H2):=by
 refine⟨fun i m σ H=>m=xs.length-i/\i<=xs.length/\Pv i σ H,⟨xs.length,by simp,zxh _,h0⟩,?_⟩;rintro i m σ H ⟨rfl,hi,p⟩;have q:=hl i σ H hi p;by_cases hlt:i<xs.length
 ·refine .inr ⟨⟨xs,xs[i],q,by simp[hlt]⟩,Pv (i+1),fun σ' H' p'=>⟨xs.length-(i+1),by omega,rfl,hlt,p'⟩,fun x H' y=>?_⟩;obtain⟨t,y,h1,h2,rfl,rfl⟩:=y;exact hs i y t σ _ (h2 xs q) p h1
 ·have e:i=xs.length:=by omega
  subst e;exact #[T,⟨xs,q,zww _⟩,hd σ H p]
def Itz(K:Frag)(a b:Addr):It :=
 ⟨fun i H=>∃ xs ys x y,SqL K H a xs/\SqL K H b ys/\xs[i]?=some x/\ys[i]?=some y,fun i H x H'=>∃ p y z,H p=none/\(∀ xs,SqL K H a xs->xs[i]?=some y)/\(∀ ys,SqL K H b ys->ys[i]?=some z)/\x=.ref p/\H'=upd H p (.tup [y,z]),
  fun i H=>∃ xs ys,SqL K H a xs/\SqL K H b ys/\(xs.length<=i\/ys.length<=i)⟩
theorem zgk{P:Program}{w:World}{K:Frag}{elts:List Expr}{k:Nat}{tp:Pos}(l1 l2 z TI TO i1 i2:Addr)(hz:ZipApart z TI TO i1 i2 l1 l2):Bu P w K (.Tuple elts k tp) (Itz K l1 l2) [z,TO,i1,i2,TI] z
  (fun i h=>IsZip h z TI TO Value.none/\IsPair h TI (Value.ref i1) (Value.ref i2)/\(∃ a b,IsPair h TO a b)/\h.IsListIter i1 l1 i/\h.IsListIter i2 l2 i) where
 mem:=by simp
 obj:=fun i h st b hb=>by
  obtain⟨h1,h2,⟨a,b',h3⟩,h4,h5⟩:=st;have e:b=z\/b=TO\/b=i1\/b=i2\/b=TI:=by simpa using hb
  rcases e with rfl|rfl|rfl|rfl|rfl
  ·exact⟨_,h1,fun v z=>by cases z⟩
  ·exact⟨_,h3,fun v z=>by cases z⟩
  ·obtain⟨o,e,c,d⟩:=h4;exact⟨o,e,fun v z=>by rw[d] at z;cases z⟩
  ·obtain⟨o,e,c,d⟩:=h5;exact⟨o,e,fun v z=>by rw[d] at z;cases z⟩
  ·exact⟨_,h2,fun v z=>by cases z⟩
 keep:=fun i h h' st k=>by
  obtain⟨h1,h2,⟨a,b',h3⟩,h4,h5⟩:=st;exact⟨k z (by simp) _ h1,k TI (by simp) _ h2,⟨a,b',k TO (by simp) _ h3⟩,h4.at fun o q=>k i1 (by simp) o q,h5.at fun o q=>k i2 (by simp) o q⟩
 item:=by
  intro X hP hw hK hc i pins s σ H E I hf st hg;subst hP hw hK;obtain⟨xs,ys,x,y,hq,hq2,hx,hy⟩:=hg;obtain⟨its,rv,p,_⟩:=I.list hq;obtain⟨its2,rv2,p2,_⟩:=I.list hq2;obtain⟨u,hu,ru⟩:=rv.get hx;obtain⟨u2,hu2,ru2⟩:=rv2.get hy;obtain⟨h1,h2,⟨a,b',h3⟩,h4,h5⟩:=id st;refine wpAny_pyNext_zip_item hz h1 h2 h3 h4 h5 p.isList p2.isList (x:=u) (y:=u2) (by simpa using hu) (by simpa using hu2) fun h' o1 o2 o3 o4 o5 o6 o7=>?_;refine#[w,_,wpAny_letOwnedTupleGo_zip o1 fun h'' e1 sb=>?_];have lt:∀ b o,#[O,b]=#[d]->b≠s.heap.objs.size:=fun b o q=>zxd (Heap.lt_size q);have kk:∀ b o,b∉[z,TO,i1,i2,TI]->#[O,b]=#[d]->h''.get? b=#[d]:=fun b o hb q=>by
   have hb':b≠z/\b≠TO/\b≠i1/\b≠i2/\b≠TI:=by simpa using hb
   exact(sb.2 b hb'.1).trans (o7 b o hb'.1 hb'.2.1 hb'.2.2.1 hb'.2.2.2.1 q)
  have new:h''.get? s.heap.objs.size=some { cls:=Value.type "tuple",data:=Data.seq #[u,u2] }:=(sb.2 _ (Ne.symm (lt _ _ h1))).trans o5;refine⟨.ref s.heap.objs.size,_,I.turnLay (t':=s.toks) (o:=.tup [x,y]) hf kk (zww _) ⟨?_,_,.cons ru (.cons ru2 .nil),⟨_,new,rfl,_,rfl⟩⟩,rfl,⟨_,x,y,I.hok.fresh (zww _),fun zs hy'=>by rw[I.list_inj hy' hq];exact hx,fun zs hy'=>by rw[I.list_inj hy' hq2];exact hy,rfl,rfl⟩,
   ⟨e1,(sb.2 _ hz.TIz).trans (o7 _ _ hz.TIz hz.TITO hz.TIi1 hz.TIi2 h2),⟨_,_,(sb.2 _ hz.TOz).trans o2⟩,o3.at fun o q=>(sb.2 _ hz.i1z).trans q,o4.at fun o q=>(sb.2 _ hz.i2z).trans q⟩,fun b hb=>?_⟩
  ·show 2<=sizeLine;rw[sizeLine_eq];decide
  ·have hne:b≠s.heap.objs.size:=by
    have e:b=z\/b=TO\/b=i1\/b=i2\/b=TI:=by simpa using hb
    rcases e with rfl|rfl|rfl|rfl|rfl
    ·exact lt _ _ h1
    ·exact lt _ _ h3
    ·obtain⟨o,q,_⟩:=h4;exact lt _ _ q
    ·obtain⟨o,q,_⟩:=h5;exact lt _ _ q
    ·exact lt _ _ h2
   rw[Zh hne];exact(hf b hb).1
 done:=by
  intro X hP hw hK hc i pins s σ H E I hf st hg;subst hP hw hK;obtain⟨xs,ys,hq,hq2,hx⟩:=hg;obtain⟨its,rv,p,_⟩:=I.list hq;obtain⟨its2,rv2,p2,_⟩:=I.list hq2;obtain⟨h1,h2,⟨a,b',h3⟩,h4,h5⟩:=st;have hl:=rv.length;have hl2:=rv2.length;exact wpAny_pyNext_zip_end (I.ok.hd hc) hz h1 h2 h3 h4 h5 p.isList p2.isList (hx.imp (fun z=>by simp;omega) fun z=>by simp;omega) fun h' eb=>⟨rfl,I.turnedL (t':=s.toks) hf fun b o hb q=>by
   have hb':b≠z/\b≠TO/\b≠i1/\b≠i2/\b≠TI:=by simpa using hb
   exact eb b o hb'.1 hb'.2.1 hb'.2.2.1 hb'.2.2.2.1 q⟩
 self:=fun _ _ _ _ _ st h=>wpAny_pyIter_zip st.1 h
inductive zl5(K:Frag)(R:It->Hp->Prop)(vs:#[a])(H1:Hp):Prop where
 | mk(a)(b)(_:#[ac,a,b])(_:(∃ xs,SqL K H1 a xs))(_:(∃ ys,SqL K H1 b ys))(_:R (Itz K a b) H1)
def zmv(K:Frag)(ta:TA):TI:=fun σ H R=>ta σ H fun vs H1=>zl5 K R vs H1
theorem zkm{X:Cx}{K:Frag}{elts:List Expr}{k:Nat}{tp:Pos}{a b:Expr}{ta:TA}{p pos:Pos}(hK:X.K=K)(hg:Gl X "zip")(hm:X.mg "zip"=none)(ha:PA X [a,b] ta)(hs:starEach [a,b] X.env=[(false,eval a X.env),(false,eval b X.env)]:=by rfl)(hs2:starEach [b] X.env=[(false,#[F,b])]:=by rfl):PI X (.Tuple elts k tp) (.Call (.Name "zip" p) [a,b] [] pos) (zmv K ta):=by
 subst hK;intro pins s σ H R I h;refine Call_ (O9 I hg hm boot_zip (PyProof.Rows.callWith_type1 (thn (ha pos pins s σ H _ I h) fun us s1 ⟨vs,H1,I1,r1,q1⟩=>?_) (by rw[hs,hs2]) (by rw[hs2];rfl)));obtain⟨a,b,e,⟨xs,hq⟩,⟨ys,hq2⟩,q⟩:=q1;subst e;cases r1 with
 | cons r rr =>
   obtain⟨u,rfl,ru⟩:=Qq rr;cases r;cases ru;obtain⟨its,rv,pl,hz⟩:=I1.list hq;obtain⟨its2,rv2,pl2,hz2⟩:=I1.list hq2;have lt1:@LT.lt Nat _ a s1.heap.objs.size:=by obtain⟨_,e,_⟩:=pl.isList;exact Heap.lt_size e
   have lt2:@LT.lt Nat _ b s1.heap.objs.size:=by obtain⟨_,e,_⟩:=pl2.isList;exact Heap.lt_size e
   refine call_zip_2 pl.isList pl2.isList fun h' e1 e2 e3 e4 e5 e6 e7=>?_;refine wpAny_pyIter_zip e1 ?_;refine⟨_,[s1.heap.objs.size+4,s1.heap.objs.size+3,s1.heap.objs.size,s1.heap.objs.size+1,s1.heap.objs.size+2],_,_,H1,rfl,I1.kept (t':=s1.toks) e7,zgk a b _ _ _ _ _ ?_,⟨e1,e2,⟨_,_,e3⟩,e4,e5⟩,fun c hb=>?_,q⟩
   ·refine⟨?_,?_,?_,?_,?_,?_,?_,?_,?_,?_,?_,?_,?_,?_,?_,?_,?_,?_⟩<;>(show @Ne Nat _ _;omega)
   have e:c=s1.heap.objs.size+4\/c=s1.heap.objs.size+3\/c=s1.heap.objs.size\/c=s1.heap.objs.size+1\/c=s1.heap.objs.size+2:=by simpa using hb
   have hle:s1.heap.objs.size<=c:=by rcases e with rfl|rfl|rfl|rfl|rfl<;>omega
   exact I1.fpOk hle (I1.hok.fresh hle)
section
variable{X:Cx}{pins:#[z]}{σ:List (Option V)}{H H':Hp}{s:Shared}{h':Heap}
theorem Inv.freeze(I:#[j])(e:H a=#[b,.dK,kvs])(ho:s.heap.get? a=some o):#[J,upd H a (.frz o (.dK kvs)),s]:=by
 have na:∀ b u,H b=some u->u≠.dK kvs->b≠a:=fun b u q n z=>by subst z;rw[q] at e;exact n (Option.some.inj e)
 refine I.un (h':=s.heap) (t':=s.toks) ⟨fun b o q _ _ _=>q,fun b o q _ _ _=>⟨o.slots,q⟩,fun b o q n _=>?_,fun b o q _=>⟨o,q⟩,fun b ys q=>?_,fun b o v q=>?_,fun b ps q=>⟨#[],?_⟩⟩ fun b u q=>?_
 ·rw[Zh (fun z=>by subst z;rw[n] at e;cases e)];exact n
 ·rw[Zh (na b _ q fun z=>nomatch z)];exact q
 ·rw[Zh (na b _ q fun z=>nomatch z)];exact q
 ·rw[Zh (na b _ q fun z=>nomatch z),q];simp
 ·have stay:∀ {b u},Y9 X.prog X.w H s.heap b u->Y9 X.prog X.w (upd H a (.frz o (.dK kvs))) s.heap b u:=fun {b u} k=>k.stay (fun _ _ _ q=>q) (fun c q=>by rw[Zh (na c _ q fun z=>nomatch z)];exact q) fun c _ q=>by rw[Zh (na c _ q fun z=>nomatch z)];exact q
  by_cases hb:b=a
  ·subst hb;rw[Zd] at q;cases q;exact⟨ho,stay (I.hok b _ e)⟩
  ·rw[Zh hb] at q;exact stay (I.hok b u q)
end
def Itk(a:Addr)(o:Obj)(kvs:#[W]):It :=
 ⟨fun i H=>H a=some (.frz o (.dK kvs))/\i<kvs.length,fun i H x H'=>H'=H/\∃ p,kvs[i]?=some p/\x=kV p.1,fun i H=>H a=some (.frz o (.dK kvs))/\kvs.length<=i⟩
theorem zgl(I:#[j])(e:H a=some (.frz o (.dK kvs))):∃ vs,KV kvs vs/\∃ es ep,o.data=.dict es ep/\s.heap.DictAt (Yr X.prog X.w) a vs ep:=by
 obtain⟨h1,hz,hm,vs,kv,o',es,ep,h2,h3,h4,h5⟩:=(show Y9 X.prog X.w H s.heap a (.frz o (.dK kvs)) from I.hok a _ e);rw[h1] at h2;cases h2;exact⟨vs,kv,es,ep,h4,o,es,h1,h3,h4,h5⟩
theorem zed{P:Program}{w:World}{K:Frag}{tg:Expr}(a it:Addr)(o:Obj)(kvs:#[W])(es:Array DictEntry)(ep:Nat)(ho:o.data=.dict es ep):Bu P w K tg (Itk a o kvs) [it] it (fun i h=>h.IsKeyIter it a i kvs.length ep) where
 mem:=by simp
 obj:=fun i h st b hb=>by
  have e:b=it:=by simpa using hb
  subst e;obtain⟨o,e,c,d⟩:=st;exact⟨o,e,fun v z=>by rw[d] at z;cases z⟩
 keep:=fun i h h' st k=>by
  obtain⟨o,e,c,d⟩:=st;exact⟨o,k it (by simp) o e,c,d⟩
 item:=by
  intro X hP hw hK hc i pins s σ H E I hf st hg;subst hP hw hK;obtain⟨hq,hi⟩:=hg;obtain⟨vs,kv,es',ep',h1,h2⟩:=zgl I hq;rw[ho] at h1;cases h1;obtain⟨f0,f1,f2,f3,f4,f5⟩:=hf it (by simp);have hl:kvs.length=vs.length:=KV.length kv;have hv:i<vs.length:=by omega
  obtain⟨⟨k,v⟩,hkv⟩:∃ kv,vs[i]'hv=kv:=#[y,_];rw[hl] at st;refine wpAny_pyNext_dict_item st h2 (k:=k) (v:=v) (by rw[zwn hv,hkv]) fun key h' hk st' sb=>?_;have I1:#[J,H,{ s with heap:=h' }]:=I.turned (t':=s.toks) (fun b o hb e=>(sb.2 b hb).trans e) f0 f1 f3 f4 f5;obtain⟨o2,e2,c2,d2⟩:=id st';have ek:=congrArg (·[i]?) (KV.keys kv);simp only[zwu,zwn hv,zwn hi,hkv,zxu] at ek;refine#[w,key,zfd (s:={ s with heap:=h' }) e2 c2 d2 ⋯ ⟨kV (kvs[i]'hi).1,H,I1,?_,⟨rfl,_,zwn hi,rfl⟩,by rw[hl];exact st',fun b hb=>(hf b hb).1⟩];have e3:(kvs[i]'hi).1=k:=Option.some.inj ek;rw[e3];rcases Y5 hk with ⟨j,t,rfl,rfl⟩|⟨z,t,rfl,rfl⟩
  ·exact#[y,t]
  ·exact#[y,t]
 done:=by
  intro X hP hw hK hc i pins s σ H E I hf st hg;subst hP hw hK;obtain⟨hq,hi⟩:=hg;obtain⟨vs,kv,es',ep',h1,h2⟩:=zgl I hq;rw[ho] at h1;cases h1;obtain⟨f0,f1,f2,f3,f4,f5⟩:=hf it (by simp);have hl:kvs.length=vs.length:=KV.length kv;rw[hl] at st;exact wpAny_pyNext_dict_end (I.ok.hd hc) st h2 (List.getElem?_eq_none ⋯) fun h' eb=>⟨rfl,I.turned (t':=s.toks) (fun b o hb e=>eb b o hb e) f0 f1 f3 f4 f5⟩
 self:=fun _ _ _ _ _ st h=>wpAny_pyIter_keyiter st h
inductive zkn(R:It->Hp->Prop)(x:V)(H1:Hp):Prop where
 | mk(a)(kvs)(_:x=.ref a)(_:H1 a=#[b,.dK,kvs])(_:∀ o,R (Itk a o kvs) (upd H1 a (.frz o (.dK kvs))))
def zl6(tl:TE):TI:=fun σ H R=>tl σ H fun x H1=>zkn R x H1
theorem zig{X:Cx}{tg:Expr}{l:Expr}{tl:TE}(hl:PE X l tl):PI X tg l (zl6 tl):=by
 intro pins s σ H R I h;refine thn (hl pins s σ H _ I h) fun v s1 ⟨x,H1,I1,r1,q1⟩=>?_;obtain⟨a,kvs,e,hq,q⟩:=q1;subst e;cases r1;obtain⟨hz,hm,vs,kv,o,es,ep,h2,h3,h4,h5⟩:=(show Y9 X.prog X.w H1 s1.heap a (.dK kvs) from I1.hok a _ hq);have hl:kvs.length=vs.length:=KV.length kv;have I2:=I1.freeze hq h2;refine wpAny_pyIter_dict hm ⟨o,es,h2,h3,h4,h5⟩ ?_;refine⟨s1.heap.objs.size,[s1.heap.objs.size],_,_,_,rfl,I2.kept (t':=s1.toks) fun b o e=>#[ag,_,e],zed a _ o kvs es ep h4,⟨_,Heap.get?_push_size _ rfl,rfl,by rw[hl];rfl⟩,fun b hb=>?_,q o⟩;have e:b=s1.heap.objs.size:=by simpa using hb
 subst e;exact I2.fpOk (zww _) (I2.hok.fresh (zww _))
theorem zgm{a:Addr}{o:Obj}{kvs:#[W]}{g:TG}{tb:TS}{D:Q7}{σ:St}{H:Hp}(Pv:Nat->St->Hp->Prop)(h0:Pv 0 σ H)(hl:∀ i σ H,i<=kvs.length->Pv i σ H->H a=some (.frz o (.dK kvs)))
  (hs:∀ i k v σ H,kvs[i]?=some (k,v)->Pv i σ H->g (kV k) σ H fun σ2 H2=>tb { D with nx:=Pv (i+1),ct:=Pv (i+1),bk:=D.nx } σ2 H2) (hd:∀ σ H,Pv kvs.length σ H->D.nx σ H) :
  ∃ W:Nat->Nat->St->Hp->Prop,(∃ m,W 0 m σ H)/\∀ i m σ H,W i m σ H ->
    ((Itk a o kvs).stop i H/\D.nx σ H)\/((Itk a o kvs).go i H/\∃ N:St->Hp->Prop,(∀ σ' H',N σ' H'->∃ m',m' < m/\W (i+1) m' σ' H')/\∀ x H',(Itk a o kvs).yld i H x H'->g x σ H' fun σ2 H2=>tb { D with nx:=N,ct:=N,bk:=D.nx } σ2 H2):=by
 refine⟨fun i m σ H=>m=kvs.length-i/\i<=kvs.length/\Pv i σ H,⟨kvs.length,by simp,zxh _,h0⟩,?_⟩;rintro i m σ H ⟨rfl,hi,p⟩;have q:=hl i σ H hi p;by_cases hlt:i<kvs.length
 ·refine .inr ⟨⟨q,hlt⟩,Pv (i+1),fun σ' H' p'=>⟨kvs.length-(i+1),by omega,rfl,hlt,p'⟩,fun x H' y=>?_⟩;obtain⟨e,⟨k,v⟩,y,rfl⟩:=y;subst e;exact hs i k v σ _ y p
 ·have e:i=kvs.length:=by omega
  subst e;exact #[T,⟨q,zww _⟩,hd σ H p]
theorem zee(hc:X.calm=true):Vx X (.builtin "max") (fun xs H Q=>∃ (l:Addr) (kvs:List (Key×V)) (ns:List Int),xs=[.ref l]/\Rd H l (.dK kvs)/\kvs.map (·.1)=ns.map inl/\0<ns.length/\∀ M,M∈ns->(∀ a∈ns,a<=M)->Q (.int M) H):=by
 intro pins s σ H xs us Q I r h;obtain⟨l,kvs,ns,rfl,hl,hns,hpos,q⟩:=h;obtain⟨u,rfl,ru⟩:=Qq r;cases ru;obtain⟨hz,hm,vs,kv,o,es,ep,h2,h3,h4,h5⟩:=Pb I.hok hl;have hlen:vs.length=ns.length:=by
  have e1:=KV.length kv;have e2:=congrArg List.length hns;rw[zwm,zwm] at e2;omega
 have hlt:l<s.heap.objs.size:=Heap.lt_size h2;have da:s.heap.DictAt (Yr X.prog X.w) l vs ep:=⟨o,es,h2,h3,h4,h5⟩;have val:∀ (i:Nat) (v:Value),(∃ k y,vs[i]?=some (k,y)/\(Yr X.prog X.w).is k v=true)->∃ t,v=.int (ns.getD i 0) t:=fun i v ⟨k,y,hk,hv⟩=>by
  have e1:=congrArg (·[i]?) (KV.keys kv);have e2:=congrArg (·[i]?) hns;simp only[zwu,hk,zxu] at e1 e2;rw[e1] at e2;have hi:i<ns.length:=by
   rw[<- hlen];exact(zwo.mp hk).1
  rw[zwn hi] at e2;have e3:k=inl (ns[i]'hi):=Option.some.inj e2;have e4:ns.getD i 0=ns[i]'hi:=by rw[zxc,zwn hi];rfl
  rw[e4];rcases Y5 hv with ⟨j,t,rfl,rfl⟩|⟨z,t,rfl,rfl⟩
  ·cases e3;exact#[y,t]
  ·cases e3
 refine call_max_walk (wpAny_pyIter_dict hm da ?_);refine⟨s.heap.objs.size,[s.heap.objs.size,l],[s.heap.objs.size],vs.length,_,_,_,rfl,Walks.dictKeys (knd:=Yr X.prog X.w) (A:=X.A.in1) (I.ok.hd hc) _ l (zxd hlt) vs ep,⟨⟨_,Heap.get?_push_size _ rfl,rfl,rfl⟩,da.push _⟩,fun b hb=>?_,by omega,CmpOf.ints_gt (fun i=>ns.getD i 0) fun i v hv=>val i v hv,fun v h' tk hP hk=>?_⟩
 ·show b<(s.heap.push _).objs.size;rw[Heap.size_push];rcases zwr.mp hb with rfl|hb
  ·exact Nat.lt_succ_self _
  ·rcases zwr.mp hb with rfl|hb
   ·exact zym hlt
   ·cases hb
 ·obtain⟨h1,h2⟩:=argBest_gt (fun i=>ns.getD i 0) (vs.length-1);obtain⟨t,rfl⟩:=val _ v hP;rw[hlen] at h1 h2 ⊢;generalize argBest (fun i j=>decide ((fun i=>ns.getD i 0) i>(fun i=>ns.getD i 0) j)) (ns.length-1)=b at h1 h2 ⊢;have hb:b<ns.length:=by omega
  have eg:∀ (k:Nat) (hk:k<ns.length),ns.getD k 0=ns[k]'hk:=fun k hk=>by rw[zxc,zwn hk];rfl
  refine⟨.int (ns.getD b 0),H,I.kept fun c o e=>?_,#[y,_],q _ (by rw[eg b hb];exact zxg hb) fun x hx=>?_⟩
  ·refine hk c o (fun hm=>?_) #[ag,_,e];rw[zwt.mp hm] at e;exact zx8 _ (Heap.lt_size e)
  ·obtain⟨k,hk',rfl⟩:=zxr hx;have:=h2 k ⋯;show ns[k]<=_;rw[<- eg k hk'];exact this
theorem Ni(I:Nat->Shared->Prop)
  (turn:∀ (n:Nat) (s:Shared),I n s->wpAny (model prog w) A (pyNext it) (fun r s₁=>match r with
   | none=>R (.ok .next) s₁
   | some v=>wpAny (model prog w) A (letOwnedTupleGo target it v) (fun _ s₁'=>wpAny (model prog w) A (assign target env v) (fun _ s₂=>wpAny (model prog w) A (forIn ifs true fun c r=>if r=true then do let ok <- isTrue c env (eval c env);pure (ForInStep.yield ok) else pure (ForInStep.yield r)) (fun ok s₃=>if ok=true then wpAny (model prog w) A (eval elt env) (fun x s₄=>wpAny (model prog w) A (call (.builtin "list.append") [acc,x]) (fun _ s₅=>∃ m,m<n/\I m s₅) (notedBy (model prog w) A env fun e s'=>R (.error e) s') s₄) (notedBy (model prog w) A env fun e s'=>R (.error e) s') s₃ else ∃ m,m<n/\I m s₃) (notedBy (model prog w) A env fun e s'=>R (.error e) s') s₂) (notedBy (model prog w) A env fun e s'=>R (.error e) s') s₁') (notedBy (model prog w) A env fun e s'=>R (.error e) s') s₁) (notedBy (model prog w) A env fun e s'=>R (.error e) s') s)
  (n:Nat) (h:I n s):codeAny (model prog w) A (.compLoop (.ListComp elt [⟨target,iter,ifs,0⟩] scope pos) 0 it acc env) R s:=by
 refine codeAny_loop rfl I (fun n s hI=>?_) n h;refine wpAny_noted ?_;rw[compTurn_list];refine wpAny_bind (wpAny_standAt (wpAny_bind (wpAny_mono (turn n s hI) (fun r s₁ h₁=>?_) fun _ _ z=>z)));cases r with
 | none=>exact wpAny_pure h₁
 | some v =>
   refine wpAny_bind (wpAny_mono h₁ (fun _ s₁' h₂=>wpAny_bind (wpAny_mono h₂ (fun _ s₂ h₃=>wpAny_bind (wpAny_mono h₃ (fun ok s₃ h₄=>?_) fun _ _ z=>z)) fun _ _ z=>z)) fun _ _ z=>z);cases ok with
   | false =>
     simp only[zx0,if_false] at h₄ ⊢;exact wpAny_pure ⟨rfl,h₄⟩
   | true =>
     simp only[if_true] at h₄ ⊢;refine wpAny_bind (wpAny_bind (wpAny_mono h₄ (fun x s₄ h₅=>wpAny_bind (wpAny_mono h₅ (fun _ s₅ h₆=>wpAny_pure (wpAny_pure ⟨rfl,h₆⟩)) fun _ _ z=>z)) fun _ _ z=>z))
def cs0(xo:#[D])(js:List Nat)(σ:St):St:=(xo.map fun _=>none)++js.map fun j=>(σ[j]?).getD none
def Oj(xo:#[D])(js:List Nat)(σ σ2:St):Prop:=∃ os:St,os.length=xo.length/\σ2=os++js.map fun j=>(σ[j]?).getD none
theorem Oj.weak(o:Oj xo js σ σ2)(I:Inv X pins σ2 H s):Inv X pins (cs0 xo js σ) H s:=by
 obtain⟨os,hl,rfl⟩:=o;refine I.weak (by unfold cs0;simp[hl]) fun i v e=>?_;unfold cs0 at e;by_cases hi:i<xo.length
 ·rw[zxl (by rw[zwm];exact hi),zwu,zwn hi] at e;cases e
 ·rw[zxj (by rw[zwm];omega),zwm] at e;rw[zxj ⋯,hl];exact e
def zbo(J:It)(xo:#[D])(js:List Nat)(g:TG)(tt:TT)(te:TE)(σ:St)(H:Hp)(Q:VK):Prop:=∃ W:Nat->Nat->#[a]->Hp->Prop,(∃ m,W 0 m [] H)/\∀ i m ys H,W i m ys H ->
 (J.stop i H/\ys.length<=sizeLine/\∀ p,H p=none->Q (.ref p) (upd H p (.lst ys))) \/
 (J.go i H/\ys.length<sizeLine/\∃ N:#[a]->Hp->Prop,(∀ ys' H',N ys' H'->∃ m',m' < m/\W (i+1) m' ys' H')/\∀ x H',J.yld i H x H'->g x (cs0 xo js σ) H' fun σ2 H1=>Oj xo js σ σ2/\tt σ2 H1 fun b H2=>if b=true then te σ2 H2 fun y H3=>N (ys++[y]) H3 else N ys H2)
def zko(wi:TI)(xo:#[D])(js:List Nat)(g:TG)(tt:TT)(te:TE):TE:=fun σ H Q=>wi σ H fun J H1=>zbo J xo js g tt te σ H1 Q
section
variable{X:Cx}{elt iter tg:Expr}{xo:#[D]}{pos:Pos}{ifs:List Expr}{scope:Scope}{cl:List (Str×Addr)}{ys:#[D]}{js:List Nat}{g:TG}
structure Mq(X:Cx)(xo:#[D])(scope:Scope)(cl:List (Str×Addr))(ys:#[D])(js:List Nat):Prop where
 clos:closureFor scope X.env=pure cl
 kind:scope.kind=.function
 names:∀ y∈scope.names,y.2=.local->scope.names.lookup y.1=some .local
 nocell:∀ y∈scope.names,y.2≠.cell
 at_:js.map (X.N[·]?)=ys.map some
 free:F3 (fun y=>X.env.kindOf y=some .cell/\(relabel scope X.env).names.lookup y=some .cell/\cl.lookup y=#[V,y]) ys
 only:F3 (fun p=>#[V,p.1]=some p.2) cl
 vis:∀ y∈scope.names,y.2=.free->y.1∈ys
theorem Mq.same(c:Mq X xo scope cl ys js)(h:cl.lookup y=some a):#[V,y]=some a:=c.only.get (PySem.mem_of_lookup h)
theorem zgn(c:Mq X xo scope cl ys js)(I:#[j])(hf:∀ b∈fp,FpOk X pins H b)(hex:∀ b∈fp,b<s.heap.objs.size)(hC:s.heap.objs.size<=C) :
  (Yz X pn Nc scope cl s H fp C).Ok where
 mod:=I.ok.mod
 kind:=c.kind
 glob:=I.ok.glob
 blt:=I.ok.blt
 above:=hC
 inj:=fun y z a h1 h2=>I.ok.inj y z a (c.same h1) (c.same h2)
 has:=fun y h=>by
  obtain⟨k,m,q⟩:=Ml h;rcases q with rfl|rfl
  ·exact absurd rfl (c.nocell _ m)
  ·obtain⟨a1,a2,a3⟩:=c.free.get (c.vis _ m rfl);obtain⟨a,ha⟩:=I.ok.has y (.inl a1);exact⟨a,a3.trans ha⟩
 cab:=fun _ _ h=>by cases h
 hd:=I.ok.hd
 frames:=I.ok.frames
 stk:=.inl rfl
 exf:=fun b hb=>by
  obtain⟨f0,f1,f2,f3,f4,f5⟩:=hf b hb;exact⟨zxd (zw5 (hex b hb) hC),fun y a h=>f4 y a (c.same h)⟩
 bs:=I.bs
 bsz:=zw6 I.ok.bsz I.sz
 noex:=fun b o q hb=>by
  obtain⟨f0,f1,f2,f3,f4,f5⟩:=hf b hb;rcases f3 with z|z
  ·exact I.ok.noex b o q z
  ·exact absurd (zw5 (Heap.lt_size (I.ok.bs b o q).1) z) (zx8 _)
 exfs:=fun b hb m=>by
  obtain⟨f0,f1,f2,f3,f4,f5⟩:=hf b hb;exact(zwr.mp (I.stkSub b m)).elim f1 f2
 funs:=I.stack
 frf:=I.stkFree
theorem zef(c:Mq X xo scope cl ys js)(I:#[j])(hf:∀ b∈fp,FpOk X pins H b)(hex:∀ b∈fp,b<s.heap.objs.size)(hC:s.heap.objs.size<=C)
  (hns:h1.Ns C m1) (old:∀ b o,#[O,b]=#[d]->h1.get? b=#[d]) :
  Inv (Yz X (X.pn++pins) (xo++ys) scope cl s H fp C) [] (cs0 xo js σ) H { s with heap:=h1,toks:=t1 }:=by
 obtain⟨m,hn,hl⟩:=I.loc;have jl:js.length=ys.length:=by have:=congrArg List.length c.at_;simpa using this
 refine⟨zgn c I hf hex hC,rfl,I.bare,Un.kept old,⟨m1,hns,fun i y v e1 e2 e3=>?_⟩,fun y a h=>?_,I.hok.fresh hC,fun y a h=>I.freeC y a (c.same h),fun p hp=>?_,I.hok.kept old,by simp[jl,Yz,cs0]⟩
 ·have e2:=e2.resolve_right (Wk _);unfold cs0 at e2;by_cases hi:i<xo.length
  ·rw[zxl (by rw[zwm];exact hi),zwu,zwn hi] at e2;cases e2
  ·rw[zxj (by rw[zwm];omega),zwm] at e2;have e1:ys[i-xo.length]?=some y:=by
    have e1:(xo++ys)[i]?=some y:=e1;rw[zxj ⋯] at e1;exact e1
   generalize i-xo.length=k at e1 e2;rw[zwu] at e2;cases hj:js[k]? with
   | none=>rw[hj] at e2;cases e2
   | some j =>
     rw[hj] at e2;have ej:X.N[j]?=some y:=by
      have q:=congrArg (·[k]?) c.at_;simp only[zwu,hj,e1,zxu] at q;exact Option.some.inj q
     have ev:σ[j]?=#[b,some,v]:=by
      simp only[zxu,Option.some.injEq] at e2;cases hσ:σ[j]? with
      | none=>rw[hσ] at e2;cases e2
      | some o=>rw[hσ] at e2;rw[show o=some v from e2]
     obtain⟨a1,a2,a3⟩:=c.free.get (zw0 e1);obtain⟨u,r,l⟩:=hl j y v ej (.inl ev) (.inr (.inl a1));refine⟨u,r,.inr ⟨.inl a2,?_⟩⟩;rcases l with ⟨k1,_⟩|⟨_,b,e,z⟩
     ·rw[a1] at k1;cases k1
     ·obtain⟨o,ho,hd⟩:=z;exact⟨b,a3.trans e,o,old _ _ ho,hd⟩
 ·obtain⟨v,o,ho,hd⟩:=I.cell y a (c.same h);exact⟨v,o,old _ _ ho,hd⟩
 ·obtain⟨e,n,ne,nf,d⟩:=I.pin p (by simpa [Yz] using hp);refine⟨old _ _ e,n,zxd (zw5 (Heap.lt_size e) hC),fun m=>?_,d⟩;exact(zwr.mp (I.stkSub _ m)).elim ne nf
theorem Hw{pins:#[z]}{σ:St}{H:Hp}{s:Shared}{tt:TT}{te:TE}{it:Addr}{fp:#[B]}{tn:Nat->Heap->Prop}{J:It}{W:Nat->Nat->#[a]->Hp->Prop}{m0:Nat}{Q:VK}{E:Value->Shared->Prop}{RR:Value->Addr->Result->Shared->Prop}
  (hcm:X.calm=true) (c:Mq X xo scope cl ys js) (ht:∀ pn s₀ H₀ fp C,PTs (Yz X pn (xo++ys) scope cl s₀ H₀ fp C) ifs tt) (hgt:∀ pn s₀ H₀ fp C,PG (Yz X pn (xo++ys) scope cl s₀ H₀ fp C) tg g) (he:∀ pn s₀ H₀ fp C,PE (Yz X pn (xo++ys) scope cl s₀ H₀ fp C) elt te)
  (I:#[j]) (T:Bu X.prog X.w X.K tg J fp it tn) (st0:tn 0 s.heap) (hf:∀ b∈fp,FpOk X pins H b) (w0:W 0 m0 [] H)
  (turn:∀ i m ys H,W i m ys H->(J.stop i H/\ys.length<=sizeLine/\∀ p,H p=none->Q (.ref p) (upd H p (.lst ys))) \/
   (J.go i H/\ys.length<sizeLine/\∃ N:#[a]->Hp->Prop,(∀ ys' H',N ys' H'->∃ m',m' < m/\W (i+1) m' ys' H')/\∀ x H',J.yld i H x H'->g x (cs0 xo js σ) H' fun σ2 H1=>Oj xo js σ σ2/\tt σ2 H1 fun b H2=>if b=true then te σ2 H2 fun y H3=>N (ys++[y]) H3 else N ys H2))
  (hRR:∀ D C s' m,s'.heap.Ns C m->(∀ h',Heap.SameBut C s'.heap h'->∃ H',Inv X pins σ H' { s' with heap:=h' }/\Q (.ref D) H')->(∃ H',Inv X pins σ H' s'/\Q (.ref D) H'/\H' C=none)->s.heap.objs.size<=C->RR (.ref D) C (.ok .next) s') :
  wpAny (model X.prog X.w) X.A (newList []) (fun acc s₃=>#[aa,X.A,newFunctionEnv scope X.env.globals cl [] X.env.qual none .none (some X.env),(fun cenv s₄ =>
   codeAny (model X.prog X.w) X.A (.compStart (.ListComp elt [⟨tg,iter,ifs,0⟩] scope pos) 0 (.ref it) acc { cenv with scope:=relabel scope X.env }) (RR acc cenv.locals) s₄),E,s₃]) E s:=by
 refine wpAny_newObj_type (wpAny_newFunctionEnv c.nocell (by intro y hy;simp at hy) (fun h₁ hns₁ hsb₁=>?_) c.kind);dsimp only at hns₁ hsb₁ ⊢;generalize hH2:s.heap.push { cls:=.type "list",dict:=none,data:=.seq ([]:List Value).toArray }=G at hns₁ hsb₁ ⊢;generalize hD:s.heap.objs.size=D;have hC:G.objs.size=D+1:=by rw[<- hH2,Heap.size_push,hD]
 generalize hCe:G.objs.size=C at hns₁ hsb₁ ⊢;have hCD:C=D+1:=hCe.symm.trans hC;have hDC:D≠C:=by omega
 have below:∀ b o,#[O,b]=#[d]->b<D:=fun b o e=>by rw[<- hD];exact Heap.lt_size e
 have ltC:∀ b:Addr,b<D->b≠C:=fun b h=>zxd (hCD▸zym h);have ltD:∀ b:Addr,b<D->b≠D:=fun b h=>zxd h;have old:∀ b o,#[O,b]=#[d]->h₁.get? b=#[d]:=fun b o e=>hsb₁.extBut b o (ltC b (below b o e)) #[ag,_,hH2▸#[ag,_,e]];have hacc:h₁.PlainList D #[]:=⟨_,hsb₁.extBut _ _ hDC #[ag,_,(by rw[<- hH2,<- hD];exact Heap.get?_push_size _ rfl)]⟩;have hex:∀ b∈fp,b<s.heap.objs.size:=fun b hb=>by
  obtain⟨o,e,_⟩:=T.obj _ _ st0 b hb;exact Heap.lt_size e
 have lt0:∀ b∈fp,b<D:=fun b hb=>by rw[<- hD];exact hex b hb
 have freshD:#[O,D]=none:=Heap.get?_none_of_le ⋯;have freshC:#[O,C]=none:=Heap.get?_none_of_le ⋯;have frE:∀ {H':Hp},(∀ b∈fp,H' b=none)->∀ {o:Obj} {b:Addr},b∈fp->FpOk (Yz X (X.pn++pins) (xo++ys) scope cl s H fp C) [(D,o)] H' b:=fun {H'} hn {o b} hb=>by
  obtain⟨f0,f1,f2,f3,f4,f5⟩:=hf b hb;refine⟨hn b hb,?_,?_,.inl hb,fun y a h=>f4 y a (c.same h),fun p hp=>?_⟩
  ·exact ltC b (lt0 b hb)
  ·exact fun m=>(zwr.mp (I.stkSub b m)).elim f1 f2
  ·rcases zwy.mp hp with z|z
   ·exact f5 p z
   ·rw[zwt.mp z];exact Ne.symm (ltD b (lt0 b hb))
 have pinD:∀ {σ':St} {H':Hp} {s':Shared} {o:Obj},Inv (Yz X (X.pn++pins) (xo++ys) scope cl s H fp C) [] σ' H' s'->s'.heap.get? D=#[d]->(∀ v,o.data≠.cell v)->H' D=none->Inv (Yz X (X.pn++pins) (xo++ys) scope cl s H fp C) [(D,o)] σ' H' s':=fun {σ' H' s' o} Ic e nc n =>
  Ic.pins_of fun p hp=>by
   rw[zwt.mp hp];refine⟨e,n,hDC,fun m=>?_,nc⟩;obtain⟨_,ob,hob,_⟩:=I.stack.mem m;exact absurd (below D ob hob) (zx8 _)
 have loop:∀ s₃:Shared,s₃={ s with heap:=h₁,toks:=s.toks+([]:List (Str×Value)).length } ->
   codeAny (model X.prog X.w) X.A (.compLoop (.ListComp elt [⟨tg,iter,ifs,0⟩] scope pos) 0 (.ref it) (.ref D) (compEnvC scope cl C X.env)) (RR (.ref D) C) s₃:=by
  rintro s₃ rfl;have I0:=zef (t1:=s.toks+([]:List (Str×Value)).length) c I hf hex (by omega:s.heap.objs.size<=C) hns₁ old;refine Ni (fun n s'=>∃ i H' zs its,Inv (Yz X (X.pn++pins) (xo++ys) scope cl s H fp C) [] (cs0 xo js σ) H' s'/\tn i s'.heap/\(∀ b∈fp,H' b=none)/\s'.heap.PlainList D (its:List Value).toArray/\Vals zs its/\H' D=none/\W i n zs H') ?_ m0
   ⟨0,H,[],[],I0,T.keep _ _ _ st0 fun b hb o e=>old b o e,fun b hb=>(hf b hb).1,hacc,.nil,I.hok.fresh ⋯,w0⟩
  rintro n s3 ⟨i,H3,zs,its,I3,st3,fr3,⟨n3,pl3⟩,rv3,fD3,w3⟩;have I3':=pinD I3 pl3 (by intro v z;cases z) fD3;rcases turn i n zs H3 w3 with ⟨stop,hsz,fin⟩|⟨go,hsz,Nx,hNx,step⟩
  ·refine wpAny_mono (T.done (Yz X (X.pn++pins) (xo++ys) scope cl s H fp C) rfl rfl rfl hcm i _ s3 _ H3 (fun _ _=>False) I3' (fun b hb=>frE fr3 hb) st3 stop) (fun r s4 ⟨hr,I4⟩=>?_) fun _ _ z=>z.elim;subst hr;have plD:s4.heap.get? D=some _:=(I4.pin (D,{ cls:=Value.type "list",data:=.seq its.toArray n3 }) (zw8 _ zxi)).1;obtain⟨m4,hn4,_⟩:=I4.loc;have okU:∀ h',(∀ b o,b≠C->s4.heap.get? b=some o->h'.get? b=some o)->#[J,upd H3 D (.lst zs),{ s4 with heap:=h' }]:=fun h' k1=>by
    have u4:Un (frs X.stack) fp H H3 s.heap s4.heap:=I4.base;have neC:∀ b o,#[O,b]=#[d]->b≠C:=fun b o e=>ltC b (below b o e);have neD:∀ b o,#[O,b]=#[d]->b≠D:=fun b o e=>ltD b (below b o e);have trD:∀ b u,H3 b=some u->b≠D:=fun b u e z=>by rw[z,fD3] at e;cases e
    have trC:∀ b u,H3 b=some u->b≠C:=fun b u e z=>by rw[z,show H3 C=none from I4.free] at e;cases e
    have un:Un (frs X.stack) fp H (upd H3 D (.lst zs)) s.heap h':=by
     refine⟨fun b o e n hb hx=>k1 b o (neC b o e) (u4.keep b o e n hb hx),fun b o e n hb hx=>?_,fun b o e n hx=>?_,fun b o e hx=>?_,fun b xs e=>?_,fun b ob u e=>?_,fun b ps e=>?_⟩
     ·obtain⟨sl,z⟩:=u4.slot b o e n hb hx;exact⟨sl,k1 b _ (neC b o e) z⟩
     ·rw[Zh (neD b o e)];exact u4.free b o e n hx
     ·obtain⟨o',z⟩:=u4.there b o e hx;exact⟨o',k1 b o' (neC b o e) z⟩
     ·have z:=u4.tups b xs e;rw[Zh (trD b _ z)];exact z
     ·have z:=u4.frzs b ob u e;rw[Zh (trD b _ z)];exact z
     ·obtain⟨more,z⟩:=u4.tbls b ps e;exact⟨more,by rw[Zh (trD b _ z)];exact z⟩
    refine I.call' (s':={ s4 with heap:=h' }) (ch:=fp) (show s4.os=s.os from I4.os) un (fun b u e=>?_) I4.bare fun b hb=>?_
    ·by_cases hb:b=D
     ·subst hb;rw[Zd] at e;cases e;exact⟨hsz,its,n3,rv3,k1 _ _ hDC plD⟩
     ·rw[Zh hb] at e;refine(I4.hok b u e).stay (fun d v hd q=>?_) (fun d q=>by rw[Zh (trD d _ q)];exact q) fun d xs q=>by rw[Zh (trD d _ q)];exact q
      rcases hd with z|z
      ·exact k1 d v (by rw[z];exact trC b u e) q
      ·exact k1 d v (trC d _ z) q
    ·obtain⟨f0,f1,f2,f3,f4,f5⟩:=hf b hb;exact⟨f3,f1,f4,f5⟩
   refine hRR D C s4 m4 hn4 (fun h' hs'=>⟨_,okU h' fun b o hb e=>hs'.extBut b o hb e,fin D fD3⟩) ⟨_,okU s4.heap fun _ _ _ e=>e,fin D fD3,?_⟩ ⋯
   ·rw[Zh (Ne.symm hDC)];exact I4.free
  ·refine wpAny_mono (T.item (Yz X (X.pn++pins) (xo++ys) scope cl s H fp C) rfl rfl rfl hcm i _ s3 _ H3 (fun _ _=>False) I3' (fun b hb=>frE fr3 hb) st3 go) (fun r s4 ⟨u,hr,h4⟩=>?_) fun _ _ z=>z.elim;subst hr;refine wpAny_mono h4 (fun _ s5 h5=>?_) fun _ _ z=>z.elim;obtain⟨xv,H5,I5,r5,y5,st5,fr5⟩:=h5;have I5':=I5.pinned (fun b hb=>frE fr5 hb) (T.obj _ _ st5);refine wpAny_mono (hgt _ _ _ _ _ _ s5 _ H5 xv u _ I5' r5 (step xv H5 y5)) (fun _ s6 ⟨σ6,H6,I6,own6,q6⟩=>?_) fun _ _ z=>z.elim;refine wpAny_mono (ht _ _ _ _ _ _ s6 _ H6 _ I6 q6) (fun ok s7 ⟨H7,I7,q7⟩=>?_) fun _ _ z=>z.elim;have keepF:∀ {σ8:St} {H8:Hp} {s8:Shared},Inv (Yz X (X.pn++pins) (xo++ys) scope cl s H fp C) ([(D,{ cls:=Value.type "list",data:=.seq its.toArray n3 })]++Lp fp s5.heap) σ8 H8 s8->tn (i+1) s8.heap/\(∀ b∈fp,H8 b=none)/\s8.heap.PlainList D its.toArray/\H8 D=none:=fun {σ8 H8 s8} I8=>by
    refine⟨T.keep _ _ _ st5 fun b hb o e=>(I8.pin (b,o) (zw8 _ (zw8 _ (R8 hb e)))).1,fun b hb=>?_,⟨n3,(I8.pin (D,_) (zw8 _ zxi)).1⟩,(I8.pin (D,_) (zw8 _ zxi)).2.1⟩;obtain⟨o,e,d⟩:=T.obj _ _ st5 b hb;exact(I8.pin (b,o) (zw8 _ (zw8 _ (R8 hb e)))).2.1
   have bare:∀ {σ8:St} {H8:Hp} {s8:Shared},Inv (Yz X (X.pn++pins) (xo++ys) scope cl s H fp C) ([(D,{ cls:=Value.type "list",data:=.seq its.toArray n3 })]++Lp fp s5.heap) σ8 H8 s8->Inv (Yz X (X.pn++pins) (xo++ys) scope cl s H fp C) [] σ8 H8 s8:=fun I8=>I8.pins_of fun _ z=>(nomatch z)
   cases ok with
   | false =>
     simp only[zx0,if_false] at q7 ⊢;obtain⟨m',hm',w7⟩:=hNx _ _ q7;obtain⟨a1,a2,a3,a4⟩:=keepF I7;exact⟨m',hm',i+1,H7,zs,its,own6.weak (bare I7),a1,a2,a3,rv3,a4,w7⟩
   | true =>
     simp only[if_true] at q7 ⊢;refine wpAny_mono (he _ _ _ _ _ _ s7 _ H7 _ I7 q7) (fun y s8 ⟨yv,H8,I8,r8,q8⟩=>?_) fun _ _ z=>z.elim;obtain⟨m',hm',w8⟩:=hNx _ _ q8;obtain⟨a1,a2,a3,a4⟩:=keepF I8;have szI:its.toArray.size<=sizeLine:=by rw[zw1,<- rv3.length];omega
     refine wpAny_list_append_plain (hsz:=szI) a3 fun h9 pl9 sb9=>?_;have I8b:=own6.weak (bare I8);refine⟨m',hm',i+1,H8,zs++[yv],its++[y],?_,T.keep _ _ _ a1 fun b hb o e=>(sb9.2 b (ltD b (lt0 b hb))).trans e,a2,by rw[List.push_toArray] at pl9;exact pl9,rv3.append (.cons r8 .nil),a4,w8⟩;refine I8b.turned (t':=s8.toks) (it:=D) (fun b o hb e=>(sb9.2 b hb).trans e) a4 hDC (.inr (show s.heap.objs.size<=D by omega)) (fun y' a h=>?_) fun p hp=>?_
     ·obtain⟨v,o,ho,_⟩:=I.cell y' a (c.same h);exact ltD a (below a o ho)
     ·obtain⟨e,_⟩:=I.pin p (by simpa [Yz] using hp);exact ltD _ (below _ _ e)
 exact codeAny_compStart_list (loop _ rfl) (T.self _ 0 _ _ _ (T.keep _ _ _ st0 fun b hb o e=>old b o e) (loop _ rfl))
variable{wi:TI}{tt:TT}{te:TE}
theorem Ga(hcm:X.calm=true)(c:Mq X xo scope cl ys js)(hi:PI X tg iter wi)(ht:∀ pn s₀ H₀ fp C,PTs (Yz X pn (xo++ys) scope cl s₀ H₀ fp C) ifs tt)(hgt:∀ pn s₀ H₀ fp C,PG (Yz X pn (xo++ys) scope cl s₀ H₀ fp C) tg g)(he:∀ pn s₀ H₀ fp C,PE (Yz X pn (xo++ys) scope cl s₀ H₀ fp C) elt te)
  (hs:∀ x,foldedSetIterable iter X.env x=pure x:=by intro _;rfl):PE X (.ListComp elt [⟨tg,iter,ifs,0⟩] scope pos) (zko wi xo js g tt te):=by
 intro pins s σ H Q I h;rw[eval_ListComp];refine wpAny_comprehension_free (use:=none) rfl hs c.clos c.kind c.names (thn (hi pins s σ H _ I h) fun v s1 h1=>thn h1 fun itv s2 h2=>?_);obtain⟨it,fp,tn,J,H2,e,I2,T,st2,f2,W,⟨m0,w0⟩,turn⟩:=h2;subst e;exact Hw (RR:=fun acc C=>compPost (model X.prog X.w) X.A X.xe none (EP X pins σ Q) acc C) hcm c ht hgt he I2 T st2 f2 w0 turn fun D C s' m hn hS _ _=>⟨m,hn,fun h' hs'=>let ⟨H',I',q⟩:=hS h' hs';⟨.ref D,H',I',rfl,q⟩⟩
end
end L2
namespace G
open PySem PySem.Spec PyProof.Rows L2
theorem Dl:∀ (a b:List (Nat×Option Int)) (xs:List V),Yv (a++b) xs=Yv b (Yv a xs)
 | [],_,_=>rfl
 | (p,w) :: r,b,xs=>by rw[List.cons_append,Yv,Yv,Dl r b]
structure Iw(kvs:#[W])(gs:#[a]):Prop where
 has:∀ (n:Int) (j:Nat),gs[j]?=#[q,n]->valV kvs (inl n:Key)=#[q,(j:Nat)]
 not:∀ n:Int,(∀ j:Nat,gs[j]?≠#[q,n])->valV kvs (inl n:Key)=none
theorem Iw.iff(t:Iw kvs gs)(n:Int):(∃ j:Nat,gs[j]?=some (.int n)/\valV kvs (inl n:Key)=some (.int (j:Nat)))\/((∀ j:Nat,gs[j]?≠some (.int n))/\valV kvs (inl n:Key)=none):=by
 by_cases h:∃ j:Nat,gs[j]?=some (.int n)
 ·obtain⟨j,hj⟩:=h;exact .inl ⟨j,hj,t.has n j hj⟩
 ·have h':∀ j:Nat,gs[j]?≠some (.int n):=fun j hj=>h ⟨j,hj⟩;exact .inr ⟨h',t.not n h'⟩
inductive zcz(K:Frag)(vs:#[a])(H:Hp)(Q:VK)(_:XK):Prop where
 | mk(b:Addr)(gs:#[a])(_:vs=[.ref b])(_:#[A,H,b,gs])(_:(∀ x∈gs,oneV x))(_:(∀ (j k:Nat) (n:Int),gs[j]?=#[q,n]->gs[k]?=#[q,n]->j=k))(_:gs.length<=100)(_:∀ d kvs H',H' d=#[b,.dK,kvs]->Iw kvs gs->#[v]->H d=none->#[S,d])
structure X9(H:Hp)(into:#[W])(line:List Nat)(fr:Nat->Option (Nat×Int)):Prop where
 keys:into.map (·.1)=line.map fun q:Nat=>(inl (q:Int):Key)
 none:∀ q∈line,fr q=Option.none->valV into (inl (q:Int):Key)=some .non
 some:∀ q∈line,∀ par n,fr q=Option.some (par,n)->∃ t,valV into (inl (q:Int):Key)=Option.some (.ref t)/\H t=Option.some (.tup #[M,(par:Nat),n])
theorem X9.same(e:#[v])(h:X9 H into line fr):X9 H' into line fr :=
 ⟨h.keys,h.none,fun q hq par n hf=>let ⟨t,a,b⟩:=h.some q hq par n hf;⟨t,a,e _ _ b⟩⟩
theorem X9.len(h:X9 H into line fr):into.length=line.length:=by
 have:=congrArg List.length h.keys;rw[zwm,zwm] at this;exact this
theorem zgo{into:#[W]}{k:Key}:(valV into k).isSome=true↔k∈into.map Prod.fst:=by
 unfold valV;rw[Option.isSome_map,List.find?_isSome];constructor
 ·rintro⟨p,hp,e⟩;exact zwv.mpr ⟨p,hp,of_decide_eq_true e⟩
 ·intro h;obtain⟨p,hp,rfl⟩:=zwv.mp h;exact⟨p,hp,zws rfl⟩
theorem X9.has{H:Hp}{into:#[W]}{line:List Nat}{fr:Nat->Option (Nat×Int)}(h:X9 H into line fr)(q:Nat):(valV into (inl (q:Int):Key)).isSome=true↔q∈line:=by
 rw[zgo,h.keys];constructor
 ·intro z;obtain⟨q',h1,h2⟩:=zwv.mp z;have:(q':Int)=q:=inl.inj h2;have:q'=q:=by omega
  rw[<- this];exact h1
 ·intro hq;exact zwv.mpr ⟨q,hq,rfl⟩
inductive zgp(K:Frag)(vs:#[a])(H:Hp)(Q:VK)(_:XK):Prop where
 | mk(l d:Addr)(ls:#[B])(rows:#[I])(kvs:#[W])(gs:#[a])(p:Nat)(_:vs=[.ref l,.ref d,.int p])(_:H l=some #[i,ls.map,V.ref])(_:ILs H ls rows)(_:rows.length<=100)(_:H d=#[b,.dK,kvs])(_:Iw kvs gs)(_:Y7 rows gs)(_:p<rows.length)(_:∀ t into line dep fr H',H' t=#[b,.dK,into]->X9 H' into line fr->Bfs rows gs p line dep->Done rows gs line dep line.length->Tu rows gs p line dep fr->(∀ q∈line,q<rows.length)->#[v]->H t=none->#[S,t])
inductive Dm(K:Frag)(vs:#[a])(H:Hp)(Q:VK)(_:XK):Prop where
 | mk(l d:Addr)(r:#[t])(kvs:#[W])(_:#[ac,l,d])(_:H l=some #[i,r.map,V.int])(_:H d=#[b,.dK,kvs])(_:∀ w:#[G],(∀ n,w=some n->n∈r/\valV kvs (inl n:Key)=none)->(w=none->∀ n∈r,(valV kvs (inl n:Key)).isSome=true)->Q (oV w) H)
inductive An(K:Frag)(vs:#[a])(H:Hp)(Q:VK)(_:XK):Prop where
 | mk(t:Addr)(q p:Nat)(w:#[G])(rows:#[I])(gs:#[a])(into:#[W])(line:List Nat)(dep:Nat->Nat)(fr:Nat->Option (Nat×Int))(_:vs=[.ref t,.int q,oV w])(_:Rd H t (.dK into))(_:X9 H into line fr)(_:Tu rows gs p line dep fr)(_:dep p=0)(_:p∈line)(_:q∈line)(_:dep q<=100)(_:∀ lt ts st H',H' lt=#[x,ts]->#[L,H',st.map,Uk]->Ch rows gs p st q w->st.length=dep q+1->#[v]->H lt=none->#[S,lt])
section
variable{rows:#[I]}{gs:#[a]}{p:Nat}{line:List Nat}{dep:Nat->Nat}{fr:Nat->Option (Nat×Int)}{H H':Hp}{into:#[W]}
def K9(fr:Nat->Option (Nat×Int))(q:Nat)(x:Nat×Int):Nat->Option (Nat×Int):=fun y=>if y=q then some x else fr y
theorem Nj:K9 fr q x q=some x:=by unfold K9;rw[#[f,rfl]]
theorem Mr(h:y≠q):K9 fr q x y=fr y:=by unfold K9;rw[#[c,h]]
theorem Tu.app(F:Tu rows gs p line dep fr)(hn:q'∉line)(hp:p∈line)(hh:here∈line)(a:adjN rows gs here n q'):Tu rows gs p (line++[q']) (V0 dep q' (dep here+1)) (K9 fr q' (here,n)):=by
 have ne:∀ x∈line,x≠q':=fun x hx z=>hn (by rw[<- z];exact hx);have old:∀ x∈line,V0 dep q' (dep here+1) x=dep x:=fun x hx=>by unfold V0;rw[#[c,ne x hx]]
 have new:V0 dep q' (dep here+1) q'=dep here+1:=by unfold V0;rw[#[f,rfl]]
 refine⟨by rw[Mr (ne p hp)];exact F.1,fun q hq hqp=>?_⟩;rcases zwy.mp hq with z|z
 ·obtain⟨par,m,h1,h2,h3,h4⟩:=F.2 q z hqp;exact⟨par,m,by rw[Mr (ne q z)];exact h1,zxb _ h2,h3,by rw[old q z,old par h2];exact h4⟩
 ·rw[zwt.mp z];exact⟨here,n,Nj,zxb _ hh,a,by rw[new,old here hh]⟩
theorem X9.mono(e:∀ t xs,H t=Option.some (.tup xs)->H' t=Option.some (.tup xs))(h:X9 H into line fr):X9 H' into line fr :=
 ⟨h.keys,h.none,fun q hq par n hf=>let ⟨t,a,b⟩:=h.some q hq par n hf;⟨t,a,e _ _ b⟩⟩
theorem X9.app(I:X9 H into line fr)(hn:q'∉line)(ht:H t=Option.some (.tup #[M,(here:Nat),n])):X9 H (putK into (inl (q':Int)) (.ref t)) (line++[q']) (K9 fr q' (here,n)):=by
 have ne:∀ x∈line,x≠q':=fun x hx z=>hn (by rw[<- z];exact hx);have hv:valV into (inl (q':Int):Key)=Option.none:=by
  cases e:valV into (inl (q':Int):Key) with
  | none=>rfl
  | some y=>exact absurd ((I.has q').mp (by rw[e];rfl)) hn
 have val:∀ x∈line,valV (putK into (inl (q':Int)) (.ref t)) (inl (x:Int):Key)=valV into (inl (x:Int):Key):=fun x hx=>by
  rw[Vz,#[c,fun z=>ne x hx (by have:=inl.inj z;omega)]]
 have valn:valV (putK into (inl (q':Int)) (.ref t)) (inl (q':Int):Key)=Option.some (.ref t):=by rw[Vz,#[f,rfl]]
 refine⟨?_,fun q hq hf=>?_,fun q hq par m hf=>?_⟩
 ·rw[zfo _ hv,zwq,zwq,I.keys];rfl
 ·rcases zwy.mp hq with z|z
  ·rw[Mr (ne q z)] at hf;rw[val q z];exact I.none q z hf
  ·rw[zwt.mp z,Nj] at hf;cases hf
 ·rcases zwy.mp hq with z|z
  ·rw[Mr (ne q z)] at hf;rw[val q z];exact I.some q z par m hf
  ·rw[zwt.mp z,Nj] at hf;cases hf;rw[zwt.mp z];exact⟨t,valn,ht⟩
theorem zbp(H:Hp)(p:Nat):X9 H [((inl (p:Int):Key),V.non)] [p] fun _=>none :=
 ⟨rfl,fun q hq _=>by rw[zwt.mp hq];exact Xp rfl,fun q _ par n hf=>nomatch hf⟩
theorem zbq:Tu rows gs p [p] (fun _=>0) fun _=>none:=⟨rfl,fun q hq hne=>absurd (zwt.mp hq) hne⟩
end
section
variable{rows:#[I]}{gs:#[a]}
theorem Ch.somes{q e:Nat}{st:#[K]}{w:#[G]}(h:#[ai]):w≠none->∀ s∈st,s.2≠none:=by
 induction h with
 | one q w=>intro hw s hs;simp at hs;subst hs;exact hw
 | step a h ih =>
   intro hw s hs;rcases zwr.mp hs with rfl|z
   ·exact fun z=>nomatch z
   ·exact ih hw s z
theorem Ch.near{q e:Nat}{st:#[K]}{w:#[G]}(h:#[ai]):∀ s∈st,s.1=q\/∃ m,gs[s.1]?=#[b,V.int,m]:=by
 induction h with
 | one q w=>intro s hs;simp at hs;subst hs;exact .inl rfl
 | @step q q' e n st w a h ih =>
   intro s hs;rcases zwr.mp hs with rfl|z
   ·exact .inl rfl
   ·rcases ih s z with z|z
    ·exact .inr ⟨n,by rw[z];exact a.2⟩
    ·exact .inr z
theorem Ch.single{q e:Nat}{st:#[K]}{w:#[G]}(h:#[ai])(hl:st.length<=1):st=[(q,w)]/\e=q:=by
 cases h with
 | one=>exact#[y,rfl]
 | step a h=>have:=h.pos;rw[zw9] at hl;omega
structure Ti(rows:#[I])(gs:#[a])(i:Nat):Prop where
 fill:Y7 rows gs
 ahead:∀ q n,gs[q]?=#[b,V.int,n]->q<i
 stuck:∀ p,p<i->gs[p]?=some .non->Oi rows gs p
theorem Ti.non(F:Ti rows gs i)(hk:i<=k)(hr:k<rows.length):gs[k]?=some .non:=by
 have hl:k<gs.length:=by rw[F.fill.len];exact hr
 have e:=zwn hl;rcases F.fill.one _ (zxg hl) with z|⟨n,z⟩
 ·rw[e,z]
 ·rw[z] at e;have:=F.ahead k n e;omega
theorem Ti.step{i e:Nat}{st:#[K]}{w:#[G]}(F:Ti rows gs i)(hi:i<rows.length)(c:Xw rows gs i st e w):Ti rows (Yv st gs) (i+1):=by
 have hnon:=F.non (zww i) hi;cases w with
 | none =>
   obtain⟨h1,h2,h3⟩:=c.none rfl;have hei:e=i:=by
    have hge:=h2 i 0 .nil;rcases(show e=i\/∃ m,gs[e]?=some (V.int m) by
     obtain⟨s,hs,rfl⟩:=zwv.mp c.ch.last;exact c.ch.near s hs) with z|⟨m,z⟩
    ·exact z
    ·have:=F.ahead e m z;omega
   have hst:st=[(i,none)]:=(c.ch.single (by have:=h3 0 (hei▸.nil);omega)).1;have hl:i<gs.length:=by rw[F.fill.len];exact hi
   have same:Yv st gs=gs:=by
    rw[hst];show gs.set i .non=gs;refine List.ext_getElem? fun k=>?_;by_cases hk:i=k
    ·subst hk;rw[zxp hl,hnon]
    ·rw[zxn hk]
   rw[same];refine⟨F.fill,fun q n hq=>zym (F.ahead q n hq),fun p hp hpn=>?_⟩;by_cases hpi:p=i
   ·subst hpi;exact zgg F.fill hi F.ahead h1
   ·exact F.stuck p ⋯ hpn
 | some n0 =>
   obtain⟨hf,_⟩:=c.free n0 rfl;have nd:=c.nodup;have FP':=c.fill F.fill hi;have at_:∀ k,k<gs.length->(k∉st.map (·.1)/\(Yv st gs)[k]?=gs[k]?)\/∃ w,(k,w)∈st/\(Yv st gs)[k]?=#[b,oV,w]:=fun k hk=>W2 nd hk;have lt:∀ {k:Nat} {v:V},(Yv st gs)[k]?=some v->k<gs.length:=fun {k v} hk=>by
    have:=(zwo.mp hk).1;rw[Wm] at this;exact this
   refine⟨FP',fun q n hq=>?_,fun p hp hpn=>?_⟩
   ·rcases at_ q (lt hq) with ⟨_,h2⟩|⟨w',h1,_⟩
    ·rw[h2] at hq;exact zym (F.ahead q n hq)
    ·rcases c.ch.near _ h1 with z|⟨m,z⟩
     ·have:q=i:=z;omega
     ·exact zym (F.ahead q m z)
   ·rcases at_ p (lt hpn) with ⟨h1,h2⟩|⟨w',h1,h2⟩
    ·rw[h2] at hpn;have hpi:p≠i:=fun z=>by
      obtain⟨x,r,e⟩:=c.ch.hd;exact h1 (by rw[z,e];simp)
     exact(F.stuck p ⋯ hpn).behind F.fill c.ch hf hi nd
    ·have:=c.ch.somes (by simp) _ h1;rw[h2] at hpn;cases w' with
     | none=>exact absurd rfl this
     | some m=>cases hpn
theorem Ea(rows:#[I]):Ti rows (rows.map fun _=>V.non) 0:=by
 have h0:∀ (k:Nat) (n:Int),(rows.map fun _=>V.non)[k]?≠#[b,V.int,n]:=fun k n h=>by
  rw[zwu] at h;cases e:rows[k]? with
  | none=>rw[e] at h;cases h
  | some r=>rw[e] at h;cases h
 exact⟨⟨by rw[zwm],fun x hx=>by obtain⟨_,_,rfl⟩:=zwv.mp hx;exact .inl rfl,fun k n h=>absurd h (h0 k n),fun j k n h=>absurd h (h0 j n)⟩,fun q n h=>absurd h (h0 q n),fun p hp=>absurd hp (zyj _)⟩
theorem Ti.last(F:Ti rows gs rows.length):Um rows gs:=fun p hp=>F.stuck p (by have:=(zwo.mp hp).1;rw[F.fill.len] at this;exact this) hp
end
end G
namespace G
open PySem PySem.Spec PyProof.Rows L2
section
variable{rows:#[I]}{gs:#[a]}
theorem Ch.pred{q e:Nat}{st:#[K]}{w:#[G]}(h:#[ai]):∀ q'∈st.map (·.1),q'=q\/∃ q0 n,(q0,some n)∈st/\gs[q']?=#[b,V.int,n]:=by
 induction h with
 | one q w=>intro q' hq;simp at hq;exact .inl hq
 | @step q q1 e n st w a h ih =>
   intro q' hq;rw[zwz] at hq;rcases zwr.mp hq with z|z
   ·exact .inl z
   ·rcases ih q' z with z|⟨q0,m,h1,h2⟩
    ·exact .inr ⟨q,n,zxi,by rw[z];exact a.2⟩
    ·exact .inr ⟨q0,m,zw7 _ h1,h2⟩
theorem Ch.reach{q e:Nat}{st:#[K]}{w:#[G]}(h:#[ai]):∀ q'∈st.map (·.1),∃ k,Walk rows gs q q' k:=by
 induction h with
 | one q w=>intro q' hq;simp at hq;rw[hq];exact⟨0,.nil⟩
 | @step q q1 e n st w a h ih =>
   intro q' hq;rw[zwz] at hq;rcases zwr.mp hq with z|z
   ·rw[z];exact⟨0,.nil⟩
   ·obtain⟨k,hk⟩:=ih q' z;exact⟨k+1,.cons a hk⟩
theorem Ch.noneLast{q e:Nat}{st:#[K]}{w:#[G]}(h:#[ai]):∀ k,(k,none)∈st->k=e/\w=none:=by
 induction h with
 | one q w=>intro k hk;simp at hk;exact⟨hk.1,hk.2.symm⟩
 | @step q q1 e n st w a h ih =>
   intro k hk;rcases zwr.mp hk with z|z
   ·cases z
   ·exact ih k z
theorem Ch.along{R:Nat->Prop}(hs:∀ q n q',adjN rows gs q n q'->R q->R q'){q e:Nat}{st:#[K]}{w:#[G]}(h:#[ai]):R q->R e:=by
 induction h with
 | one q w=>exact fun z=>z
 | step a h ih=>exact fun z=>ih (hs _ _ _ a z)
theorem Ch.lastMem{q e:Nat}{st:#[K]}{w:#[G]}(h:#[ai]):(e,w)∈st:=by
 induction h with
 | one q w=>simp
 | step a h ih=>exact zw7 _ ih
theorem zgq{st:#[K]}(nd:(st.map (·.1)).Nodup){k:Nat}{w w':#[G]}(h:(k,w)∈st)(h':(k,w')∈st):w=w':=by
 induction st with
 | nil=>cases h
 | cons s r ih =>
   rw[zwz,zxe] at nd;rcases zwr.mp h with z|z<;>rcases zwr.mp h' with z'|z'
   ·rw[<- z] at z';exact(Prod.mk.inj z').2.symm
   ·exact absurd (zwv.mpr ⟨_,z',by rw[<- z]⟩) nd.1
   ·exact absurd (zwv.mpr ⟨_,z,by rw[<- z']⟩) nd.1
   ·exact ih nd.2 z z'
theorem zih{st:#[K]}{xs:#[a]}(nd:(st.map (·.1)).Nodup){k:Nat}{w:#[G]}(h:(k,w)∈st)(hk:k<xs.length):(Yv st xs)[k]?=#[b,oV,w]:=by
 rcases W2 nd hk with ⟨h1,_⟩|⟨w',h1,h2⟩
 ·exact absurd (zwv.mpr ⟨_,h,rfl⟩) h1
 ·rw[h2,zgq nd h1 h]
theorem Ch.moved{p e:Nat}{st:#[K]}{w:#[G]}(FP:Y7 rows gs)(h:Ch rows gs p st e w)(hp:p<rows.length)(hn:gs[p]?=some .non)(nd:(st.map (·.1)).Nodup){q':Nat}{n:Int}(hq:gs[q']?=#[b,V.int,n]) :
  (q'∉st.map (·.1)/\(Yv st gs)[q']?=some (V.int n))\/∃ q0,(q0,some n)∈st/\(Yv st gs)[q0]?=#[b,V.int,n]:=by
 have hl:q' < gs.length:=(zwo.mp hq).1;by_cases hm:q'∈st.map (·.1)
 ·rcases h.pred q' hm with z|⟨q0,m,h1,h2⟩
  ·rw[z,hn] at hq;cases hq
  ·rw[hq] at h2;cases h2;refine .inr ⟨q0,h1,?_⟩;have:=h.lt FP hp _ h1;exact zih nd h1 (by rw[FP.len];exact this)
 ·rcases W2 nd hl with ⟨_,h2⟩|⟨w',h1,_⟩
  ·exact #[T,hm,by rw[h2];exact hq]
  ·exact absurd (zwv.mpr ⟨_,h1,rfl⟩) hm
end
section
variable{rows:#[I]}{gs:#[a]}{p e:Nat}{x:Int}{st:#[K]}{w:#[G]}
def without(rows:#[I])(x:Int):#[I]:=rows.map fun r=>r.filter fun n=>#[g,n≠x]
theorem Su{q:Nat}{r':#[t]}(h:(without rows x)[q]?=some r'):∃ r,rows[q]?=some r/\∀ n∈r',n∈r/\n≠x:=by
 unfold without at h;rw[zwu] at h;cases e:rows[q]? with
 | none=>rw[e] at h;cases h
 | some r =>
   rw[e] at h;cases h;exact#[w,r,fun n hn=>⟨(zxz.mp hn).1,of_decide_eq_true (zxz.mp hn).2⟩]
theorem Tj(FP:Y7 rows gs)(hx:gs[p]?=#[q,x]):Y7 (without rows x) (gs.set p .non):=FP.without hx _ fun n hn=>by
 have:=of_decide_eq_false hn;rw[Classical.not_not.mp this]
theorem zgr(hx:gs[p]?=#[q,x]):(gs.set p V.non)[p]?=some .non:=by rw[zxp (zwo.mp hx).1]
theorem zc0(hx:gs[p]?=#[q,x])(h:(gs.set p V.non)[q]?=#[q,n]):gs[q]?=#[q,n]/\q≠p:=by
 by_cases e:p=q
 ·subst e;rw[zgr hx] at h;cases h
 ·rw[zxn e] at h;exact⟨h,Ne.symm e⟩
theorem Mt{q:Nat}{n:Int}(hx:gs[p]?=#[q,x])(h:gs[q]?=#[q,n])(hn:n≠x):(gs.set p V.non)[q]?=#[q,n]:=by
 rw[zxn (fun z=>by subst z;rw[hx] at h;cases h;exact hn rfl)];exact h
theorem Ao(FP:Y7 rows gs)(SP:Um rows gs)(hx:gs[p]?=#[q,x])(C:Xw (without rows x) (gs.set p .non) p st e w):Um (without rows x) (Yv st (gs.set p .non)):=by
 have FP0:=Tj FP hx;have hRl:(without rows x).length=rows.length:=by unfold without;rw[zwm]
 have hp:p<rows.length:=by have:=(zwo.mp hx).1;rw[FP.len] at this;exact this
 have hp0:p<(without rows x).length:=by rw[hRl];exact hp
 have nd:=C.nodup;have hpm:p∈st.map (·.1):=by obtain⟨y,r,e'⟩:=C.ch.hd;rw[e'];simp
 have moved:=fun {q':Nat} {n:Int} (hq:(gs.set p V.non)[q']?=#[b,V.int,n])=>C.ch.moved FP0 hp0 (zgr hx) nd hq;have closedT:w=none->∀ q,(∃ k,Walk (without rows x) (gs.set p .non) p q k)->q<(without rows x).length/\∀ r,(without rows x)[q]?=some r->∀ n∈r,∃ q2,q2<e/\(Yv st (gs.set p .non))[q2]?=#[q,n]/\∃ k,Walk (without rows x) (gs.set p .non) p q2 k:=by
  rintro hw q ⟨k,hk⟩;obtain⟨c1,c2,c3⟩:=C.none hw;refine⟨?_,fun r hr n hn=>?_⟩
  ·cases hk with
   | nil=>exact hp0
   | snoc _ a =>
     have:=(zwo.mp a.2).1;rw[FP0.len] at this;exact this
  ·by_cases hf:∃ j:Nat,(gs.set p V.non)[j]?=some (V.int n)
   ·obtain⟨q1,hq1⟩:=hf;have w1:Walk (without rows x) (gs.set p .non) p q1 (k+1):=.snoc hk ⟨⟨r,hr,hn⟩,hq1⟩;rcases moved hq1 with ⟨m1,m2⟩|⟨q0,m1,m2⟩
    ·refine⟨q1,?_,m2,_,w1⟩;have:=c2 q1 _ w1;have hne:q1≠e:=fun z=>m1 (by rw[z];exact C.ch.last);omega
    ·obtain⟨k0,hk0⟩:=C.ch.reach q0 (zwv.mpr ⟨_,m1,rfl⟩);refine⟨q0,?_,m2,k0,hk0⟩;have:=c2 q0 _ hk0;have hne:q0≠e:=fun z=>by
      have hl:=C.ch.lastMem;rw[z] at m1;rw[hw] at hl;have:=zgq nd m1 hl;cases this
     omega
   ·exact absurd ⟨n,⟨r,hr,hn⟩,fun j hj=>hf ⟨j,hj⟩⟩ (c1 q k hk)
 intro p0 hpn;have hl0:p0<(gs.set p V.non).length:=by have:=(zwo.mp hpn).1;rw[Wm] at this;exact this
 rcases W2 nd hl0 with ⟨a1,a2⟩|⟨w',a1,a2⟩
 ·rw[a2] at hpn;have hpp:p≠p0:=fun z=>a1 (by rw[<- z];exact hpm);rw[zxn hpp] at hpn;obtain⟨S0,hS,cl⟩:=SP p0 hpn;have inS:∀ q k,Walk rows gs p0 q k->S0 q:=fun q k hk=>by
   induction hk with
   | nil=>exact hS
   | @snoc q q' k n h a ih =>
     obtain⟨r,h1,h2⟩:=a.1;obtain⟨q'',_,h3,h4⟩:=(cl q ih).2 r h1 n h2;rw[<- FP.inj q'' q' n h3 a.2];exact h4
  have closed0:∀ q,(∃ k,Walk rows gs p0 q k)->q<rows.length/\∀ r,rows[q]?=some r->∀ n∈r,∃ q',q' < p0/\gs[q']?=#[q,n]/\∃ k,Walk rows gs p0 q' k:=by
   rintro q ⟨k,hk⟩;refine⟨(cl q (inS q k hk)).1,fun r hr n hn=>?_⟩;obtain⟨q',h1,h2,_⟩:=(cl q (inS q k hk)).2 r hr n hn;exact⟨q',h1,h2,k+1,.snoc hk ⟨⟨r,hr,hn⟩,h2⟩⟩
  have lt0:∀ q,(∃ k,Walk rows gs p0 q k)->q=p0\/q<p0:=by
   rintro q ⟨k,hk⟩;cases hk with
   | nil=>exact .inl rfl
   | @snoc q1 _ k n h a =>
     obtain⟨r,h1,h2⟩:=a.1;obtain⟨q',h3,h4,_⟩:=(closed0 q1 ⟨k,h⟩).2 r h1 n h2;rw[<- FP.inj q' q n h4 a.2];exact .inr h3
  have along:∀ {q:Nat} {st':List (Nat×Option Int)} {w':Option Int},Ch (without rows x) (gs.set p .non) q st' e w'->(∃ k,Walk rows gs p0 q k)->∃ k,Walk rows gs p0 e k:=fun {q st' w'} hc =>
   hc.along (R:=fun q=>∃ k,Walk rows gs p0 q k) fun q n q' a ⟨k,hk⟩=>by
    obtain⟨r',h1,h2⟩:=a.1;obtain⟨r,h3,h4⟩:=Su h1;exact⟨k+1,.snoc hk ⟨⟨r,h3,(h4 n h2).1⟩,(zc0 hx a.2).1⟩⟩
  by_cases hpath:∃ q∈st.map (·.1),∃ k,Walk rows gs p0 q k
  ·obtain⟨q1,hq1,hk1⟩:=hpath;obtain⟨st',c1,_⟩:=C.ch.drop q1 hq1;have hRe:=along c1 hk1;cases hw:w with
   | some n0 =>
     obtain⟨⟨r',f1,f2⟩,f3⟩:=(C.free n0 hw).1;obtain⟨r,g1,g2⟩:=Su f1;obtain⟨q',_,h2,_⟩:=(closed0 e hRe).2 r g1 n0 (g2 n0 f2).1;exact absurd (Mt hx h2 (g2 n0 f2).2) (f3 q')
   | none =>
     have clT:=closedT hw;obtain⟨_,cmax,_⟩:=C.none hw;have hep:e<p0:=by
      have hfe:∃ m,gs[e]?=#[b,V.int,m]:=by
       obtain⟨s,hs,hse⟩:=zwv.mp C.ch.last;rcases C.ch.near s hs with z|⟨m,z⟩
       ·rw[<- hse,z];exact⟨x,hx⟩
       ·rw[hse] at z;exact⟨m,(zc0 hx z).1⟩
      obtain⟨m,hm⟩:=hfe;rcases lt0 e hRe with z|z
      ·rw[z,hpn] at hm;cases hm
      ·exact z
     refine⟨fun q=>(∃ k,Walk rows gs p0 q k)\/∃ k,Walk (without rows x) (gs.set p .non) p q k,#[T,0,.nil],fun q hq=>?_⟩;rcases hq with hq|hq
     ·refine⟨by rw[hRl];exact(closed0 q hq).1,fun r' hr' n hn=>?_⟩;obtain⟨r,g1,g2⟩:=Su hr';obtain⟨q',h1,h2,h3⟩:=(closed0 q hq).2 r g1 n (g2 n hn).1;rcases moved (Mt hx h2 (g2 n hn).2) with ⟨_,m2⟩|⟨q0,m1,m2⟩
      ·exact⟨q',h1,m2,.inl h3⟩
      ·obtain⟨k0,hk0⟩:=C.ch.reach q0 (zwv.mpr ⟨_,m1,rfl⟩);have:=cmax q0 k0 hk0;exact⟨q0,by omega,m2,.inr ⟨k0,hk0⟩⟩
     ·obtain⟨t1,t2⟩:=clT q hq;refine⟨t1,fun r hr n hn=>?_⟩;obtain⟨q2,h1,h2,h3⟩:=t2 r hr n hn;exact⟨q2,by omega,h2,.inr h3⟩
  ·refine⟨fun q=>∃ k,Walk rows gs p0 q k,⟨0,.nil⟩,fun q hq=>⟨by rw[hRl];exact(closed0 q hq).1,fun r' hr' n hn=>?_⟩⟩;obtain⟨r,g1,g2⟩:=Su hr';obtain⟨q',h1,h2,h3⟩:=(closed0 q hq).2 r g1 n (g2 n hn).1;rcases moved (Mt hx h2 (g2 n hn).2) with ⟨_,m2⟩|⟨q0,m1,m2⟩
   ·exact⟨q',h1,m2,h3⟩
   ·rcases W2 nd (show q' < (gs.set p V.non).length from(zwo.mp (Mt hx h2 (g2 n hn).2)).1) with ⟨_,b2⟩|⟨w2,b1,_⟩
    ·exact⟨q',h1,by rw[b2];exact Mt hx h2 (g2 n hn).2,h3⟩
    ·exact absurd ⟨q',zwv.mpr ⟨_,b1,rfl⟩,h3⟩ hpath
 ·rw[a2] at hpn;cases w' with
  | some n=>cases hpn
  | none =>
    obtain⟨b1,b2⟩:=C.ch.noneLast p0 a1;subst b1;exact⟨_,⟨0+(C.ch.reach p0 (zwv.mpr ⟨_,a1,rfl⟩)).choose,by rw[Nat.zero_add];exact(C.ch.reach p0 (zwv.mpr ⟨_,a1,rfl⟩)).choose_spec⟩,closedT b2⟩
end
end G
namespace L2
open PySem PySem.Spec PyProof.Rows
section
variable{prog:Program}{w:World}{A:Around}{E:Value->Shared->Prop}{s:Shared}{T:String}{r d:Addr}{n:Nat}{P:Nat->Value->Prop}{OK:Heap->Prop}
open PySem.W in
end
end L2
namespace G
open PySem PySem.Spec PyProof.Rows L2
section
variable{rows:#[I]}{gs:#[a]}
structure zmw(rows:#[I])(gs:#[a])(ps:List Nat)(rs:#[t]):Prop where
 up:ps.Pairwise (· < ·)
 lt:∀ p∈ps,p<rows.length
 rup:rs.Pairwise (· < ·)
 all:∀ n,n∈rs↔∃ p∈ps,∃ r,rows[p]?=some r/\n∈r
 cnt:ps.length=rs.length+(zi9 gs).length
 nil:zi9 gs=[]->ps=[]
 gap:∀ p,gs[p]?=some .non->p∈ps
 has:∀ n∈rs,∃ p∈ps,gs[p]?=#[q,n]
def zl7(x:Option V):#[G]:=match x with|some (.int n)=>some n|_=>none
end
section
variable{rows:#[I]}{gs:#[a]}{p:Nat}{line:List Nat}{dep:Nat->Nat}{fr:Nat->Option (Nat×Int)}
def byV(x:Option (Nat×Int)):V:=match x with|none=>.non|some y=>.int (y.1:Nat)
structure znc(by_:#[W])(line:List Nat)(fr:Nat->Option (Nat×Int)):Prop where
 keys:by_.map (·.1)=line.map fun q:Nat=>(inl (q:Int):Key)
 val:∀ q∈line,valV by_ (inl (q:Int):Key)=some (byV (fr q))
structure znd(rows:#[I])(gs:#[a])(dep:Nat->Nat)(q:Nat)(x:Int)(tl:#[K])(e:Nat)(n:Int):Prop where
 ch:Ch rows gs q ((q,some x) :: tl) e (some n)
 nd:(((q,some x) :: tl).map (·.1)).Nodup
 far:∀ s∈tl,dep q<dep s.1
end
section
variable{rows:#[I]}{gs:#[a]}
def zkp(rows:#[I])(gs:#[a])(p:Nat):Prop:=∀ q k,Walk rows gs p q k->¬ Th rows gs q
structure zl8(rows:#[I])(f k:Nat)(gs:#[a]):Prop where
 fill:Y7 rows gs
 seen:∀ j,j<k->(∃ n,gs[(f+j)%rows.length]?=some (.int n))\/zkp rows gs ((f+j)%rows.length)
 later:∀ p,(∀ j,j<k->(f+j)%rows.length≠p)->p<rows.length->gs[p]?=some .non
end
theorem zii(xs:#[a])(k:Nat):Nd xs none (some (k:Int))=xs.take k:=by
 unfold Nd;rw[HT.sIx_nat,HT.sIx_none];by_cases h:k<=xs.length
 ·rw[Nat.min_eq_left h];rfl
 ·rw[Nat.min_eq_right ⋯];show xs.take (xs.length-0)=_;rw[Nat.sub_zero,zw3,List.take_of_length_le ⋯]
end G
namespace PySem
theorem Dp(f:α->β):∀ (l:List α) (j:Nat),(l.map f).eraseIdx j=(l.eraseIdx j).map f
 | [],_=>rfl
 | _ :: _,0=>rfl
 | x :: l,j+1=>by
   show f x :: (l.map f).eraseIdx j=f x :: (l.eraseIdx j).map f;rw[Dp f l j]
section
variable{prog:Program}{w:World}{K:Type}[DecidableEq K]{knd:HeapKind prog w K}{A:Around}{E:Value->Shared->Prop}{s:Shared}
theorem Nk(hu:knd.room A)(hkey:knd.is s.heap k a)(hm:s.heap.DictOfH knd d xs)(hj:xs[j]?=some (k,p))(hsz:xs.length<=sizeLine)
  (hQ:∀ h',h'.DictOfH knd d (xs.eraseIdx j)->Heap.SameBut d s.heap h'->Q (some (entryOfKey knd (k,p))) { s with heap:=h',toks:=s.toks+knd.draws k }) :
  wpAny (model prog w) A (Builtin.Dict.takeOut d (.ref a)) Q E s:=by
 obtain⟨o,es,ep,ho,hc,hd,he,his,hn⟩:=hm;unfold Builtin.Dict.takeOut
 try with_reducible refine wpAny_holding ?_
 refine wpAny_bind (knd.pyHash hu hkey (wpAny_bind (wpAny_dictFind_heap (s:={ s with toks:=s.toks+knd.draws k }) hu hkey ho hd he his hn ?_ ?_)))
 ·intro hno;exact absurd hj (hno j p)
 ·intro j' p' hj';have ej:=idxH_unique hn hj' hj;subst ej;refine wpAny_bind (wpAny_dictEntries (s:={ s with toks:=s.toks+knd.draws k }) ho hd ?_);rw[entry_at he j',hj];refine wpAny_bind (wpAny_updateDictKeys (hz:=by have e:=size_of_entries he;omega) (s:={ s with toks:=s.toks+knd.draws k }) ho hd (wpAny_pure (hQ _ ⟨_,_,ep+1,Heap.get?_update_self _ ho (Obj.isFreed_of_dict (Obj.data_mapDictKeys hd _)),
   hc.mapDictKeys _,Obj.data_mapDictKeys hd _,?_,?_,?_⟩ (Heap.SameBut.update ..))))
  ·obtain⟨l⟩:=es;simp only at he;simp[he,Dp]
  ·intro x hx;exact knd.keeps (his x (List.mem_of_mem_eraseIdx hx)) ho hd (Heap.SameBut.update ..)
  ·have:=hn.sublist (List.Sublist.map (·.1) (List.eraseIdx_sublist xs j'));exact this
theorem Jj(d a:Addr)(k:K) :
  MeetsIn prog w (Builtin.«dict.pop» ⟨[.ref d,.ref a],[]⟩) (fun A R s=>knd.room A.in1/\knd.is s.heap k a/\∃ xs j p,s.heap.DictOfH knd d xs/\xs.length<=sizeLine/\xs[j]?=some (k,p) /\
   ∀ h' t',h'.DictOfH knd d (xs.eraseIdx j)->Heap.SameBut d s.heap h'->R (.ok (.ret p.2)) { s with heap:=h',toks:=t' }) :=
 .of_wp fun A R s ⟨hu,hkey,xs,j,p,hm,hsz,hj,h⟩=>by
  obtain⟨o,es,ep,ho,hc,hd,he,his,hn⟩:=id hm;unfold Builtin.«dict.pop»;refine wpAny_bind ?_;unfold Builtin.Dict.keyAndDefault;refine wpAny_bind (wpAny_notOrdered_dict hm.typeIs ?_);show wpAny _ _ (pure (d,Value.ref a,none)) _ _ s;refine wpAny_pure ?_;have hp:(keyPart (Value.ref a)).isSome=false:=rfl;simp only[hp,zx0,if_false];refine wpAny_bind (wpAny_dictEntries ho hd (wpAny_bind (wpAny_pure ?_)));have hne:es.isEmpty=false:=by
   have h1:=size_of_entries he;have h2:=(zwo.mp hj).1;rw[Array.isEmpty_eq_false_iff_exists_mem];exact⟨es[0]'⋯,Array.getElem_mem _⟩
  simp only[hne,zx0,if_false];refine wpAny_bind (Nk hu hkey hm hj hsz fun h' hm' hs'=>?_);simp only[Option.isNone_some,zx0,if_false];exact wpAny_bind (wpAny_letGo (wpAny_pure #[w,p.2,h h' _ hm' hs']))
end
end PySem
namespace L2
open PySem PySem.Spec PyProof.Rows
theorem KT.drop:∀ {kvs:List (List Key×V)} {xs:List (List Key×Addr×Value)},KT H kvs xs->(xs.map (·.1)).Nodup->valV kvs k=some v->∃ j p,xs[j]?=some (k,p)/\RelV v p.2/\KT H (We kvs k) (xs.eraseIdx j):=fun {kvs xs} r=>by
 induction r with
 | nil=>intro _ hv;cases hv
 | @cons p q kvs xs h t ih=>
     intro nd hv
     rw[zwz,zxe] at nd;obtain⟨h1,h2,h3⟩:=h;by_cases e:p.1=k
     ·rw[Xp e] at hv;cases hv;refine⟨0,q.2,by rw[<- e,h1];rfl,h3,?_⟩;show KT H (We (p :: kvs) k) xs;have hd:We (p :: kvs) k=kvs:=by
       unfold We;rw[List.filter_cons_of_neg (by simp[e])];rw[List.filter_eq_self];intro kv hkv;refine zws fun z=>nd.1 ?_;have:∀ {l:List (List Key×V)} {m:List (List Key×Addr×Value)},KT H l m->kv∈l->kv.1∈m.map (·.1):=by
        intro l m q
        induction q with
        | nil=>intro hx;cases hx
        | @cons p' q' ps qs hq t ih =>
          intro hx;rcases zwr.mp hx with z|z
          ·rw[z,hq.1];exact zxi
          ·exact zw7 _ (ih z)
       have h9:=this t hkv;rw[z,<- e,h1] at h9;exact h9
      rw[hd];exact t
     ·rw[Xh e] at hv;obtain⟨j,pp,h4,h5,h6⟩:=ih nd.2 hv;refine⟨j+1,pp,h4,h5,?_⟩;have hd:We (p :: kvs) k=p :: We kvs k:=by
       unfold We;rw[List.filter_cons_of_pos (by simp[e])]
      rw[hd];exact .cons ⟨h1,h2,h3⟩ h6
inductive zij(ty:TE)(σ:L2.St)(Q:VK)(x:V)(H1:Hp):Prop where
 | mk(a)(_:x=.ref a)(_:IsD H1 a)(_:ty σ H1 fun y H2=>∃ (kvs:List (List Key×V)) (k:List Key) (b:Addr) (v:V),H2 a=#[b,.dT,kvs]/\y=.ref b/\H2 b=some (.tup (k.map kV))/\valV kvs k=some v/\Q v (upd H2 a (.dT (We kvs k))))
def zkq(td ty:TE):TE:=fun σ H Q=>td σ H fun x H1=>zij ty σ Q x H1
theorem zgs(hu:X.A.units+1<cLine)(ho:PE X o td)(he:PE X e ty)(m:M1 X o "pop" apos e cpos):PE X (.Call (.Attribute o "pop" apos) [e] [] cpos) (zkq td ty):=by
 intro pins s σ H Q I h;refine wpAny_Call_method m.base m.few m.line PySem.F.plainAttrs_dict PySem.F.slot_dict_pop PySem.F.type_dict_pop (thn (ho pins s σ H _ I h) fun u s1 ⟨x,H1,I1,rx,a,ex,d,q1⟩=>?_);subst ex;obtain rfl:u=Value.ref a:=rx;obtain⟨t1,t2,_⟩:=zbd I1 d;refine⟨t1,t2,?_⟩;rw[m.trees];refine Calls.callWith_builtin rfl (Calls.evalArgs_plain (Calls.spliced_cons (thn (he pins s1 σ H1 _ I1 q1) fun iv s2 ⟨y,H2,I2,ry,kvs,k,b,v,ea,ey,eb,l,q2⟩=>Calls.spliced_nil ?_)));subst ey;cases (show iv=Value.ref b from ry);obtain⟨z,hd,xs,rel,dd⟩:=zi3 I2.hok ea;have hz:xs.length<=sizeLine:=by rw[<- Paired.length rel];exact z
 obtain⟨j,p,hj,rv,rel'⟩:=KT.drop rel (by obtain⟨_,_,_,_,_,_,_,_,hn⟩:=dd;exact hn) l;refine call_meetsIn PySem.F.slot_dict_pop dd.typeIs PySem.F.entry_dict_pop (PySem.F.args_dict_pop_2 _ _) (Jj (knd:=tupleKind (Yr X.prog X.w)) a b k) ⟨tupleKind_room_in1 hu,Nb I2.hok eb,xs,j,p,dd,hz,hj,fun h' t' dd' hs=>⟨v,_,?_,rv,q2⟩⟩;obtain⟨q,es,ep,hq,h2,h3,h4,_,h5⟩:=dd';refine Mh I2 (by rw[ea];exact True.intro) hs ⟨q,hq⟩ ⟨zw6 (B1 kvs k) z,hd,_,rel'.keeps fun c ys ec=>?_,q,es,ep,hq,h2,h3,h4,h5⟩;rw[Zh (Yu ec ea (fun z=>nomatch z))];exact ec
end L2
namespace G
open PySem PySem.Spec PyProof.Rows L2
structure CA where
 season:Addr
 sheet:Addr
 roster:Addr
 ledger:Addr
 out:Addr
 known:Addr
 many:Addr
 unk:Addr
 manyM:Addr
 same:Addr
 noMatch:Addr
 noRound:Addr
 over:Addr
 seaOver:Addr
 away:Addr
 drawn:Addr
 notDrawn:Addr
 nothing:Addr
 manyD:Addr
theorem Tv:1000000<sizeLine:=by rw[sizeLine_eq];decide
abbrev RL:=List (Int×Int×Int)
inductive Vp(H:Hp):RL->#[W]->Prop where
 | nil:Vp H [] []
 | cons {n g c:Int} {t:Addr} {R:RL} {kvs:#[W]} (h:H t=#[b,.tup,#[M,g,c]]) (r:Vp H R kvs):Vp H ((n,g,c) :: R) ((.inl n,.ref t) :: kvs)
theorem Vp.mono(k:#[aj]):∀ {R:RL} {kvs:List (Key×V)},Vp H R kvs->Vp H' R kvs
 | _,_,.nil=>.nil
 | _,_,.cons h r=>.cons (k _ _ h) (Vp.mono k r)
theorem Vp.length:∀ {R:RL} {kvs:List (Key×V)},Vp H R kvs->kvs.length=R.length
 | _,_,.nil=>rfl
 | _,_,.cons _ r=>by simp[Vp.length r]
theorem Vp.keys:∀ {R:RL} {kvs:List (Key×V)},Vp H R kvs->(kvs.map fun kv=>kV kv.1)=R.map fun x=>V.int x.1
 | _,_,.nil=>rfl
 | _,_,.cons _ r=>by rw[zwz,zwz,Vp.keys r];rfl
theorem Vp.snoc(h:H t=#[b,.tup,#[M,g,c]]):∀ {R:RL} {kvs:List (Key×V)},Vp H R kvs->Vp H (R++[(n,g,c)]) (kvs++[(.inl n,.ref t)])
 | _,_,.nil=>.cons h .nil
 | _,_,.cons h' r=>.cons h' (Vp.snoc h r)
theorem Vp.val_none:∀ {R:RL} {kvs:List (Key×V)},Vp H R kvs->n∉R.map (·.1)->valV kvs (inl n:Key)=none
 | _,_,.nil,_=>rfl
 | _,_,.cons (n:=m) _ r,h=>by
   rw[zwz,zwr,not_or] at h;rw[Xh fun e=>h.1 (inl.inj e).symm];exact Vp.val_none r h.2
theorem Vp.val_some:∀ {R:RL} {kvs:List (Key×V)},Vp H R kvs->(R.map (·.1)).Nodup->(n,g,c)∈R->∃ t,valV kvs (inl n:Key)=#[e,t]/\H t=#[E,#[M,g,c]]
 | _,_,.nil,_,h=>by simp at h
 | _,_,.cons (n:=m) (g:=g') (c:=c') (t:=t) ht r,nd,h=>by
   rw[zwz,zxe] at nd;by_cases e:m=n
   ·subst e;rcases zwr.mp h with q|q
    ·cases q;exact⟨t,Xp rfl,ht⟩
    ·exact absurd (zwv.mpr ⟨_,q,rfl⟩) nd.1
   ·rcases zwr.mp h with q|q
    ·cases q;exact absurd rfl e
    ·obtain⟨t',h1,h2⟩:=Vp.val_some r nd.2 q;exact⟨t',by rw[Xh fun z=>e (inl.inj z)];exact h1,h2⟩
theorem Vp.isSome(e:Vp H R kvs)(nd:(R.map (·.1)).Nodup):(valV kvs (inl n:Key)).isSome=#[g,n∈R.map (·.1)]:=by
 by_cases h:n∈R.map (·.1)
 ·obtain⟨⟨m,g,c⟩,q,rfl⟩:=zwv.mp h;obtain⟨t,h1,_⟩:=e.val_some nd q;rw[h1,zws h];rfl
 ·rw[e.val_none h,zwx h];rfl
theorem Vp.unsnoc:∀ {R:RL} {kvs:List (Key×V)},Vp H (R++[(n,g,c)]) kvs->n∉R.map (·.1)->Vp H R (We kvs (inl n)):=fun {R}=>by
 induction R with
 | nil=>
  intro kvs q _;have q:Vp H [(n,g,c)] kvs:=q;cases q with
  | cons h r=>
   cases r;unfold We;rw[List.filter_cons_of_neg (by simp)];exact .nil
 | cons p R ih=>
  obtain⟨m,g',c'⟩:=p;intro kvs q hn;have q:Vp H ((m,g',c') :: (R++[(n,g,c)])) kvs:=q;cases q with
  | cons h r=>
    rw[zwz,zwr,not_or] at hn;unfold We;rw[List.filter_cons_of_pos (by
     refine zws fun z=>hn.1 ?_;exact(inl.inj z).symm)]
    exact .cons h (ih r hn.2)
structure Xn(C:Addr)(H:Hp)(p d:Addr)(R:RL):Prop where
 ex:∃ dx kvs,H p=some (.ins C dx [("entries",.ref d)])/\H d=#[b,.dK,kvs]/\Vp H R kvs
 nd:(R.map (·.1)).Nodup
theorem Vq:List.lookup ("entries":Str) ([("entries",V.ref d)]:#[ab])=#[b,.ref,d]:=by simp only[zxo,beq_self_eq_true]
theorem Xn.no{d:Addr}{m:Str}(h:¬ m="entries"):List.lookup m ([("entries",V.ref d)]:#[ab])=none:=by
 have e:(m == "entries")=false:=zxa.mpr h;simp only[zxo,e,List.lookup_nil]
theorem Xn.keep(h:Xn C H p d R)(kp:∀ o,H p=#[d]->H' p=#[d])(kd:∀ o,H d=#[d]->H' d=#[d])(kt:#[aj]):Xn C H' p d R:=by
 obtain⟨⟨dx,kvs,h1,h2,h3⟩,nd⟩:=h;exact⟨⟨dx,kvs,kp _ h1,kd _ h2,h3.mono kt⟩,nd⟩
theorem Xn.same(h:Xn C H p d R)(e:#[v]):Xn C H' p d R:=h.keep (fun _ q=>e _ _ q) (fun _ q=>e _ _ q) fun _ _ q=>e _ _ q
def badI(n g c:Int):Prop:=n<1\/999<n\/g<1\/9<g\/c<1\/99<c
instance {n g c:Int}:Decidable (badI n g c):=by unfold badI;infer_instance
def Cy(n g c:Int):Prop:=Yc n/\Yc g/\Yc c
inductive Mu(x:Addr)(vs:#[a])(H:Hp)(Q:VK)(E:XK):Prop where
 | mk(v)(lo)(m)(_:vs=[.int v,.int lo,.int m])(_:Yc v)(_:Yc lo)(_:Yc m)(_:(if v<lo\/m<v then #[H,x] else Q .non H))
inductive zc1(ca:CA)(vs:#[a])(H:Hp)(Q:VK)(_:XK):Prop where
 | mk(p)(dx)(_:vs=[.ref p])(_:H p=some (.ins ca.roster dx []))(_:∀ d,H d=none->Q .non (upd (upd H d (.dK [])) p (.ins ca.roster dx [("entries",.ref d)])))
inductive Nl(ca:CA)(vs:#[a])(H:Hp)(Q:VK)(E:XK):Prop where
 | mk(p)(d)(R)(n)(g)(c)(_:vs=[.ref p,.int n,.int g,.int c])(_:Xn ca.roster H p d R)(_:Cy n g c)(_:if badI n g c then #[H,ca.out] else if n∈R.map (·.1) then #[H,ca.known] else if 30<=R.length then #[H,ca.many] else Q .non H)
inductive Tn(ca:CA)(vs:#[a])(H:Hp)(Q:VK)(E:XK):Prop where
 | mk(p)(d)(R)(n)(_:vs=[.ref p,.int n])(_:Xn ca.roster H p d R)(_:Yc n)(_:if n∈R.map (·.1) then Q .non H else #[H,ca.unk])
inductive zgt(ca:CA)(vs:#[a])(H:Hp)(Q:VK)(E:XK):Prop where
 | mk(p)(d)(R)(n)(g)(c)(_:vs=[.ref p,.int n,.int g,.int c])(_:Xn ca.roster H p d R)(_:Cy n g c)(_:R.length<=1000)(_:if badI n g c then #[H,ca.out] else if n∈R.map (·.1) then #[H,ca.known] else if 30<=R.length then #[H,ca.many] else ∀ H',Xn ca.roster H' p d (R++[(n,g,c)])->(∀ b o,H b=some o->b≠d->H' b=some o)->Q .non H')
inductive Ap(ca:CA)(vs:#[a])(H:Hp)(Q:VK)(_:XK):Prop where
 | mk(p)(d)(R)(n)(g)(c)(_:vs=[.ref p,.int n])(_:Xn ca.roster H p d (R++[(n,g,c)]))(_:∀ H',Xn ca.roster H' p d R->(∀ b o,H b=some o->b≠d->H' b=some o)->Q .non H')
inductive Nm(ca:CA)(vs:#[a])(H:Hp)(Q:VK)(_:XK):Prop where
 | mk(p)(d)(R)(_:vs=[.ref p])(_:Xn ca.roster H p d R)(_:∀ l,H l=none->Q (.ref l) (upd H l #[i,R.map,fun x=>V.int x.1]))
inductive Gb(ca:CA)(vs:#[a])(H:Hp)(Q:VK)(E:XK):Prop where
 | mk(p)(d)(R)(n)(_:vs=[.ref p,.int n])(_:Xn ca.roster H p d R)(_:Yc n)(_:(n∉R.map (·.1)->#[H,ca.unk]))(_:∀ g c t,(n,g,c)∈R->H t=#[E,#[M,g,c]]->Q (.ref t) H)
inductive Aq(ca:CA)(vs:#[a])(H:Hp)(Q:VK)(E:XK):Prop where
 | mk(p)(d)(R)(n)(_:vs=[.ref p,.int n])(_:Xn ca.roster H p d R)(_:Yc n)(_:(n∉R.map (·.1)->∀ H',#[v]->E (.ref ca.unk) none H'))(_:∀ g c t H',(n,g,c)∈R->H' t=some (.tup (pV (n,g,c)))->#[v]->H t=none->#[S,t])
structure Z6 where
 ms:List (Int×Int×Int)
 may:#[I]
 gv:#[a]
 gaps:List (Int×#[K])
inductive Wx(ok:Addr->Prop)(H:Hp):#[a]->List (Int×#[K])->Prop where
 | nil:Wx ok H [] []
 | cons {t l:Addr} {n:Int} {us:#[a]} {st:#[K]} {ts:#[a]} {G:List (Int×#[K])} (h:H t=#[b,.tup,[.int n,.ref l]]) (hl:#[A,H,l,us]) (tl:TupL H us (st.map Uk)) (o:ok l) (r:Wx ok H ts G):Wx ok H (.ref t :: ts) ((n,st) :: G)
theorem Wx.keep(k:#[aw,x,x])(kt:#[aj]):∀ {ts:List V} {G:List (Int×List (Nat×Option Int))},Wx ok H ts G->Wx ok H' ts G
 | _,_,.nil=>.nil
 | _,_,.cons h hl tl o r=>.cons (kt _ _ h) (k _ _ o hl) (tl.mono kt) o (Wx.keep k kt r)
theorem Wx.imp(k:#[ay]):∀ {ts:List V} {G:List (Int×List (Nat×Option Int))},Wx ok H ts G->Wx ok' H ts G
 | _,_,.nil=>.nil
 | _,_,.cons h hl tl o r=>.cons h hl tl (k _ ⟨_,hl⟩ o) (Wx.imp k r)
theorem Wx.length:∀ {ts:List V} {G:List (Int×List (Nat×Option Int))},Wx ok H ts G->ts.length=G.length
 | _,_,.nil=>rfl
 | _,_,.cons _ _ _ _ r=>by simp[Wx.length r]
theorem Wx.snoc{ok:Addr->Prop}{H:Hp}{t l:Addr}{n:Int}{us:#[a]}{st:#[K]}(h:H t=#[b,.tup,[.int n,.ref l]])(hl:#[A,H,l,us])(tl:TupL H us (st.map Uk))(o:ok l):∀ {ts:List V} {G:List (Int×List (Nat×Option Int))},Wx ok H ts G->Wx ok H (ts++[.ref t]) (G++[(n,st)])
 | _,_,.nil=>.cons h hl tl o .nil
 | _,_,.cons h' hl' tl' o' r=>.cons h' hl' tl' o' (Wx.snoc h hl tl o r)
theorem Wx.get:∀ {ts:List V} {G:List (Int×List (Nat×Option Int))} {i:Nat} {x:V},Wx ok H ts G->ts[i]?=some x->∃ t l n us st,x=.ref t/\G[i]?=some (n,st)/\H t=#[E,[.int n,.ref l]]/\H l=#[x,us]/\TupL H us (st.map Uk)/\ok l
 | _,_,_,_,.nil,e=>by simp at e
 | _,_,0,_,.cons h hl tl o _,e=>by simp at e;subst e;exact⟨_,_,_,_,_,rfl,rfl,h,hl,tl,o⟩
 | _,_,i+1,x,.cons _ _ _ _ r,e=>by
   obtain⟨t,l,n,us,st,h1,h2,h3⟩:=Wx.get (i:=i) (x:=x) r (by simpa using e);exact⟨t,l,n,us,st,h1,by simpa using h2,h3⟩
def shF(l1 l2 l3 l4:Addr):#[ab]:=[("listed",.ref l1),("lists",.ref l2),("given",.ref l3),("gaps",.ref l4)]
structure ShAt(C:Addr)(ok:Addr->Prop)(H:Hp)(q:Addr)(s:Z6):Prop where
 ex:∃ dx l1 l2 l3 l4 ts ls gts,H q=some (.ins C dx (shF l1 l2 l3 l4))/\H l1=#[x,ts]/\#[L,H,s.ms.map,pV]/\H l2=some #[i,ls.map,V.ref]/\ILs H ls s.may/\H l3=#[x,s.gv]/\H l4=#[x,gts]/\Wx ok H gts s.gaps/\(ok q/\ok l1/\ok l2/\ok l3/\ok l4/\∀ x∈ls,ok x)
theorem ShAt.keep(h:ShAt C ok H q s)(k:#[aw,x,x])(kt:#[aj]):ShAt C ok H' q s:=by
 obtain⟨dx,l1,l2,l3,l4,ts,ls,gts,a1,a2,a3,a4,a5,a6,a7,a8,o1,o2,o3,o4,o5,o6⟩:=h;exact⟨dx,l1,l2,l3,l4,ts,ls,gts,k _ _ o1 a1,k _ _ o2 a2,a3.mono kt,k _ _ o3 a4,a5.keep fun x hx o q=>k _ _ (o6 x hx) q,k _ _ o4 a6,k _ _ o5 a7,a8.keep k kt,o1,o2,o3,o4,o5,o6⟩
theorem ShAt.imp(h:ShAt C ok H q s)(k:#[ay]):ShAt C ok' H q s:=by
 obtain⟨dx,l1,l2,l3,l4,ts,ls,gts,a1,a2,a3,a4,a5,a6,a7,a8,o1,o2,o3,o4,o5,o6⟩:=h;exact⟨dx,l1,l2,l3,l4,ts,ls,gts,a1,a2,a3,a4,a5,a6,a7,a8.imp k,k _ ⟨_,a1⟩ o1,k _ ⟨_,a2⟩ o2,k _ ⟨_,a4⟩ o3,k _ ⟨_,a6⟩ o4,k _ ⟨_,a7⟩ o5,fun x hx=>k _ (let ⟨_,z⟩:=a5.has hx;⟨_,z⟩) (o6 x hx)⟩
theorem ShAt.same(h:ShAt C ok H q s)(e:#[v]):ShAt C ok H' q s:=h.keep (fun _ _ _ q=>e _ _ q) fun _ _ q=>e _ _ q
def ShO(C:Addr)(ok:Addr->Prop)(H:Hp)(v:V)(s:Option Z6):Prop:=match s with|none=>v=.non|some s=>∃ q,v=.ref q/\ShAt C ok H q s
theorem ShO.keep(h:ShO C ok H v s)(k:#[aw,x,x])(kt:#[aj]):ShO C ok H' v s:=by
 cases s with
 | none=>exact h
 | some s=>obtain⟨q,e,h⟩:=h;exact⟨q,e,h.keep k kt⟩
theorem ShO.imp(h:ShO C ok H v s)(k:#[ay]):ShO C ok' H v s:=by
 cases s with
 | none=>exact h
 | some s=>obtain⟨q,e,h⟩:=h;exact⟨q,e,h.imp k⟩
inductive ShL(C:Addr)(ok:Addr->Prop)(H:Hp):#[a]->List Z6->Prop where
 | nil:ShL C ok H [] []
 | cons {q:Addr} {s:Z6} {vs:#[a]} {ss:List Z6} (h:ShAt C ok H q s) (r:ShL C ok H vs ss):ShL C ok H (.ref q :: vs) (s :: ss)
theorem ShL.keep(k:#[aw,x,x])(kt:#[aj]):∀ {vs:List V} {ss:List Z6},ShL C ok H vs ss->ShL C ok H' vs ss
 | _,_,.nil=>.nil
 | _,_,.cons h r=>.cons (h.keep k kt) (ShL.keep k kt r)
theorem ShL.imp(k:#[ay]):∀ {vs:List V} {ss:List Z6},ShL C ok H vs ss->ShL C ok' H vs ss
 | _,_,.nil=>.nil
 | _,_,.cons h r=>.cons (h.imp k) (ShL.imp k r)
theorem ShL.length:∀ {vs:List V} {ss:List Z6},ShL C ok H vs ss->vs.length=ss.length
 | _,_,.nil=>rfl
 | _,_,.cons _ r=>by simp[ShL.length r]
theorem ShL.snoc(h:ShAt C ok H q s):∀ {vs:List V} {ss:List Z6},ShL C ok H vs ss->ShL C ok H (vs++[.ref q]) (ss++[s])
 | _,_,.nil=>.cons h .nil
 | _,_,.cons h' r=>.cons h' (ShL.snoc h r)
theorem ShL.getR:∀ {vs:List V} {ss:List Z6} {i:Nat} {s:Z6},ShL C ok H vs ss->ss[i]?=some s->∃ q,vs[i]?=#[e,q]/\ShAt C ok H q s
 | _,_,_,_,.nil,e=>by simp at e
 | _,_,0,_,.cons h _,e=>by simp at e;subst e;exact#[w,_,h]
 | _,_,i+1,x,.cons _ r,e=>by
   obtain⟨t,h1,h2⟩:=ShL.getR (i:=i) (s:=x) r (by simpa using e);exact⟨t,by simpa using h1,h2⟩
abbrev To:=Str×Int×Int
def W3(d:To):#[a]:=[.str d.1,.int d.2.1,.int d.2.2]
inductive Uh(C:Addr)(ok:Addr->Prop)(H:Hp):#[a]->List (To×Option Z6)->Prop where
 | nil:Uh C ok H [] []
 | cons {t u:Addr} {v:V} {d:To} {s:Option Z6} {vs:#[a]} {ss:List (To×Option Z6)} (h:H t=#[b,.tup,[.ref u,v]]) (hu:H u=some (.tup (W3 d))) (hs:ShO C ok H v s) (r:Uh C ok H vs ss):Uh C ok H (.ref t :: vs) ((d,s) :: ss)
theorem Uh.keep(k:#[aw,x,x])(kt:#[aj]):∀ {vs:List V} {ss:List (To×Option Z6)},Uh C ok H vs ss->Uh C ok H' vs ss
 | _,_,.nil=>.nil
 | _,_,.cons h hu hs r=>.cons (kt _ _ h) (kt _ _ hu) (hs.keep k kt) (Uh.keep k kt r)
theorem Uh.length:∀ {vs:List V} {ss:List (To×Option Z6)},Uh C ok H vs ss->vs.length=ss.length
 | _,_,.nil=>rfl
 | _,_,.cons _ _ _ r=>by simp[Uh.length r]
theorem Uh.snoc(h:H t=#[b,.tup,[.ref u,v]])(hu:H u=some (.tup (W3 d)))(hs:ShO C ok H v s):∀ {vs:List V} {ss:List (To×Option Z6)},Uh C ok H vs ss->Uh C ok H (vs++[.ref t]) (ss++[(d,s)])
 | _,_,.nil=>.cons h hu hs .nil
 | _,_,.cons h' hu' hs' r=>.cons h' hu' hs' (Uh.snoc h hu hs r)
theorem Uh.unsnoc:∀ {vs:List V} {ss:List (To×Option Z6)},Uh C ok H vs (ss++[(d,s)])->∃ vs' t u v,vs=vs'++[.ref t]/\H t=#[E,[.ref u,v]]/\H u=some (.tup (W3 d))/\ShO C ok H v s/\Uh C ok H vs' ss:=fun {vs ss}=>by
 induction ss generalizing vs with
 | nil=>
  intro q;have q:Uh C ok H vs [(d,s)]:=q;cases q with
  | cons h hu hs r=>cases r;exact⟨[],_,_,_,rfl,h,hu,hs,.nil⟩
 | cons x ss ih=>
  intro q;have q:Uh C ok H vs (x :: (ss++[(d,s)])):=q;cases q with
  | cons h hu hs r=>obtain⟨vs',t,u,v,e,a1,a2,a3,a4⟩:=ih r;exact⟨_ :: vs',t,u,v,by rw[e];rfl,a1,a2,a3,.cons h hu hs a4⟩
theorem Uh.get:∀ {vs:List V} {ss:List (To×Option Z6)} {i:Nat} {x:V},Uh C ok H vs ss->vs[i]?=some x->∃ t u v d s,x=.ref t/\ss[i]?=some (d,s)/\H t=#[E,[.ref u,v]]/\H u=some (.tup (W3 d))
 | _,_,_,_,.nil,e=>by simp at e
 | _,_,0,_,.cons h hu _ _,e=>by simp at e;subst e;exact⟨_,_,_,_,_,rfl,rfl,h,hu⟩
 | _,_,i+1,x,.cons _ _ _ r,e=>by
   obtain⟨t,u,v,d,s,h1,h2,h3⟩:=Uh.get (i:=i) (x:=x) r (by simpa using e);exact⟨t,u,v,d,s,h1,by simpa using h2,h3⟩
structure Sea where
 len:Nat
 rest:Nat
 ppl:RL
 led:#[Z]
 out:List (Int×Int)
 old:List Z6
 cur:Option Z6
 std:List (To×Option Z6)
structure SAd where
 p:Addr
 pr:Addr
 dr:Addr
 pl:Addr
 lr:Addr
 ld:Addr
 da:Addr
 ls:Addr
 lt:Addr
def SAd.fp(A:SAd):#[B]:=[A.p,A.dr,A.lr,A.ld,A.da,A.ls,A.lt]
def seaF(A:SAd)(len rest:Nat)(v:V):#[ab]:=[("length",.int len),("rest",.int rest),("roster",.ref A.pr),("ledger",.ref A.pl),("absent",.ref A.da),("sheets",.ref A.ls),("sheet",v),("standing",.ref A.lt)]
def Pk(kvs:List (List Key×V))(out:List (Int×Int)):Prop:=(∀ at_ n:Int,(valV kvs [inl at_,inl n]).isSome=decide ((at_,n)∈out))/\kvs.length<=out.length
structure Zz(ca:CA)(H:Hp)(A:SAd)(S:Sea):Prop where
 obj:∃ dx v,H A.p=some (.ins ca.season dx (seaF A S.len S.rest v))/\ShO ca.sheet (·∉A.fp) H v S.cur
 ros:Xn ca.roster H A.pr A.dr S.ppl
 led:Uj ca.ledger H A.pl A.lr A.ld S.led
 out:∃ kvs,H A.da=#[b,.dT,kvs]/\Pk kvs S.out
 old:∃ vs,H A.ls=#[x,vs]/\ShL ca.sheet (·∉A.fp) H vs S.old
 std:∃ vs,H A.lt=#[x,vs]/\Uh ca.sheet (·∉A.fp) H vs S.std
 nd:A.fp.Nodup
 np:A.pr∉A.fp/\A.pl∉A.fp
def FrS(A:SAd)(H H':Hp):Prop:=∀ b o,H b=#[d]->b∉A.fp->H' b=#[d]
end G
namespace L2
open PySem PySem.Spec PyProof.Rows
theorem Ar{X:Cx}{K:Frag}(hK:X.K=K):OpR X (binaryOp .Add) (zi5 K):=hK▸zh1
end L2
namespace G
open PySem PySem.Spec PyProof.Rows L2
theorem it2{p:Prop}[Decidable p]{A B A' B':Prop}(h:if p then A else B)(h1:p->A->A')(h2:¬ p->B->B'):if p then A' else B':=by
 by_cases z:p
 ·rw[#[f,z]] at h ⊢;exact h1 z h
 ·rw[#[c,z]] at h ⊢;exact h2 z h
theorem zeg{κ:Type}[DecidableEq κ]{kvs:List (κ×V)}{k:κ}{v:V}(h:valV kvs k=none):putK kvs k v=kvs++[(k,v)]:=by
 unfold putK;rw[if_neg];intro z;rw[Rq,h] at z;cases z
inductive As(C:Addr)(vs:#[a])(H:Hp)(Q:VK)(_:XK):Prop where
 | mk(p lr ld:Addr)(Rs:#[Z])(b:Addr)(ts:#[a])(rs:List Row)(_:#[ac,p,b])(_:Uj C H p lr ld Rs)(_:#[A,H,b,ts])(_:b≠lr)(_:#[L,H,rs.map,row4])(_:2*(tot Rs+rs.length)<=100000)(_:Rs.length<=1000)(_:∀ H',Uj C H' p lr ld (Rs++[rs])->(∀ b o,H b=some o->b≠lr->b≠ld->H' b=some o)->Q .non H')
def zc2(ok:Addr->Prop)(H:Hp):Prop:=∀ x,H x=none->ok x
inductive Mv(ca:CA)(vs:#[a])(H:Hp)(Q:VK)(_:XK):Prop where
 | mk(q)(dx)(l1)(l2)(l3)(l4)(_:vs=[.ref q,.ref l1,.ref l2,.ref l3,.ref l4])(_:H q=some (.ins ca.sheet dx []))(_:∀ H',H'=upd H q (.ins ca.sheet dx (shF l1 l2 l3 l4))->Q .non H')
theorem Rv:List.lookup ("listed":Str) (shF l1 l2 l3 l4)=#[b,.ref,l1]:=by unfold shF;simp only[zxo,beq_self_eq_true]
theorem zgu:List.lookup ("lists":Str) (shF l1 l2 l3 l4)=#[b,.ref,l2]:=by
 have e:(("lists":Str) == "listed")=false:=by decide +kernel
 unfold shF;simp only[zxo,e,beq_self_eq_true]
theorem Pl:List.lookup ("given":Str) (shF l1 l2 l3 l4)=#[b,.ref,l3]:=by
 have e:(("given":Str) == "listed")=false:=by decide +kernel
 have e2:(("given":Str) == "lists")=false:=by decide +kernel
 unfold shF;simp only[zxo,e,e2,beq_self_eq_true]
theorem Cz:List.lookup ("gaps":Str) (shF l1 l2 l3 l4)=#[b,.ref,l4]:=by
 have e:(("gaps":Str) == "listed")=false:=by decide +kernel
 have e2:(("gaps":Str) == "lists")=false:=by decide +kernel
 have e3:(("gaps":Str) == "given")=false:=by decide +kernel
 unfold shF;simp only[zxo,e,e2,e3,beq_self_eq_true]
theorem U5{l1 l2 l3 l4:Addr}{m:Str}(h1:¬ m="listed")(h2:¬ m="lists")(h3:¬ m="given")(h4:¬ m="gaps"):List.lookup m (shF l1 l2 l3 l4)=none:=by
 have e1:(m == "listed")=false:=zxa.mpr h1;have e2:(m == "lists")=false:=zxa.mpr h2;have e3:(m == "given")=false:=zxa.mpr h3;have e4:(m == "gaps")=false:=zxa.mpr h4;unfold shF;simp only[zxo,e1,e2,e3,e4,List.lookup_nil]
theorem zmx:putF "lists" y [(("listed":Str),x)]=([("listed",x),("lists",y)]:List (Str×V)):=by
 have n1:¬ (("listed":Str)="lists"):=by decide +kernel
 simp only[putF,#[c,n1]]
theorem zmy:putF "given" z [(("listed":Str),x),("lists",y)]=([("listed",x),("lists",y),("given",z)]:List (Str×V)):=by
 have n1:¬ (("listed":Str)="given"):=by decide +kernel
 have n2:¬ (("lists":Str)="given"):=by decide +kernel
 simp only[putF,#[c,n1],#[c,n2]]
theorem zmz:putF "gaps" w [(("listed":Str),x),("lists",y),("given",z)]=([("listed",x),("lists",y),("given",z),("gaps",w)]:List (Str×V)):=by
 have n1:¬ (("listed":Str)="gaps"):=by decide +kernel
 have n2:¬ (("lists":Str)="gaps"):=by decide +kernel
 have n3:¬ (("given":Str)="gaps"):=by decide +kernel
 simp only[putF,#[c,n1],#[c,n2],#[c,n3]]
theorem Nn(hq:H1 q=none)(hdx:H1 dx=none)(ne:dx≠q):Same H1 (upd (upd (upd H1 dx (.own q)) q (.ins C dx [])) q (.ins C dx (shF l1 l2 l3 l4)))/\upd (upd (upd H1 dx (.own q)) q (.ins C dx [])) q (.ins C dx (shF l1 l2 l3 l4)) q=some (.ins C dx (shF l1 l2 l3 l4)):=by
 refine⟨fun b o e=>?_,Zd⟩;rw[Zh (Zi e hq),Zh (Zi e hq),Zh (Zi e hdx)];exact e
inductive Au(ca:CA)(vs:#[a])(H:Hp)(Q:VK)(_:XK):Prop where
 | mk(ok:Addr->Prop)(q l2:Addr)(ls:#[B])(rows:#[I])(s:Z6)(_:#[ac,q,l2])(_:ShAt ca.sheet ok H q s)(_:H l2=some #[i,ls.map,V.ref])(_:ILs H ls rows)(_:ok l2)(_:(∀ x∈ls,ok x))(_:zc2 ok H)(_:∀ q' H',ShAt ca.sheet ok H' q' { s with may:=rows }->#[v]->H q'=none->#[S,q'])
inductive Av(ca:CA)(vs:#[a])(H:Hp)(Q:VK)(_:XK):Prop where
 | mk(ok:Addr->Prop)(q l2:Addr)(ls:#[B])(rows:#[I])(nu:#[t])(s:Z6)(n:Int)(p:Nat)(_:vs=[.ref q,.int n,.ref l2])(_:ShAt ca.sheet ok H q s)(_:H l2=some #[i,ls.map,V.ref])(_:ILs H ls rows)(_:ok l2)(_:(∀ x∈ls,ok x))(_:zc2 ok H)(_:K7 rows nu)(_:(∀ x∈s.gv,oneV x))(_:s.gv[p]?=#[q,n])(_:(∀ j:Nat,s.gv[j]?=#[q,n]->j=p))(_:Y7 rows (s.gv.set p .non))(_:s.gaps.length<=1000)(_:∀ q' st e w H',ShAt ca.sheet ok H' q' ⟨s.ms,rows,Yv st (s.gv.set p .non),s.gaps++[(n,st)]⟩->Xw rows (s.gv.set p .non) p st e w->#[v]->H q'=none->#[S,q'])
inductive zc3(ca:CA)(vs:#[a])(H:Hp)(Q:VK)(_:XK):Prop where
 | mk(ok:Addr->Prop)(l1 l2:Addr)(ts:#[a])(ls:#[B])(ms:List (Int×Int×Int))(rows:#[I])(nu:#[t])(_:#[ac,l1,l2])(_:#[A,H,l1,ts])(_:#[L,H,ms.map,pV])(_:H l2=some #[i,ls.map,V.ref])(_:ILs H ls rows)(_:ok l1)(_:ok l2)(_:(∀ x∈ls,ok x))(_:zc2 ok H)(_:K7 rows nu)(_:∀ q gv H',ShAt ca.sheet ok H' q ⟨ms,rows,gv,[]⟩->Y7 rows gv->Um rows gv->#[v]->H q=none->#[S,q])
inductive Pm(ca:CA)(vs:#[a])(H:Hp)(Q:VK)(_:XK):Prop where
 | mk(ok:Addr->Prop)(q:Addr)(s:Z6)(_:vs=[.ref q])(_:ShAt ca.sheet ok H q s)(_:∀ l ts H',H' l=#[x,ts]->#[L,H',s.ms.map,pV]->#[v]->H l=none->Q (.ref l) H')
inductive Gd(ca:CA)(vs:#[a])(H:Hp)(Q:VK)(_:XK):Prop where
 | mk(ok:Addr->Prop)(q:Addr)(s:Z6)(_:vs=[.ref q])(_:ShAt ca.sheet ok H q s)(_:∀ l H',H' l=#[x,s.gv]->#[v]->H l=none->#[S,l])
inductive Ka(ca:CA)(vs:#[a])(H:Hp)(Q:VK)(_:XK):Prop where
 | mk(ok:Addr->Prop)(q:Addr)(s:Z6)(n:Int)(_:vs=[.ref q,.int n])(_:ShAt ca.sheet ok H q s)(_:(∀ x∈s.gv,oneV x))(_:s.gv.length<=100)(_:∀ H',Same H H'->Q (oN (W0 s.gv n)) H')
inductive zc4(ca:CA)(vs:#[a])(H:Hp)(Q:VK)(E:XK):Prop where
 | mk(ok:Addr->Prop)(q:Addr)(s:Z6)(i:Int)(_:vs=[.ref q,.int i])(_:ShAt ca.sheet ok H q s)(_:Yc i)(_:s.may.length=s.ms.length)(_:(i<0\/(s.ms.length:Int)<=i->#[H,ca.noMatch]))(_:∀ (k:Nat) r,i=(k:Int)->s.may[k]?=some r->∀ l H',H' l=some #[i,r.map,V.int]->#[v]->H l=none->#[S,l])
inductive Dq(ca:CA)(vs:#[a])(H:Hp)(Q:VK)(E:XK):Prop where
 | mk(ok:Addr->Prop)(q:Addr)(s:Z6)(i:Int)(_:vs=[.ref q,.int i])(_:ShAt ca.sheet ok H q s)(_:Yc i)(_:(if i<0\/(s.ms.length:Int)<=i then #[H,ca.noMatch] else Q .non H))
def Ge(m:Int×Int×Int)(x:V):Row:=⟨m.1,m.2.1,m.2.2,zl7 (some x)⟩
def Ya(s:Z6):List Row:=List.zipWith Ge s.ms s.gv
inductive Aw(ca:CA)(vs:#[a])(H:Hp)(Q:VK)(_:XK):Prop where
 | mk(ok:Addr->Prop)(q:Addr)(s:Z6)(_:vs=[.ref q])(_:ShAt ca.sheet ok H q s)(_:(∀ x∈s.gv,oneV x))(_:s.gv.length=s.ms.length)(_:s.ms.length<=1000)(_:∀ l ts H',H' l=#[x,ts]->#[L,H',(Ya s).map,row4]->#[v]->H l=none->Q (.ref l) H')
inductive Gf(ca:CA)(vs:#[a])(H:Hp)(Q:VK)(_:XK):Prop where
 | mk(ok:Addr->Prop)(q:Addr)(s:Z6)(_:vs=[.ref q])(_:ShAt ca.sheet ok H q s)(_:s.gaps.length<=1000)(_:∀ l ts H',H' l=#[x,ts]->Wx (fun x=>H x=none/\x≠l) H' ts s.gaps->#[v]->H l=none->Q (.ref l) H')
theorem Gg{K:Frag}{a:Addr}{xs:#[a]}{xo:#[D]}{js:List Nat}{g:TG}{tt:TT}{te:TE}{σ:L2.St}{H:Hp}{Q:VK}(Pv:Nat->#[a]->Hp->Prop)(h0:Pv 0 [] H)(hl:∀ i ys H,i<=xs.length->Pv i ys H->SqL K H a xs)(hz:xs.length<=sizeLine)(hy:∀ i ys H,Pv i ys H->ys.length<=i)
  (hs:∀ i x ys H,xs[i]?=some x->Pv i ys H->g x (cs0 xo js σ) H fun σ2 H1=>Oj xo js σ σ2/\tt σ2 H1 fun b H2=>if b=true then te σ2 H2 fun y H3=>Pv (i+1) (ys++[y]) H3 else Pv (i+1) ys H2)
  (hd:∀ ys H,Pv xs.length ys H->∀ p,H p=none->Q (.ref p) (upd H p (.lst ys))):zbo (Itl K a) xo js g tt te σ H Q:=by
 refine⟨fun i m ys H=>m=xs.length-i/\i<=xs.length/\Pv i ys H,⟨xs.length,by simp,zxh _,h0⟩,?_⟩;rintro i m ys H ⟨rfl,hi,p⟩;have q:=hl i ys H hi p;have ly:=hy i ys H p;by_cases hlt:i<xs.length
 ·refine .inr ⟨⟨xs,xs[i],q,by simp[hlt]⟩,by omega,Pv (i+1),fun ys' H' p'=>⟨xs.length-(i+1),by omega,rfl,hlt,p'⟩,fun x H' y=>?_⟩;obtain⟨e,y⟩:=y;subst e;exact hs i x ys _ (y xs q) p
 ·have e:i=xs.length:=by omega
  subst e;exact .inl ⟨⟨xs,q,zww _⟩,by omega,hd ys H p⟩
theorem zeh{K:Frag}{a b:Addr}{xs zs:#[a]}{xo:#[D]}{js:List Nat}{g:TG}{tt:TT}{te:TE}{σ:L2.St}{H:Hp}{Q:VK}(Pv:Nat->#[a]->Hp->Prop)(h0:Pv 0 [] H)(he:xs.length=zs.length)(hl:∀ i ys H,i<=xs.length->Pv i ys H->SqL K H a xs/\SqL K H b zs)(hz:xs.length<=sizeLine)(hy:∀ i ys H,Pv i ys H->ys.length<=i)
  (hs:∀ i x z t ys H,xs[i]?=some x->zs[i]?=some z->Pv i ys H->H t=none->g (.ref t) (cs0 xo js σ) (upd H t (.tup [x,z])) fun σ2 H1=>Oj xo js σ σ2/\tt σ2 H1 fun b H2=>if b=true then te σ2 H2 fun y H3=>Pv (i+1) (ys++[y]) H3 else Pv (i+1) ys H2)
  (hd:∀ ys H,Pv xs.length ys H->∀ p,H p=none->Q (.ref p) (upd H p (.lst ys))):zbo (Itz K a b) xo js g tt te σ H Q:=by
 refine⟨fun i m ys H=>m=xs.length-i/\i<=xs.length/\Pv i ys H,⟨xs.length,by simp,zxh _,h0⟩,?_⟩;rintro i m ys H ⟨rfl,hi,p⟩;obtain⟨q1,q2⟩:=hl i ys H hi p;have ly:=hy i ys H p;by_cases hlt:i<xs.length
 ·refine .inr ⟨⟨xs,zs,xs[i],zs[i]'⋯,q1,q2,by simp[hlt],by rw[zwn ⋯]⟩,by omega,Pv (i+1),fun ys' H' p'=>⟨xs.length-(i+1),by omega,rfl,hlt,p'⟩,fun x H' y=>?_⟩;obtain⟨t,y,z,h1,h2,h3,rfl,rfl⟩:=y;exact hs i y z t ys _ (h2 xs q1) (h3 zs q2) p h1
 ·have e:i=xs.length:=by omega
  subst e;exact .inl ⟨⟨xs,zs,q1,q2,.inl (zww _)⟩,by omega,hd ys H p⟩
theorem zkr(m:Int×Int×Int)(h:oneV x):row4 (Ge m x)=[V.int m.1,V.int m.2.1,V.int m.2.2,x]:=by
 rcases h with rfl|⟨i,rfl⟩<;>rfl
theorem zei(hm:s.ms[i]?=some m)(hx:s.gv[i]?=some x):(Ya s).take (i+1)=(Ya s).take i++[Ge m x]:=by
 have:(Ya s)[i]?=some (Ge m x):=by
  unfold Ya;rw[List.getElem?_zipWith,hm,hx]
 rw[zxy,this];rfl
theorem Ax(h:s.gv.length=s.ms.length):(Ya s).length=s.ms.length:=by
 unfold Ya;rw[zyr,h,Nat.min_self]
section
variable{ca:CA}{H H':Hp}{A:SAd}{S:Sea}{l:Nat}{r:Nat}{v:V}
theorem Ay(A:SAd)(l r:Nat)(v:V):List.lookup ("length":Str) (seaF A l r v)=#[q,l]/\List.lookup ("rest":Str) (seaF A l r v)=#[q,r]/\List.lookup ("roster":Str) (seaF A l r v)=#[e,A.pr]/\List.lookup ("ledger":Str) (seaF A l r v)=#[e,A.pl]/\List.lookup ("absent":Str) (seaF A l r v)=#[e,A.da]/\List.lookup ("sheets":Str) (seaF A l r v)=#[e,A.ls]/\List.lookup ("sheet":Str) (seaF A l r v)=some v/\List.lookup ("standing":Str) (seaF A l r v)=#[e,A.lt]:=by
 have d:∀ a b:Str,#[g,a=b]=false->(a == b)=false:=fun a b h=>zxa.mpr (of_decide_eq_false h);have e1:=d "rest" "length" ⋯;have e2:=d "roster" "length" ⋯;have e3:=d "roster" "rest" ⋯;have f1:=d "ledger" "length" ⋯;have f2:=d "ledger" "rest" ⋯;have f3:=d "ledger" "roster" ⋯;have g1:=d "absent" "length" ⋯;have g2:=d "absent" "rest" ⋯;have g3:=d "absent" "roster" ⋯;have g4:=d "absent" "ledger" ⋯;have h1:=d "sheets" "length" ⋯;have h2:=d "sheets" "rest" ⋯;have h3:=d "sheets" "roster" ⋯;have h4:=d "sheets" "ledger" ⋯;have h5:=d "sheets" "absent" ⋯;have i1:=d "sheet" "length" ⋯;have i2:=d "sheet" "rest" ⋯;have i3:=d "sheet" "roster" ⋯;have i4:=d "sheet" "ledger" ⋯;have i5:=d "sheet" "absent" ⋯;have i6:=d "sheet" "sheets" ⋯;have j1:=d "standing" "length" ⋯;have j2:=d "standing" "rest" ⋯;have j3:=d "standing" "roster" ⋯;have j4:=d "standing" "ledger" ⋯;have j5:=d "standing" "absent" ⋯;have j6:=d "standing" "sheets" ⋯;have j7:=d "standing" "sheet" ⋯;unfold seaF;refine⟨?_,?_,?_,?_,?_,?_,?_,?_⟩<;>simp only[zxo,beq_self_eq_true,e1,e2,e3,f1,f2,f3,g1,g2,g3,g4,h1,h2,h3,h4,h5,i1,i2,i3,i4,i5,i6,j1,j2,j3,j4,j5,j6,j7]
theorem Dr:List.lookup ("length":Str) (seaF A l r v)=#[b,.int,l]:=(Ay A l r v).1
theorem zik:List.lookup ("rest":Str) (seaF A l r v)=#[b,.int,r]:=(Ay A l r v).2.1
theorem Wv:List.lookup ("roster":Str) (seaF A l r v)=#[b,.ref,A.pr]:=(Ay A l r v).2.2.1
theorem Uo:List.lookup ("ledger":Str) (seaF A l r v)=#[b,.ref,A.pl]:=(Ay A l r v).2.2.2.1
theorem Rw:List.lookup ("absent":Str) (seaF A l r v)=#[b,.ref,A.da]:=(Ay A l r v).2.2.2.2.1
theorem Du:List.lookup ("sheets":Str) (seaF A l r v)=#[b,.ref,A.ls]:=(Ay A l r v).2.2.2.2.2.1
theorem W4:List.lookup ("sheet":Str) (seaF A l r v)=some v:=(Ay A l r v).2.2.2.2.2.2.1
theorem U3:List.lookup ("standing":Str) (seaF A l r v)=#[b,.ref,A.lt]:=(Ay A l r v).2.2.2.2.2.2.2
theorem Yd(h:(["length","rest","roster","ledger","absent","sheets","sheet","standing"]:List Str).all (fun x=>!#[g,m=x])=true):List.lookup m (seaF A l r v)=none:=by
 simp only[List.all_cons,List.all_nil,Bool.and_true,zyf,Bool.not_eq_true',decide_eq_false_iff_not] at h;obtain⟨h1,h2,h3,h4,h5,h6,h7,h8⟩:=h;have e:∀ x:Str,¬ m=x->(m == x)=false:=fun x z=>zxa.mpr z;unfold seaF;simp only[zxo,e _ h1,e _ h2,e _ h3,e _ h4,e _ h5,e _ h6,e _ h7,e _ h8,List.lookup_nil]
theorem Zz.same(h:#[N])(e:#[v]):Zz ca H' A S:=by
 obtain⟨⟨dx,v,a1,a2⟩,b,c,⟨kvs,d1,d2⟩,⟨vs,f1,f2⟩,⟨us,g1,g2⟩,nd,np⟩:=h;have k:∀ x o,x∉A.fp->H x=#[d]->H' x=#[d]:=fun _ _ _ q=>e _ _ q;have kt:#[aj]:=fun _ _ q=>e _ _ q;exact⟨⟨dx,v,e _ _ a1,a2.keep k kt⟩,b.same e,c.same e,⟨kvs,e _ _ d1,d2⟩,⟨vs,e _ _ f1,f2.keep k kt⟩,⟨us,e _ _ g1,g2.keep k kt⟩,nd,np⟩
theorem FrS.of(A:SAd)(e:#[v]):FrS A H H':=fun b o q _=>e b o q
theorem FrS.trans(h1:FrS A H H')(h2:FrS A H' H2):FrS A H H2:=fun b o e n=>h2 b o (h1 b o e n) n
theorem Zz.there(h:#[N]):∀ x∈A.fp,∃ o,H x=#[d]:=by
 obtain⟨⟨dx,v,a1,_⟩,⟨⟨_,_,_,b2,_⟩,_⟩,⟨_,⟨rs,c2,_⟩,⟨ks,c3,_⟩⟩,⟨kvs,d1,_⟩,⟨vs,f1,_⟩,⟨us,g1,_⟩,nd,np⟩:=h;intro x hx;simp only[SAd.fp,zwr,zxf,or_false] at hx;rcases hx with rfl|rfl|rfl|rfl|rfl|rfl|rfl
 ·exact⟨_,a1⟩
 ·exact⟨_,b2⟩
 ·exact⟨_,c2⟩
 ·exact⟨_,c3⟩
 ·exact⟨_,d1⟩
 ·exact⟨_,f1⟩
 ·exact⟨_,g1⟩
theorem Zz.newOk(h:#[N]):zc2 (·∉A.fp) H:=fun x hx hm=>by
 obtain⟨o,e⟩:=h.there x hm;rw[e] at hx;cases hx
theorem Zz.tups(h:#[N])(f:FrS A H H'):#[aj]:=fun t xs e=>f t _ e fun hm=>by
 obtain⟨⟨dx,v,a1,_⟩,⟨⟨_,_,_,b2,_⟩,_⟩,⟨_,⟨rs,c2,_⟩,⟨ks,c3,_⟩⟩,⟨kvs,d1,_⟩,⟨vs,f1,_⟩,⟨us,g1,_⟩,nd,np⟩:=h;simp only[SAd.fp,zwr,zxf,or_false] at hm;rcases hm with rfl|rfl|rfl|rfl|rfl|rfl|rfl
 ·rw[a1] at e;cases e
 ·rw[b2] at e;cases e
 ·rw[c2] at e;cases e
 ·rw[c3] at e;cases e
 ·rw[d1] at e;cases e
 ·rw[f1] at e;cases e
 ·rw[g1] at e;cases e
end
def atV(S:Sea):Int:=(S.led.length:Int)+1
inductive V1(ca:CA)(vs:#[a])(H:Hp)(Q:VK)(_:XK):Prop where
 | mk(A:SAd)(S:Sea)(_:vs=[.ref A.p])(_:#[N])(_:Q (.int (atV S)) H)
inductive Kb(ca:CA)(vs:#[a])(H:Hp)(Q:VK)(E:XK):Prop where
 | mk(A:SAd)(S:Sea)(_:vs=[.ref A.p])(_:#[N])(_:if S.len<=S.led.length then #[H,ca.seaOver] else Q .non H)
inductive Kc(ca:CA)(vs:#[a])(H:Hp)(Q:VK)(E:XK):Prop where
 | mk(A:SAd)(S:Sea)(_:vs=[.ref A.p])(_:#[N])(_:if S.len<=S.led.length then #[H,ca.seaOver] else if S.cur.isSome then #[H,ca.drawn] else Q .non H)
inductive Iy(ca:CA)(vs:#[a])(H:Hp)(Q:VK)(E:XK):Prop where
 | mk(A:SAd)(S:Sea)(at_:Int)(_:vs=[.ref A.p,.int at_])(_:#[N])(_:Yc at_)(_:if at_<1\/(S.len:Int)<at_ then #[H,ca.noRound] else Q .non H)
inductive C0(ca:CA)(vs:#[a])(H:Hp)(Q:VK)(E:XK):Prop where
 | mk(A:SAd)(S:Sea)(_:vs=[.ref A.p])(_:#[N])(_:if 100<=S.std.length then #[H,ca.manyD] else Q .non H)
inductive C2(ca:CA)(vs:#[a])(H:Hp)(Q:VK)(_:XK):Prop where
 | mk(A:SAd)(S:Sea)(w:Str)(n at_:Int)(_:vs=[.ref A.p,.str w,.int n,.int at_])(_:#[N])(_:S.std.length<=1000)(_:∀ H',Zz ca H' A { S with std:=S.std++[((w,n,at_),S.cur)] }->FrS A H H'->Q .non H')
inductive Qc(ca:CA)(vs:#[a])(H:Hp)(Q:VK)(E:XK):Prop where
 | mk(A:SAd)(S:Sea)(_:vs=[.ref A.p])(_:#[N])(_:(S.cur=none->#[H,ca.notDrawn]))(_:∀ s q,S.cur=some s->ShAt ca.sheet (·∉A.fp) H q s->Q (.ref q) H)
def V2(S:Sea)(at_:Int):Option Z6:=if at_<=S.led.length then S.old[(at_-1).toNat]? else if (S.led.length:Int)+1<at_ then none else S.cur
inductive Kd(ca:CA)(vs:#[a])(H:Hp)(Q:VK)(E:XK):Prop where
 | mk(A:SAd)(S:Sea)(at_:Int)(_:vs=[.ref A.p,.int at_])(_:#[N])(_:Yc at_)(_:S.old.length=S.led.length)(_:if at_<1\/(S.len:Int)<at_ then #[H,ca.noRound] else (V2 S at_=none->#[H,ca.notDrawn])/\∀ s q,V2 S at_=some s->ShAt ca.sheet (·∉A.fp) H q s->Q (.ref q) H)
def pIn(out:List (Int×Int))(at_:Int)(m:P3):Bool:=#[g,(at_,m.1)∈out]
def Gh(S:Sea)(m:P3):#[t]:=(S.ppl.filter fun x=>(whyS S.led x.1 x.2.1 x.2.2 m.1 m.2.1 m.2.2 (pIn S.out (atV S) x) S.rest).isEmpty).map (·.1)
def mayS(S:Sea)(ms:List P3):#[I]:=ms.map (Gh S)
inductive Np(ca:CA)(vs:#[a])(H:Hp)(Q:VK)(_:XK):Prop where
 | mk(A:SAd)(S:Sea)(l:Addr)(ts:#[a])(ms:List P3)(_:#[ac,A.p,l])(_:#[N])(_:#[A,H,l,ts])(_:#[L,H,ms.map,pV])(_:ms.length<=100)(_:S.ppl.length<=100)(_:(∀ x∈S.ppl,Yc x.1))(_:∀ l' ls H',H' l'=some #[i,ls.map,V.ref]->ILs H' ls (mayS S ms)->#[v]->H l'=none->(∀ x∈ls,H x=none)->#[S,l'])
def badM(m:P3):Prop:=m.1<1\/99<m.1\/m.2.1<1\/99<m.2.1\/m.2.2<1\/9<m.2.2
def Up(Ms:List P3):Prop:=∃ m∈Ms,badM m
def Vc(Ms:List P3):Prop:=∃ m∈Ms,m.1=m.2.1
def S7(m:P3):Prop:=Yc m.1/\Yc m.2.1/\Yc m.2.2
theorem Dv{p:P3->Prop}{Ms:List P3}{i:Nat}{m:P3}(e:Ms[i]?=some m)(h:∀ x∈Ms.take i,¬ p x)(hm:¬ p m):∀ x∈Ms.take (i+1),¬ p x:=fun x hx=>by
 rw[zxy,e] at hx;rcases zwy.mp hx with q|q
 ·exact h x q
 ·simp at q;subst q;exact hm
inductive Az(K:Frag)(ca:CA)(vs:#[a])(H:Hp)(Q:VK)(E:XK):Prop where
 | mk(b)(ts)(_:vs=[.ref b])(_:SqL K H b ts)(_:ts.length<=1000)(_:(20<ts.length->#[H,ca.manyM]))(_:(ts.length<=20->Q .non H))
inductive Dw(K:Frag)(ca:CA)(vs:#[a])(H:Hp)(Q:VK)(E:XK):Prop where
 | mk(b:Addr)(ts:#[a])(Ms:List P3)(_:vs=[.ref b])(_:SqL K H b ts)(_:#[L,H,Ms.map,pV])(_:(∀ m∈Ms,S7 m))(_:(Up Ms->#[H,ca.out]))(_:(¬ Up Ms->Q .non H))
inductive A0(K:Frag)(ca:CA)(vs:#[a])(H:Hp)(Q:VK)(E:XK):Prop where
 | mk(b:Addr)(ts:#[a])(Ms:List P3)(_:vs=[.ref b])(_:SqL K H b ts)(_:#[L,H,Ms.map,pV])(_:(∀ m∈Ms,S7 m))(_:(Vc Ms->#[H,ca.same]))(_:(¬ Vc Ms->Q .non H))
inductive Gi(K:Frag)(ca:CA)(vs:#[a])(H:Hp)(Q:VK)(E:XK):Prop where
 | mk(b:Addr)(ts:#[a])(Ms:List P3)(_:vs=[.ref b])(_:SqL K H b ts)(_:#[L,H,Ms.map,pV])(_:(∀ m∈Ms,S7 m))(_:Ms.length<=1000)(_:(20<Ms.length->#[H,ca.manyM]))(_:(Ms.length<=20->Up Ms->#[H,ca.out]))(_:(Ms.length<=20->¬ Up Ms->Vc Ms->#[H,ca.same]))(_:(Ms.length<=20->¬ Up Ms->¬ Vc Ms->∀ l,H l=none->Q (.ref l) (upd H l (.lst ts))))
theorem Pk.isSome(h:Pk kvs out)(i n:Int):(valV kvs [inl i,inl n]).isSome=#[g,(i,n)∈out]:=h.1 i n
theorem Gj{A:SAd}(nd:A.fp.Nodup):(A.p≠A.dr/\A.p≠A.lr/\A.p≠A.ld/\A.p≠A.da/\A.p≠A.ls/\A.p≠A.lt)/\(A.dr≠A.lr/\A.dr≠A.ld/\A.dr≠A.da/\A.dr≠A.ls/\A.dr≠A.lt)/\(A.lr≠A.ld/\A.lr≠A.da/\A.lr≠A.ls/\A.lr≠A.lt)/\(A.ld≠A.da/\A.ld≠A.ls/\A.ld≠A.lt)/\(A.da≠A.ls/\A.da≠A.lt)/\A.ls≠A.lt:=by
 simp only[SAd.fp,zxe,zwr,zxf,or_false,not_or] at nd;obtain⟨⟨n1,n2,n3,n4,n5,n6⟩,⟨n7,n8,n9,n10,n11⟩,⟨n12,n13,n14,n15⟩,⟨n16,n17,n18⟩,⟨n19,n20⟩,n21,_⟩:=nd;exact⟨⟨n1,n2,n3,n4,n5,n6⟩,⟨n7,n8,n9,n10,n11⟩,⟨n12,n13,n14,n15⟩,⟨n16,n17,n18⟩,⟨n19,n20⟩,n21⟩
theorem zc5{R:RL}(nd:(R.map (·.1)).Nodup){x y:P3}(hx:x∈R)(hy:y∈R)(h:x.1=y.1):x=y:=by
 induction R with
 | nil=>cases hx
 | cons z R ih =>
   rw[zwz,zxe] at nd;rcases zwr.mp hx with e|e<;>rcases zwr.mp hy with e'|e'
   ·rw[e,e']
   ·exact absurd (zwv.mpr ⟨y,e',by rw[<- h,e]⟩) nd.1
   ·exact absurd (zwv.mpr ⟨x,e,by rw[h,e']⟩) nd.1
   ·exact ih nd.2 e e'
def outV(S:Sea):#[a]:=(S.ppl.filter (pIn S.out (atV S))).map fun x=>V.int x.1
theorem zgv(S:Sea):∀ x∈outV S,oneV x:=fun x hx=>by
 unfold outV at hx;obtain⟨m,_,rfl⟩:=zwv.mp hx;exact .inr ⟨_,rfl⟩
theorem zil(hx:x∈S.ppl):inV (.int x.1) (outV S)=pIn S.out (atV S) x:=by
 unfold outV;rw[show ((S.ppl.filter (pIn S.out (atV S))).map fun x=>V.int x.1)=((S.ppl.filter (pIn S.out (atV S))).map (·.1)).map V.int by rw[zyd];rfl,Iu];unfold pIn;by_cases h:(atV S,x.1)∈S.out
 ·rw[zws h,zws];exact zwv.mpr ⟨x,zxz.mpr ⟨hx,zws h⟩,rfl⟩
 ·rw[zwx h,zwx];intro z;obtain⟨y,h1,h2⟩:=zwv.mp z;have:=of_decide_eq_true (zxz.mp h1).2;rw[h2] at this;exact h this
theorem zks(S:Sea)(m:P3):((S.ppl.filter (Pj S.led m.1 m.2.1 m.2.2 (outV S) S.rest)).map fun x=>V.int x.1)=(Gh S m).map V.int:=by
 unfold Gh;rw[zyd];have:S.ppl.filter (Pj S.led m.1 m.2.1 m.2.2 (outV S) S.rest)=S.ppl.filter fun x=>(whyS S.led x.1 x.2.1 x.2.2 m.1 m.2.1 m.2.2 (pIn S.out (atV S) x) S.rest).isEmpty:=by
  refine List.filter_congr fun x hx=>?_;unfold Pj;rw[zil hx]
 rw[this];rfl
theorem atI_last:atI (xs++[x]) (-1)=some x:=by
 have hl:(xs++[x]).length=xs.length+1:=by rw[zwp];rfl
 unfold atI ixN;rw[if_neg ⋯,if_pos ⋯];show (xs++[x])[((-1:Int)+(xs++[x]).length).toNat]?=_;rw[show ((-1:Int)+(xs++[x]).length).toNat=xs.length by omega,zxj (zww _),Nat.sub_self];rfl
theorem Wx.unsnoc{ok:Addr->Prop}{H:Hp}{n:Int}{st:#[K]}:∀ {vs:List V} {G:List (Int×List (Nat×Option Int))},Wx ok H vs (G++[(n,st)])->∃ vs' t l us,vs=vs'++[.ref t]/\H t=#[E,[.int n,.ref l]]/\H l=#[x,us]/\TupL H us (st.map Uk)/\ok l:=fun {vs G}=>by
 induction G generalizing vs with
 | nil=>
  intro q;have q:Wx ok H vs [(n,st)]:=q;cases q with
  | cons h hl tl o r=>cases r;exact⟨[],_,_,_,rfl,h,hl,tl,o⟩
 | cons x G ih=>
  intro q;have q:Wx ok H vs (x :: (G++[(n,st)])):=q;cases q with
  | cons h hl tl o r=>obtain⟨vs',t,l,us,e,a⟩:=ih r;exact⟨_ :: vs',t,l,us,by rw[e];rfl,a⟩
def Sv(S:Sea):Prop:=(∀ x∈S.ppl,¬ badI x.1 x.2.1 x.2.2)/\S.ppl.length<=30
theorem Sv.small(h:Sv S):∀ x∈S.ppl,Yc x.1:=fun x hx=>by
 have:=h.1 x hx;unfold badI at this;exact Z0 ⋯ ⋯
theorem Sv.may(h:Sv S)(nd:(S.ppl.map (·.1)).Nodup)(hm:ms.length<=20):K7 (mayS S ms) (S.ppl.map (·.1)):=by
 refine⟨by unfold mayS;rw[zwm];exact hm,by rw[zwm];exact h.2,nd,fun n hn=>?_,fun r hr=>?_⟩
 ·obtain⟨x,hx,rfl⟩:=zwv.mp hn;have:=h.1 x hx;unfold badI at this;omega
 ·unfold mayS at hr;obtain⟨m,_,rfl⟩:=zwv.mp hr;unfold Gh;exact⟨nd.sublist (List.Sublist.map _ List.filter_sublist),fun n hn=>by
   obtain⟨x,hx,rfl⟩:=zwv.mp hn;exact zwv.mpr ⟨x,(zxz.mp hx).1,rfl⟩⟩
section
variable{ca:CA}{H H':Hp}{A:SAd}{S:Sea}
theorem Ja(h:#[N])(hx:x∈A.fp):A.pr≠x/\A.pl≠x:=⟨fun z=>h.np.1 (by rw[z];exact hx),fun z=>h.np.2 (by rw[z];exact hx)⟩
theorem FrS.one(hx:x∈A.fp)(k:∀ b o,H b=#[d]->b≠x->H' b=#[d]):FrS A H H':=fun b o e hb=>k b o e fun z=>hb (by rw[z];exact hx)
theorem Zz.setRos(h:#[N])(r:Xn ca.roster H' A.pr A.dr R)(k:∀ b o,H b=#[d]->b≠A.dr->H' b=#[d]):Zz ca H' A { S with ppl:=R }/\FrS A H H':=by
 have f:FrS A H H':=.one (by simp[SAd.fp]) k;have kt:=h.tups f;have ko:∀ x o,x∉A.fp->H x=#[d]->H' x=#[d]:=fun x o hx e=>f x o e hx;obtain⟨⟨n1,n2,n3,n4,n5,n6⟩,⟨n7,n8,n9,n10,n11⟩,⟨n12,n13,n14,n15⟩,⟨n16,n17,n18⟩,⟨n19,n20⟩,n21⟩:=Gj h.nd;have np:=Ja h (show A.dr∈A.fp by simp[SAd.fp]);obtain⟨⟨dx,v,a1,a2⟩,b,c,⟨kvs,d1,d2⟩,⟨vs,f1,f2⟩,⟨us,g1,g2⟩,nd,np'⟩:=h;exact⟨⟨⟨dx,v,k _ _ a1 n1,a2.keep ko kt⟩,r,c.keep (fun o e=>k _ o e np.2) (fun o e=>k _ o e (Ne.symm n7)) (fun o e=>k _ o e (Ne.symm n8)) kt,⟨kvs,k _ _ d1 (Ne.symm n9),d2⟩,⟨vs,k _ _ f1 (Ne.symm n10),f2.keep ko kt⟩,⟨us,k _ _ g1 (Ne.symm n11),g2.keep ko kt⟩,nd,np'⟩,f⟩
theorem Zz.setOut{out:List (Int×Int)}{kvs:List (List Key×V)}(h:#[N])(hd:H' A.da=#[b,.dT,kvs])(ok:Pk kvs out)(k:∀ b o,H b=#[d]->b≠A.da->H' b=#[d]):Zz ca H' A { S with out:=out }/\FrS A H H':=by
 have f:FrS A H H':=.one (by simp[SAd.fp]) k;have kt:=h.tups f;have ko:∀ x o,x∉A.fp->H x=#[d]->H' x=#[d]:=fun x o hx e=>f x o e hx;obtain⟨⟨n1,n2,n3,n4,n5,n6⟩,⟨n7,n8,n9,n10,n11⟩,⟨n12,n13,n14,n15⟩,⟨n16,n17,n18⟩,⟨n19,n20⟩,n21⟩:=Gj h.nd;have np:=Ja h (show A.da∈A.fp by simp[SAd.fp]);obtain⟨⟨dx,v,a1,a2⟩,b,c,⟨kvs',d1,d2⟩,⟨vs,f1,f2⟩,⟨us,g1,g2⟩,nd,np'⟩:=h;exact⟨⟨⟨dx,v,k _ _ a1 n4,a2.keep ko kt⟩,b.keep (fun o e=>k _ o e np.1) (fun o e=>k _ o e n9) kt,c.keep (fun o e=>k _ o e np.2) (fun o e=>k _ o e n13) (fun o e=>k _ o e n16) kt,⟨kvs,hd,ok⟩,⟨vs,k _ _ f1 (Ne.symm n19),f2.keep ko kt⟩,⟨us,k _ _ g1 (Ne.symm n20),g2.keep ko kt⟩,nd,np'⟩,f⟩
theorem Zz.setCur(h:#[N])(hp:∃ dx,H' A.p=some (.ins ca.season dx (seaF A S.len S.rest v)))(sh:ShO ca.sheet (·∉A.fp) H' v cur)(k:∀ b o,H b=#[d]->b≠A.p->H' b=#[d]):Zz ca H' A { S with cur:=cur }/\FrS A H H':=by
 have f:FrS A H H':=.one (by simp[SAd.fp]) k;have kt:=h.tups f;have ko:∀ x o,x∉A.fp->H x=#[d]->H' x=#[d]:=fun x o hx e=>f x o e hx;obtain⟨⟨n1,n2,n3,n4,n5,n6⟩,⟨n7,n8,n9,n10,n11⟩,⟨n12,n13,n14,n15⟩,⟨n16,n17,n18⟩,⟨n19,n20⟩,n21⟩:=Gj h.nd;have np:=Ja h (show A.p∈A.fp by simp[SAd.fp]);obtain⟨⟨dx,v',a1,a2⟩,b,c,⟨kvs',d1,d2⟩,⟨vs,f1,f2⟩,⟨us,g1,g2⟩,nd,np'⟩:=h;obtain⟨dx',hp⟩:=hp;exact⟨⟨⟨dx',v,hp,sh⟩,b.keep (fun o e=>k _ o e np.1) (fun o e=>k _ o e (Ne.symm n1)) kt,c.keep (fun o e=>k _ o e np.2) (fun o e=>k _ o e (Ne.symm n2)) (fun o e=>k _ o e (Ne.symm n3)) kt,⟨kvs',k _ _ d1 (Ne.symm n4),d2⟩,⟨vs,k _ _ f1 (Ne.symm n5),f2.keep ko kt⟩,⟨us,k _ _ g1 (Ne.symm n6),g2.keep ko kt⟩,nd,np'⟩,f⟩
theorem Zz.setStd{std:List (To×Option Z6)}{us:#[a]}(h:#[N])(hd:#[A,H',A.lt,us])(ok:Uh ca.sheet (·∉A.fp) H' us std)(k:∀ b o,H b=#[d]->b≠A.lt->H' b=#[d]):Zz ca H' A { S with std:=std }/\FrS A H H':=by
 have f:FrS A H H':=.one (by simp[SAd.fp]) k;have kt:=h.tups f;have ko:∀ x o,x∉A.fp->H x=#[d]->H' x=#[d]:=fun x o hx e=>f x o e hx;obtain⟨⟨n1,n2,n3,n4,n5,n6⟩,⟨n7,n8,n9,n10,n11⟩,⟨n12,n13,n14,n15⟩,⟨n16,n17,n18⟩,⟨n19,n20⟩,n21⟩:=Gj h.nd;have np:=Ja h (show A.lt∈A.fp by simp[SAd.fp]);obtain⟨⟨dx,v,a1,a2⟩,b,c,⟨kvs,d1,d2⟩,⟨vs,f1,f2⟩,⟨us',g1,g2⟩,nd,np'⟩:=h;exact⟨⟨⟨dx,v,k _ _ a1 n6,a2.keep ko kt⟩,b.keep (fun o e=>k _ o e np.1) (fun o e=>k _ o e n11) kt,c.keep (fun o e=>k _ o e np.2) (fun o e=>k _ o e n15) (fun o e=>k _ o e n18) kt,⟨kvs,k _ _ d1 n20,d2⟩,⟨vs,k _ _ f1 n21,f2.keep ko kt⟩,⟨us,hd,ok⟩,nd,np'⟩,f⟩
theorem Zz.setOld{old:List Z6}{us:#[a]}(h:#[N])(hd:#[A,H',A.ls,us])(ok:ShL ca.sheet (·∉A.fp) H' us old)(k:∀ b o,H b=#[d]->b≠A.ls->H' b=#[d]):Zz ca H' A { S with old:=old }/\FrS A H H':=by
 have f:FrS A H H':=.one (by simp[SAd.fp]) k;have kt:=h.tups f;have ko:∀ x o,x∉A.fp->H x=#[d]->H' x=#[d]:=fun x o hx e=>f x o e hx;obtain⟨⟨n1,n2,n3,n4,n5,n6⟩,⟨n7,n8,n9,n10,n11⟩,⟨n12,n13,n14,n15⟩,⟨n16,n17,n18⟩,⟨n19,n20⟩,n21⟩:=Gj h.nd;have np:=Ja h (show A.ls∈A.fp by simp[SAd.fp]);obtain⟨⟨dx,v,a1,a2⟩,b,c,⟨kvs,d1,d2⟩,⟨vs,f1,f2⟩,⟨us',g1,g2⟩,nd,np'⟩:=h;exact⟨⟨⟨dx,v,k _ _ a1 n5,a2.keep ko kt⟩,b.keep (fun o e=>k _ o e np.1) (fun o e=>k _ o e n10) kt,c.keep (fun o e=>k _ o e np.2) (fun o e=>k _ o e n14) (fun o e=>k _ o e n17) kt,⟨kvs,k _ _ d1 n19,d2⟩,⟨us,hd,ok⟩,⟨us',k _ _ g1 (Ne.symm n21),g2.keep ko kt⟩,nd,np'⟩,f⟩
theorem Zz.setLed(h:#[N])(l:Uj ca.ledger H' A.pl A.lr A.ld Rs)(k:∀ b o,H b=#[d]->b≠A.lr->b≠A.ld->H' b=#[d]):Zz ca H' A { S with led:=Rs }/\FrS A H H':=by
 have f:FrS A H H':=fun b o e hb=>k b o e #[as,hb] #[as,hb];have kt:=h.tups f;have ko:∀ x o,x∉A.fp->H x=#[d]->H' x=#[d]:=fun x o hx e=>f x o e hx;obtain⟨⟨n1,n2,n3,n4,n5,n6⟩,⟨n7,n8,n9,n10,n11⟩,⟨n12,n13,n14,n15⟩,⟨n16,n17,n18⟩,⟨n19,n20⟩,n21⟩:=Gj h.nd;have np:=Ja h (show A.lr∈A.fp by simp[SAd.fp]);have np2:=Ja h (show A.ld∈A.fp by simp[SAd.fp]);obtain⟨⟨dx,v,a1,a2⟩,b,c,⟨kvs,d1,d2⟩,⟨vs,f1,f2⟩,⟨us',g1,g2⟩,nd,np'⟩:=h;exact⟨⟨⟨dx,v,k _ _ a1 n2 n3,a2.keep ko kt⟩,b.keep (fun o e=>k _ o e np.1 np2.1) (fun o e=>k _ o e n7 n8) kt,l,⟨kvs,k _ _ d1 (Ne.symm n13) (Ne.symm n16),d2⟩,⟨vs,k _ _ f1 (Ne.symm n14) (Ne.symm n17),f2.keep ko kt⟩,⟨us',k _ _ g1 (Ne.symm n15) (Ne.symm n18),g2.keep ko kt⟩,nd,np'⟩,f⟩
theorem Nq:putF "sheet" v' (seaF A l r v)=seaF A l r v':=by
 have n1:¬ (("length":Str)="sheet"):=by decide +kernel
 have n2:¬ (("rest":Str)="sheet"):=by decide +kernel
 have n3:¬ (("roster":Str)="sheet"):=by decide +kernel
 have n4:¬ (("ledger":Str)="sheet"):=by decide +kernel
 have n5:¬ (("absent":Str)="sheet"):=by decide +kernel
 have n6:¬ (("sheets":Str)="sheet"):=by decide +kernel
 simp only[putF,seaF,#[c,n1],#[c,n2],#[c,n3],#[c,n4],#[c,n5],#[c,n6],if_true]
theorem FrS.free(f:FrS A H H')(h:Zz ca H' A S')(hl:H' l=none):H l=none:=by
 cases e:H l with
 | none=>rfl
 | some o =>
   by_cases hm:l∈A.fp
   ·obtain⟨o',e'⟩:=h.there l hm;rw[e'] at hl;cases hl
   ·rw[f l o e hm] at hl;cases hl
theorem ShAt.ins(h:ShAt ca.sheet (·∉A.fp) H q s):∃ dx l1 l2 l3 l4,H q=some (.ins ca.sheet dx (shF l1 l2 l3 l4)):=by
 obtain⟨dx,l1,l2,l3,l4,_,_,_,a1,_⟩:=h;exact⟨dx,l1,l2,l3,l4,a1⟩
theorem Zz.newSheet(h:#[N])(hp:H A.p=some (.ins ca.season dx (seaF A S.len S.rest v)))(sh:ShAt ca.sheet (·∉A.fp) H q s) :
  Zz ca (upd H A.p (.ins ca.season dx (putF "sheet" (.ref q) (seaF A S.len S.rest v)))) A { S with cur:=some s }/\FrS A H (upd H A.p (.ins ca.season dx (putF "sheet" (.ref q) (seaF A S.len S.rest v))))/\ShAt ca.sheet (·∉A.fp) (upd H A.p (.ins ca.season dx (putF "sheet" (.ref q) (seaF A S.len S.rest v)))) q s:=by
 have k:∀ b o,H b=#[d]->b≠A.p->upd H A.p (.ins ca.season dx (putF "sheet" (.ref q) (seaF A S.len S.rest v))) b=#[d]:=fun b o e n=>by rw[Zh n];exact e
 have sh':=sh.keep (H':=upd H A.p (.ins ca.season dx (putF "sheet" (.ref q) (seaF A S.len S.rest v)))) (fun x o hx e=>k x o e #[as,hx]) fun t xs e=>k t _ e (Yu e hp (fun z=>nomatch z));obtain⟨h1,h2⟩:=h.setCur (cur:=some s) (v:=.ref q) ⟨dx,by rw[Zd];exact congrArg (fun x=>some (HO.ins ca.season dx x)) Nq⟩ #[w,q,sh'] k;exact⟨h1,h2,sh'⟩
theorem Eb:putF "standing" (.ref x) (seaF A l r v)=seaF { A with lt:=x } l r v:=by
 have n1:¬ (("length":Str)="standing"):=by decide +kernel
 have n2:¬ (("rest":Str)="standing"):=by decide +kernel
 have n3:¬ (("roster":Str)="standing"):=by decide +kernel
 have n4:¬ (("ledger":Str)="standing"):=by decide +kernel
 have n5:¬ (("absent":Str)="standing"):=by decide +kernel
 have n6:¬ (("sheets":Str)="standing"):=by decide +kernel
 have n7:¬ (("sheet":Str)="standing"):=by decide +kernel
 simp only[putF,seaF,#[c,n1],#[c,n2],#[c,n3],#[c,n4],#[c,n5],#[c,n6],#[c,n7],if_true]
end
def zgw(r q:Nat):Sea:=⟨r,q,[],[],[],[],none,[]⟩
inductive zc6(ca:CA)(vs:#[a])(H:Hp)(Q:VK)(E:XK):Prop where
 | mk(p dx:Addr)(r q:Int)(_:vs=[.ref p,.int r,.int q])(_:H p=some (.ins ca.season dx []))(_:Yc r)(_:Yc q)(_:if r<0\/60<r then #[H,ca.out] else if q<0\/10<q then #[H,ca.out] else ∀ A H',A.p=p->Zz ca H' A (zgw r.toNat q.toNat)->(∀ b o,H b=some o->b≠p->H' b=some o)->(∀ x∈A.fp,x≠p->H x=none)->Q .non H')
inductive zc7(ca:CA)(vs:#[a])(H:Hp)(Q:VK)(E:XK):Prop where
 | mk(A:SAd)(S:Sea)(n g c:Int)(_:vs=[.ref A.p,.int n,.int g,.int c])(_:#[N])(_:Cy n g c)(_:S.std.length<=1000)(_:S.ppl.length<=1000)(_:if S.len<=S.led.length then #[H,ca.seaOver] else if S.cur.isSome then #[H,ca.drawn] else if badI n g c then #[H,ca.out] else if n∈S.ppl.map (·.1) then #[H,ca.known] else if 30<=S.ppl.length then #[H,ca.many] else if 100<=S.std.length then #[H,ca.manyD] else ∀ H',Zz ca H' A { S with ppl:=S.ppl++[(n,g,c)],std:=S.std++[(((("enrol":Str),n,atV S):To),S.cur)] }->FrS A H H'->Q .non H')
def zgx(S:Sea)(ms:List P3)(gv:#[a]):Sea:={ S with cur:=some ⟨ms,mayS S ms,gv,[]⟩,std:=S.std++[(((("draw up":Str),(ms.length:Int),atV S):To),S.cur)] }
inductive A4(K:Frag)(ca:CA)(vs:#[a])(H:Hp)(Q:VK)(E:XK):Prop where
 | mk(A:SAd)(S:Sea)(b:Addr)(ts:#[a])(ms:List P3)(_:#[ac,A.p,b])(_:#[N])(_:SqL K H b ts)(_:#[L,H,ms.map,pV])(_:(∀ m∈ms,S7 m))(_:ms.length<=1000)(_:S.std.length<=1000)(_:Sv S)(_:if S.len<=S.led.length then #[H,ca.seaOver] else if S.cur.isSome then #[H,ca.drawn] else (20<ms.length->#[H,ca.manyM])/\(ms.length<=20->Up ms->#[H,ca.out])/\(ms.length<=20->¬ Up ms->Vc ms->#[H,ca.same])/\(ms.length<=20->¬ Up ms->¬ Vc ms->(100<=S.std.length->∀ H',Same H H'->E (.ref ca.manyD) none H')/\(S.std.length<100->∀ l gv H',H' l=some (.lst gv)->Zz ca H' A (zgx S ms gv)->Y7 (mayS S ms) gv->Um (mayS S ms) gv->FrS A H H'->H l=none->Q (.ref l) H')))
inductive A5(ca:CA)(vs:#[a])(H:Hp)(Q:VK)(_:XK):Prop where
 | mk(A:SAd)(S:Sea)(n:Int)(s:Z6)(nu:#[t])(_:vs=[.ref A.p,.int n])(_:#[N])(_:S.cur=some s)(_:Sv S)(_:s.ms.length<=20)(_:(∀ x∈s.gv,oneV x))(_:s.gv.length<=100)(_:s.gaps.length<=500)(_:K7 (mayS S s.ms) nu)(_:(W0 s.gv n=none->∀ l H',H' l=#[x,[]]->Zz ca H' A { S with cur:=some { s with may:=mayS S s.ms } }->FrS A H H'->H l=none->#[S,l]))(_:∀ p,W0 s.gv n=some p->s.gv[p]?=#[q,n]/\(∀ j:Nat,s.gv[j]?=some (.int n)->j=p)/\Y7 (mayS S s.ms) (s.gv.set p .non)/\∀ l us st e w H',H' l=#[x,us]->TupL H' us (st.map Uk)->Xw (mayS S s.ms) (s.gv.set p .non) p st e w->Zz ca H' A { S with cur:=some ⟨s.ms,mayS S s.ms,Yv st (s.gv.set p .non),s.gaps++[(n,st)]⟩ }->FrS A H H'->H l=none->#[S,l])
def X6(S:Sea)(i n:Int):Sea:={ S with out:=S.out++[(i,n)],std:=S.std++[((("away":Str),n,i),S.cur)] }
inductive zgy(ca:CA)(vs:#[a])(H:Hp)(Q:VK)(E:XK):Prop where
 | mk(A:SAd)(S:Sea)(i n:Int)(_:vs=[.ref A.p,.int i,.int n])(_:#[N])(_:Yc i)(_:Yc n)(_:S.std.length<=1000)(_:S.out.length<=100000)(_:Sv S)(_:(∀ s,S.cur=some s->s.ms.length<=20/\Y7 s.may s.gv/\s.may=mayS S s.ms/\s.gaps.length<=500))(_:if i<1\/(S.len:Int)<i then #[H,ca.noRound] else if i<=S.led.length then #[H,ca.over] else if n∈S.ppl.map (·.1) then (if (i,n)∈S.out then ∀ H',Same H H'->E (.ref ca.away) none H' else if 100<=S.std.length then ∀ H',Same H H'->E (.ref ca.manyD) none H' else (S.cur=none\/atV S<i->∀ l H',H' l=some (.lst [])->Zz ca H' A (X6 S i n)->FrS A H H'->H l=none->Q (.ref l) H')/\(∀ s,i=atV S->S.cur=some s->W0 s.gv n=none->∀ l H',H' l=some (.lst [])->Zz ca H' A { X6 S i n with cur:=some { s with may:=mayS (X6 S i n) s.ms } }->FrS A H H'->H l=none->Q (.ref l) H')/\(∀ s p,i=atV S->S.cur=some s->W0 s.gv n=some p->∀ l us st e w H',H' l=some (.lst us)->TupL H' us (st.map Uk)->Xw (mayS (X6 S i n) s.ms) (s.gv.set p .non) p st e w->Zz ca H' A { X6 S i n with cur:=some ⟨s.ms,mayS (X6 S i n) s.ms,Yv st (s.gv.set p .non),s.gaps++[(n,st)]⟩ }->FrS A H H'->H l=none->Q (.ref l) H')) else #[H,ca.unk])
theorem Pk.put(h:Pk kvs out)(i n:Int):Pk (putK kvs [inl i,inl n] (.bl true)) (out++[(i,n)]):=by
 refine⟨fun j m=>?_,?_⟩
 ·rw[Vz];by_cases e:j=i/\m=n
  ·rw[if_pos (Oh.mpr e),zws (by rw[e.1,e.2];simp)];rfl
  ·rw[#[c,fun z=>e (Oh.mp z)],h.1 j m];by_cases hm:(j,m)∈out
   ·rw[zws hm,zws (zxb _ hm)]
   ·rw[zwx hm,zwx];intro z;rcases zwy.mp z with q|q
    ·exact hm q
    ·have:=zwt.mp q;exact e (by cases this;exact⟨rfl,rfl⟩)
 ·have:=Xr kvs ([inl i,inl n]:List Key) (.bl true);have:=h.2;rw[zwp];show _<=out.length+1;omega
theorem Pk.drop(h:Pk kvs (out++[(i,n)]))(hn:(i,n)∉out):Pk (We kvs [inl i,inl n]) out:=by
 have hv:∀ k:List Key,valV (We kvs [inl i,inl n]) k=if k=[inl i,inl n] then none else valV kvs k:=fun k=>by
  clear h
  induction kvs with
  | nil=>unfold We;simp[valV]
  | cons x kvs ih =>
    by_cases ex:x.1=[inl i,inl n]
    ·rw[zdv ex,ih];by_cases e:k=[inl i,inl n]
     ·rw[#[f,e],#[f,e]]
     ·rw[#[c,e],#[c,e],Xh fun z=>e (z.symm.trans ex)]
    ·rw[zdw ex];by_cases ek:x.1=k
     ·rw[Xp ek,Xp ek,#[c,fun z=>ex (ek.trans z)]]
     ·rw[Xh ek,Xh ek,ih]
 refine⟨fun j m=>?_,?_⟩
 ·rw[hv];by_cases e:j=i/\m=n
  ·rw[if_pos (Oh.mpr e),zwx (by rw[e.1,e.2];exact hn)];rfl
  ·rw[#[c,fun z=>e (Oh.mp z)],h.1 j m];by_cases hm:(j,m)∈out
   ·rw[zws hm,zws (zxb _ hm)]
   ·rw[zwx hm,zwx];intro z;rcases zwy.mp z with q|q
    ·exact hm q
    ·have:=zwt.mp q;exact e (by cases this;exact⟨rfl,rfl⟩)
 ·have h1:=h.1 i n;rw[zws (show (i,n)∈out++[(i,n)] by simp)] at h1;have h2:=h.2;rw[zwp] at h2;have h2:kvs.length<=out.length+1:=h2;have h3:(We kvs [inl i,inl n]).length<kvs.length:=by
   unfold We;rw[List.length_filter_lt_length_iff_exists];obtain⟨v,hv'⟩:=zx4.mp h1;unfold valV at hv';obtain⟨x,hx,_⟩:=zyg.mp hv';refine⟨x,List.mem_of_find?_eq_some hx,?_⟩;have:=List.find?_some hx;intro z;exact of_decide_eq_true z (of_decide_eq_true this)
  omega
theorem Nr(h:W0 gv n=some p):gv[p]?=#[q,n]:=by
 unfold W0 at h;have h2:#[g,gv[p]?=#[b,V.int,n]]=true:=List.find?_some (p:=fun i=>decide (gv[i]?=some (V.int n))) h;exact of_decide_eq_true h2
theorem Tw:mayS (X6 S (atV S) n) ms=without (mayS S ms) n:=by
 unfold mayS without;rw[zyd];refine zys fun m _=>?_;show Gh (X6 S (atV S) n) m=(Gh S m).filter fun x=>#[g,x≠n];unfold Gh;rw[List.filter_map,List.filter_filter]
 congr 1
 refine List.filter_congr fun x _=>?_;show (whyS S.led x.1 x.2.1 x.2.2 m.1 m.2.1 m.2.2 (pIn (S.out++[(atV S,n)]) (atV S) x) S.rest).isEmpty=(#[g,x.1≠n]&&(whyS S.led x.1 x.2.1 x.2.2 m.1 m.2.1 m.2.2 (pIn S.out (atV S) x) S.rest).isEmpty);unfold pIn;by_cases e:x.1=n
 ·have h1:#[g,(atV S,x.1)∈S.out++[(atV S,n)]]=true:=zws (by rw[e];simp);rw[h1,zwx fun z=>z e,Bool.false_and];unfold whyS bw;simp
 ·have h1:#[g,(atV S,x.1)∈S.out++[(atV S,n)]]=#[g,(atV S,x.1)∈S.out]:=by
   by_cases hm:(atV S,x.1)∈S.out
   ·rw[zws hm,zws (zxb _ hm)]
   ·rw[zwx hm,zwx];intro z;rcases zwy.mp z with q|q
    ·exact hm q
    ·have:=zwt.mp q;cases this;exact e rfl
  rw[h1,zws e,Bool.true_and]
def C3(S:Sea)(s:Z6):Sea:={ S with led:=S.led++[Ya s],old:=S.old++[s],cur:=none,std:=[] }
inductive zc8(ca:CA)(vs:#[a])(H:Hp)(Q:VK)(E:XK):Prop where
 | mk(A:SAd)(S:Sea)(_:vs=[.ref A.p])(_:#[N])(_:2*(tot S.led+1000)<=100000)(_:S.led.length<=1000)(_:S.old.length<=1000)(_:(∀ s,S.cur=some s->(∀ x∈s.gv,oneV x)/\s.gv.length=s.ms.length/\s.ms.length<=1000))(_:if S.len<=S.led.length then #[H,ca.seaOver] else (S.cur=none->#[H,ca.notDrawn])/\∀ s x H',S.cur=some s->Zz ca H' { A with lt:=x } (C3 S s)->FrS A H H'->H x=none->Q (.int (atV S)) H')
theorem Zz.freshStd(h:#[N])(hx:H x=none)(hp:H A.p=some (.ins ca.season dx (seaF A S.len S.rest v)))(hv:ShO ca.sheet (·∉A.fp) H v S.cur)
  (e:H'=upd (upd H x (.lst [])) A.p (.ins ca.season dx (putF "standing" (.ref x) (seaF A S.len S.rest v)))):Zz ca H' { A with lt:=x } { S with std:=[] }/\FrS A H H':=by
 have hpx:A.p≠x:=Zi hp hx;have k:∀ b o,H b=#[d]->b≠A.p->H' b=#[d]:=fun b o q n=>by rw[e,Zh n,Zh (Zi q hx)];exact q
 have f:FrS A H H':=.one (by simp[SAd.fp]) k;have kt:=h.tups f;have hnx:∀ y,(∃ o,H y=some o)->y≠x:=fun y ⟨o,q⟩=>Zi q hx;have okk:∀ y,(∃ o,H' y=some o)->y∉A.fp->(∃ o,H y=some o)->y∉({ A with lt:=x }:SAd).fp:=fun y _ hy hH hm=>by
  simp only[SAd.fp,zwr,zxf,or_false] at hm hy;rcases hm with q|q|q|q|q|q|q
  ·exact hy (.inl q)
  ·exact hy (.inr (.inl q))
  ·exact hy (.inr (.inr (.inl q)))
  ·exact hy (.inr (.inr (.inr (.inl q))))
  ·exact hy (.inr (.inr (.inr (.inr (.inl q)))))
  ·exact hy (.inr (.inr (.inr (.inr (.inr (.inl q))))))
  ·exact hnx y hH q
 have ok2:∀ y,(∃ o,H y=some o)->y∉A.fp->y∉({ A with lt:=x }:SAd).fp:=fun y hH hy hm=>by
  simp only[SAd.fp,zwr,zxf,or_false] at hm hy;rcases hm with q|q|q|q|q|q|q
  ·exact hy (.inl q)
  ·exact hy (.inr (.inl q))
  ·exact hy (.inr (.inr (.inl q)))
  ·exact hy (.inr (.inr (.inr (.inl q))))
  ·exact hy (.inr (.inr (.inr (.inr (.inl q)))))
  ·exact hy (.inr (.inr (.inr (.inr (.inr (.inl q))))))
  ·exact hnx y hH q
 have ko:∀ y o,y∉({ A with lt:=x }:SAd).fp->H y=#[d]->H' y=#[d]:=fun y o hy q=>k y o q #[as,hy];have there:=h.there;obtain⟨⟨n1,n2,n3,n4,n5,n6⟩,⟨n7,n8,n9,n10,n11⟩,⟨n12,n13,n14,n15⟩,⟨n16,n17,n18⟩,⟨n19,n20⟩,n21⟩:=Gj h.nd;have np:=Ja h (show A.p∈A.fp by simp[SAd.fp]);have npp:=h.np;obtain⟨⟨dx',v',a1,a2⟩,b,c,⟨kvs',d1,d2⟩,⟨vs,f1,f2⟩,⟨us,g1,g2⟩,nd,np'⟩:=h;have hpr:∃ o,H A.pr=#[d]:=by obtain⟨⟨_,_,q,_⟩,_⟩:=b;exact⟨_,q⟩
 have hpl:∃ o,H A.pl=#[d]:=by obtain⟨⟨_,q⟩,_⟩:=c;exact⟨_,q⟩
 refine⟨⟨⟨dx,v,?_,(hv.imp ok2).keep ko kt⟩,b.keep (fun o q=>k _ o q np.1) (fun o q=>k _ o q (Ne.symm n1)) kt,c.keep (fun o q=>k _ o q np.2) (fun o q=>k _ o q (Ne.symm n2)) (fun o q=>k _ o q (Ne.symm n3)) kt,⟨kvs',k _ _ d1 (Ne.symm n4),d2⟩,⟨vs,k _ _ f1 (Ne.symm n5),(f2.imp ok2).keep ko kt⟩,⟨[],?_,?_⟩,?_,⟨ok2 _ hpr npp.1,ok2 _ hpl npp.2⟩⟩,f⟩
 ·rw[e,Zd];exact congrArg (fun z=>some (HO.ins ca.season dx z)) Eb
 ·show #[A,H',x,[]];rw[e,Zh (Ne.symm hpx),Zd]
 ·exact .nil
 ·show [A.p,A.dr,A.lr,A.ld,A.da,A.ls,x].Nodup;have m:∀ y∈A.fp,y≠x:=fun y hy=>hnx y (there y hy);simp only[zxe,zwr,zxf,or_false,not_or];exact⟨⟨n1,n2,n3,n4,n5,m _ (by simp[SAd.fp])⟩,⟨n7,n8,n9,n10,m _ (by simp[SAd.fp])⟩,⟨n12,n13,n14,m _ (by simp[SAd.fp])⟩,⟨n16,n17,m _ (by simp[SAd.fp])⟩,⟨n19,m _ (by simp[SAd.fp])⟩,m _ (by simp[SAd.fp]),by simp,List.nodup_nil⟩
def zgz(S:Sea)(d:To)(ppl:RL)(out:List (Int×Int)):Prop:=(d.1="enrol"/\(∃ g c,S.ppl=ppl++[(d.2.1,g,c)])/\out=S.out)\/(d.1="away"/\ppl=S.ppl/\S.out=out++[(d.2.2,d.2.1)]/\(d.2.2,d.2.1)∉out)\/(d.1="draw up"/\ppl=S.ppl/\out=S.out)
inductive Gk(ca:CA)(vs:#[a])(H:Hp)(Q:VK)(E:XK):Prop where
 | mk(A:SAd)(S:Sea)(_:vs=[.ref A.p])(_:#[N])(_:(S.std=[]->#[H,ca.nothing]))(_:∀ std d s,S.std=std++[(d,s)]->∃ ppl out,zgz S d ppl out/\∀ t H',H' t=some (.tup (W3 d))->Zz ca H' A { S with ppl:=ppl,out:=out,cur:=s,std:=std }->FrS A H H'->#[S,t])
inductive C4(ca:CA)(vs:#[a])(H:Hp)(Q:VK)(_:XK):Prop where
 | mk(A:SAd)(S:Sea)(_:vs=[.ref A.p])(_:#[N])(_:S.std.length<=1000)(_:∀ l ts H',H' l=#[x,ts]->#[L,H',S.std.map,fun x=>W3 x.1]->#[v]->H l=none->Q (.ref l) H')
inductive Gm(ca:CA)(vs:#[a])(H:Hp)(Q:VK)(_:XK):Prop where
 | mk(A:SAd)(S:Sea)(_:vs=[.ref A.p])(_:#[N])(_:#[az,l,S.ppl.map,fun x=>V.int x.1,Q,l])
inductive Dx(ca:CA)(vs:#[a])(H:Hp)(Q:VK)(E:XK):Prop where
 | mk(A:SAd)(S:Sea)(n:Int)(_:vs=[.ref A.p,.int n])(_:#[N])(_:Yc n)(_:(n∉S.ppl.map (·.1)->#[H,ca.unk]))(_:∀ g c t,(n,g,c)∈S.ppl->H t=#[E,#[M,g,c]]->Q (.ref t) H)
inductive A6(ca:CA)(vs:#[a])(H:Hp)(Q:VK)(E:XK):Prop where
 | mk(A:SAd)(S:Sea)(i n:Int)(_:vs=[.ref A.p,.int i,.int n])(_:#[N])(_:Yc i)(_:Yc n)(_:if i<1\/(S.len:Int)<i then #[H,ca.noRound] else if n∈S.ppl.map (·.1) then ∀ H',#[v]->Q (.bl (decide ((i,n)∈S.out))) H' else #[H,ca.unk])
def C5(ca:CA)(H:Hp)(S:Sea)(i:Int)(E:XK)(k:Z6->Prop):Prop:=Yc i/\S.old.length=S.led.length/\if i<1\/(S.len:Int)<i then #[H,ca.noRound] else (V2 S i=none->#[H,ca.notDrawn])/\∀ s,V2 S i=some s->k s
inductive Dy(ca:CA)(vs:#[a])(H:Hp)(Q:VK)(E:XK):Prop where
 | mk(A:SAd)(S:Sea)(i:Int)(_:vs=[.ref A.p,.int i])(_:#[N])(_:C5 ca H S i E fun s=>∀ l ts H',H' l=#[x,ts]->#[L,H',s.ms.map,pV]->#[v]->H l=none->#[S,l])
inductive zbr(ca:CA)(vs:#[a])(H:Hp)(Q:VK)(E:XK):Prop where
 | mk(A:SAd)(S:Sea)(i:Int)(_:vs=[.ref A.p,.int i])(_:#[N])(_:C5 ca H S i E fun s=>∀ l H',H' l=#[x,s.gv]->#[v]->H l=none->#[S,l])
inductive zja(ca:CA)(vs:#[a])(H:Hp)(Q:VK)(E:XK):Prop where
 | mk(A:SAd)(S:Sea)(i:Int)(_:vs=[.ref A.p,.int i])(_:#[N])(_:Yc i)(_:(S.cur=none->#[H,ca.notDrawn]))(_:∀ s,S.cur=some s->s.may.length=s.ms.length/\(i<0\/(s.ms.length:Int)<=i->#[H,ca.noMatch])/\∀ (k:Nat) r,i=(k:Int)->s.may[k]?=some r->∀ l H',H' l=some #[i,r.map,V.int]->#[v]->H l=none->#[S,l])
theorem Tz(ks:#[D]):∀ {fs:List (Str×V)},fs.map (·.1)=ks->(ks.all fun x=>!#[g,x=f])=true->putF f v fs=fs++[(f,v)]:=by
 intro fs hk h;subst hk
 induction fs with
 | nil=>rfl
 | cons x fs ih =>
   rw[zwz,List.all_cons,zyf,Bool.not_eq_true',decide_eq_false_iff_not] at h;obtain⟨k,y⟩:=x;show (if k=f then _ else _)=_;rw[#[c,h.1],ih h.2];rfl
def sF1(l:V):#[ab]:=[("length",l)]
def sF2(l r:V):#[ab]:=[("length",l),("rest",r)]
def sF3(l r a:V):#[ab]:=[("length",l),("rest",r),("roster",a)]
def sF4(l r a b:V):#[ab]:=[("length",l),("rest",r),("roster",a),("ledger",b)]
def sF5(l r a b c:V):#[ab]:=[("length",l),("rest",r),("roster",a),("ledger",b),("absent",c)]
def sF6(l r a b c d:V):#[ab]:=[("length",l),("rest",r),("roster",a),("ledger",b),("absent",c),("sheets",d)]
def sF7(l r a b c d e:V):#[ab]:=[("length",l),("rest",r),("roster",a),("ledger",b),("absent",c),("sheets",d),("sheet",e)]
def sF8(l r a b c d e f:V):#[ab]:=[("length",l),("rest",r),("roster",a),("ledger",b),("absent",c),("sheets",d),("sheet",e),("standing",f)]
theorem pF1:putF "length" l []=sF1 l:=rfl
theorem pF2:putF "rest" r (sF1 l)=sF2 l r:=Tz ["length"] rfl ⋯
theorem pF3:putF "roster" a (sF2 l r)=sF3 l r a:=Tz ["length","rest"] rfl ⋯
theorem pF4:putF "ledger" b (sF3 l r a)=sF4 l r a b:=Tz ["length","rest","roster"] rfl ⋯
theorem pF5:putF "absent" c (sF4 l r a b)=sF5 l r a b c:=Tz ["length","rest","roster","ledger"] rfl ⋯
theorem pF6:putF "sheets" d (sF5 l r a b c)=sF6 l r a b c d:=Tz ["length","rest","roster","ledger","absent"] rfl ⋯
theorem pF7:putF "sheet" e (sF6 l r a b c d)=sF7 l r a b c d e:=Tz ["length","rest","roster","ledger","absent","sheets"] rfl ⋯
theorem pF8:putF "standing" f (sF7 l r a b c d e)=sF8 l r a b c d e f:=Tz ["length","rest","roster","ledger","absent","sheets","sheet"] rfl ⋯
theorem V3.free{p:Addr}{H H':Hp}{x:Addr}(hb:∀ b o,H b=#[d]->b≠p->H' b=#[d])(hp:∃ o,H' p=#[d])(hx:H' x=none):H x=none:=by
 cases e:H x with
 | none=>rfl
 | some o =>
   by_cases z:x=p
   ·subst z;obtain⟨o',q⟩:=hp;rw[q] at hx;cases hx
   ·rw[hb x o e z] at hx;cases hx
def V3(p:Addr)(H H':Hp):Prop:=∀ b o,H b=#[d]->b≠p->H' b=#[d]
theorem V3.trans(a:V3 p H1 H2)(b:V3 p H2 H3):V3 p H1 H3:=fun x o e n=>b x o (a x o e n) n
theorem V3.of(a:Same H1 H2):V3 p H1 H2:=fun x o e _=>a x o e
theorem V3.put:V3 p H (upd H p o):=fun x o e n=>by rw[Zh n];exact e
end G
namespace L2
open PySem PySem.Spec PyProof.Rows
theorem zbs:Vx X (.type "dict") (fun xs H Q=>∃ a kvs,xs=[.ref a]/\Rd H a (.dK kvs)/\∀ p,H p=none->Q (.ref p) (upd H p (.dK kvs))):=by
 intro pins s σ H xs us Q I r h;obtain⟨a,kvs,rfl,ha,q⟩:=h;obtain⟨u,rfl,ru⟩:=Qq r;cases (show u=Value.ref a from ru);exact zfu I ha fun p s' hp I'=>⟨.ref p,_,I',rfl,q p hp⟩
end L2
namespace G
open PySem PySem.Spec PyProof.Rows L2
def Jb:#[t]:=[0,1,2,3,4,5,6,7,8,9,10,0,0,0,1,1,1,2,2,0,1,3]
inductive A7(K:Frag)(vs:#[a])(H:Hp)(Q:VK)(_:XK):Prop where
 | mk(b:Addr)(ns:#[t])(_:vs=[.ref b])(_:SqL K H b (ns.map V.int))(_:∀ (q:Nat) H',q=(Jb.getD (Wb ns 1%22).toNat 0).toNat->q<=10->#[v]->Q (.int q) H')
inductive A8(K:Frag)(vs:#[a])(H:Hp)(Q:VK)(_:XK):Prop where
 | mk(b:Addr)(ns:#[t])(k:Nat)(_:vs=[.ref b,.int k])(_:SqL K H b (ns.map V.int))(_:k<ns.length)(_:∀ c H',#[v]->Q (.int c) H')
structure Nt(H:Hp)(t lc ln:Addr)(cs nu:#[t]):Prop where
 tup:H t=#[b,.tup,[.ref lc,.ref ln]]
 clubs:H lc=some #[i,cs.map,V.int]
 nums:H ln=some #[i,nu.map,V.int]
 few:3<=cs.length/\cs.length<=10
 cnd:cs.Nodup
 crng:∀ c∈cs,1<=c/\c<=99
 nfew:1<=nu.length/\nu.length<=30
 nnd:nu.Nodup
 nrng:∀ n∈nu,1<=n/\n<=999
theorem Nt.same{H H':Hp}{t lc ln:Addr}{cs nu:#[t]}(h:Nt H t lc ln cs nu)(e:#[v]):Nt H' t lc ln cs nu:=⟨e _ _ h.tup,e _ _ h.clubs,e _ _ h.nums,h.few,h.cnd,h.crng,h.nfew,h.nnd,h.nrng⟩
inductive A9(K:Frag)(vs:#[a])(H:Hp)(Q:VK)(_:XK):Prop where
 | mk(b:Addr)(ns:#[t])(cr:Nat)(_:vs=[.ref b,.int cr])(_:SqL K H b (ns.map V.int))(_:1<=cr)(_:cr<=30)(_:∀ t lc ln cs nu H',Nt H' t lc ln cs nu->nu.length=cr->#[v]->H t=none->H lc=none->H ln=none->#[S,t])
theorem zaa(c:Int)(hi:i<10)(hj:j<10)(h:Df c i=Df c j):i=j:=by
 unfold Df at h;have hs:Ct c=1\/Ct c=2\/Ct c=5\/Ct c=10\/Ct c=50\/Ct c=97\/Ct c=98:=by
  unfold Ct;have h0:0<=c%7:=by omega
  have h1:c%7<7:=by omega
  generalize c%7=r at h0 h1;obtain⟨k,rfl⟩:∃ k:Nat,r=k:=⟨r.toNat,by omega⟩;rw[zw2];have hk:k<7:=by omega
  match k,hk with
  | 0,_=>simp
  | 1,_=>simp
  | 2,_=>simp
  | 3,_=>simp
  | 4,_=>simp
  | 5,_=>simp
  | 6,_=>simp
 generalize c/7=x at h;rcases hs with e|e|e|e|e|e|e<;>rw[e] at h<;>omega
theorem zab(c:Int)(hm:m<=10):(Pf c m).Nodup:=by
 unfold Pf;rw[zya,List.pairwise_map];refine List.Pairwise.imp_of_mem (fun {i j} hi hj (hne:i≠j) z=>?_) (zya.mp List.nodup_range);exact hne (zaa c (by have:=zxs.mp hi;omega) (by have:=zxs.mp hj;omega) z)
theorem zej(c:Int)(m:Nat):∀ n∈Pf c m,1<=n/\n<=99:=fun n hn=>by
 unfold Pf at hn;obtain⟨j,_,rfl⟩:=zwv.mp hn;unfold Df;omega
theorem zac(c:Int)(hm:m<=40):(K5 c m).Nodup:=by
 unfold K5;rw[zya,List.pairwise_map];refine List.Pairwise.imp_of_mem (fun {i j} hi hj (hne:i≠j) z=>?_) (zya.mp List.nodup_range);exact hne (zgd c (by have:=zxs.mp hi;omega) (by have:=zxs.mp hj;omega) z)
theorem zek(c:Int)(m:Nat):∀ n∈K5 c m,1<=n/\n<=999:=fun n hn=>by
 unfold K5 at hn;obtain⟨j,_,rfl⟩:=zwv.mp hn;unfold zd1;omega
inductive Xx where
 | enrol (n g c:Int)|away (i n:Int)|draw (ms:List P3)|close|back
def Xy(ok:Addr->Prop)(H:Hp)(t:Addr):Xx->Prop
 | .enrol n g c=>H t=#[b,.tup,[.str "enrol",.int n,.int g,.int c]]
 | .away i n=>H t=#[b,.tup,[.str "away",.int i,.int n]]
 | .draw ms=>∃ l ts,H t=#[E,[.str "draw up",.ref l]]/\H l=#[x,ts]/\#[L,H,ms.map,pV]/\ok l
 | .close=>H t=#[b,.tup,[.str "close"]]
 | .back=>H t=#[b,.tup,[.str "take back"]]
def zad(S:Sea):Prop:=∀ s,S.cur=some s->s.ms.length<=20/\Y7 s.may s.gv/\Um s.may s.gv/\s.may=mayS S s.ms/\s.gaps.length<=S.std.length
def Rx(S S':Sea):Prop:=∃ d:To,S'.std=S.std++[(d,S.cur)]/\zgz S' d S.ppl S.out/\S'.len=S.len/\S'.rest=S.rest/\S'.led=S.led/\S'.old=S.old
def Pn(S:Sea):Xx->Prop
 | .enrol n g c=>S.led.length<S.len/\S.cur=none/\¬ badI n g c/\n∉S.ppl.map (·.1)/\S.ppl.length<30
 | .away i n=>(S.led.length:Int)<i/\i<=S.len/\n∈S.ppl.map (·.1)/\(i,n)∉S.out
 | .draw ms=>S.led.length<S.len/\S.cur=none/\ms.length<=20/\(∀ m∈ms,¬ badM m)/\∀ m∈ms,m.1≠m.2.1
 | .close=>S.led.length<S.len/\S.cur≠none
 | .back=>S.std≠[]
inductive Ul(H':Hp)(S:Sea):Xx->Sea->V->Prop where
 | enrol (n g c:Int):Ul H' S (.enrol n g c) { S with ppl:=S.ppl++[(n,g,c)],std:=S.std++[(((("enrol":Str),n,atV S):To),S.cur)] } .non
 | awayN {i n:Int} {l:Addr} (h:S.cur=none\/atV S<i) (hl:#[A,H',l,[]]):Ul H' S (.away i n) (X6 S i n) (.ref l)
 | awayF {n:Int} {s:Z6} {l:Addr} (h:S.cur=some s) (hp:W0 s.gv n=none) (hl:#[A,H',l,[]]):Ul H' S (.away (atV S) n) { X6 S (atV S) n with cur:=some { s with may:=mayS (X6 S (atV S) n) s.ms } } (.ref l)
 | awayC {n:Int} {s:Z6} {p e:Nat} {l:Addr} {us:#[a]} {st:#[K]} {w:#[G]} (h:S.cur=some s) (hp:W0 s.gv n=some p) (hl:#[A,H',l,us]) (tl:TupL H' us (st.map Uk)) (CR:Xw (mayS (X6 S (atV S) n) s.ms) (s.gv.set p .non) p st e w) :
   Ul H' S (.away (atV S) n) { X6 S (atV S) n with cur:=some ⟨s.ms,mayS (X6 S (atV S) n) s.ms,Yv st (s.gv.set p .non),s.gaps++[(n,st)]⟩ } (.ref l)
 | draw {ms:List P3} {gv:#[a]} {l:Addr} (hl:#[A,H',l,gv]) (F:Y7 (mayS S ms) gv) (T:Um (mayS S ms) gv):Ul H' S (.draw ms) (zgx S ms gv) (.ref l)
 | close {s:Z6} (h:S.cur=some s):Ul H' S .close (C3 S s) (.int (atV S))
 | back {S0:Sea} {d:To} {t:Addr} (h:S.std=S0.std++[(d,S0.cur)]) (ht:H' t=some (.tup (W3 d))) (hs:Rx S0 S):Ul H' S .back S0 (.ref t)
def Qu(A A':SAd)(H:Hp):Prop:=∃ x,A'={ A with lt:=x }/\(x=A.lt\/H x=none)
inductive zm0(K:Frag)(ca:CA)(vs:#[a])(H:Hp)(Q:VK)(_:XK):Prop where
 | mk(A:SAd)(S:Sea)(t:Addr)(d:Xx)(_:#[ac,A.p,t])(_:#[N])(_:Xy (·∉A.fp) H t d)(_:Pn S d)(_:zad S)(_:Sv S)(_:S.std.length<100)(_:S.out.length<=100000)(_:2*(tot S.led+1000)<=100000)(_:S.led.length<=1000)(_:S.old.length<=1000)(_:S.len<=1000)(_:(∀ i n,d=.away i n->Yc n))(_:(d=.back->∃ S0,Rx S0 S))(_:∀ v A' S' H',Ul H' S d S' v->Zz ca H' A' S'->Qu A A' H->FrS A H H'->(∀ l,v=.ref l->(∃ xs,H' l=some (.lst xs))->H l=none)->Q v H')
abbrev X2(b:List Stmt)(i:Nat):Stmt:=b.getD i (.Pass ⟨0,0,0,0⟩)
def zim:Stmt->Expr|.Return (some e) _=>e|_=>.Constant .none 0 ⟨0,0,0,0⟩
def stP:Stmt->Pos|.Return _ p=>p|.Assign _ _ p=>p|_=>⟨0,0,0,0⟩
def zg0:Stmt->List Expr|.Assign ts _ _=>ts|_=>[]
def Ou:Stmt->Expr|.Assign _ v _=>v|_=>.Constant .none 0 ⟨0,0,0,0⟩
def zae:Expr->Expr|.Subscript a _ _=>a|e=>e
def zin:Expr->Expr|.Subscript _ b _=>b|e=>e
def zio:Expr->Pos|.Subscript _ _ p=>p|_=>⟨0,0,0,0⟩
def zel:Expr->List Expr|.List es _=>es|_=>[]
def zem:Expr->Pos|.List _ p=>p|_=>⟨0,0,0,0⟩
def Jc:#[t]->TA
 | []=>tNil
 | x :: xs=>Te (tC (.int x)) (Jc xs)
theorem Dz:∀ (xs:List Int) (σ:L2.St) (H:Hp) (Q:List V->Hp->Prop),Q (xs.map V.int) H->Jc xs σ H Q
 | [],_,_,_,h=>h
 | x :: xs,σ,H,Q,h=>Dz xs σ H (fun ys H2=>Q (.int x :: ys) H2) h
structure Gn(es:List Expr)(xs:#[t]):Prop where
 len:es.length=xs.length
 same:List.zipWith (fun i (e:Expr)=>Expr.Constant (.int i) 0 e.pos) xs es=es
theorem Ol(xs:#[t])(h:Gn es xs):PA X es (Jc xs):=by
 obtain⟨h1,h2⟩:=h
 induction xs generalizing es with
 | nil =>
   have:=List.length_eq_zero_iff.mp h1;subst this;exact Zc
 | cons x xs ih =>
   cases es with
   | nil=>cases h1
   | cons e es =>
     rw[List.zipWith_cons_cons] at h2;obtain⟨e1,e2⟩:=List.cons.inj h2;rw[<- e1];exact Za Zg (ih (Nat.succ.inj h1) e2) rfl
theorem zaf(xs:#[t])(hz:xs.length<=1000)(h:∀ l,H l=none->Q (.ref l) (upd H l #[i,xs.map,V.int])):tLst (Jc xs) σ H Q:=by
 refine Dz xs σ H _ ⟨?_,h⟩;rw[zwm];exact szN hz
theorem zc9{K:Frag}(xs:#[t]){ti:TE}{σ:L2.St}{H:Hp}{Q:VK}(hz:xs.length<=1000)(h:∀ l H1,H1 l=some #[i,xs.map,V.int]->Same H H1->H l=none->ti σ H1 fun y H2=>Fw K (.ref l) y H2 Q):tOp (Fw K) (tLst (Jc xs)) ti σ H Q :=
 zaf xs hz fun l hl=>h l _ Zd (Ze hl) hl
theorem zkt{K:Frag}(xs:#[t]){ti:TE}{D:Q7}{σ:L2.St}{H:Hp}(hz:xs.length<=1000)(h:∀ l H1,H1 l=some #[i,xs.map,V.int]->Same H H1->H l=none->ti σ H1 fun y H2=>Fw K (.ref l) y H2 D.rt):zk5 (tOp (Fw K) (tLst (Jc xs)) ti) D σ H:=zc9 (Q:=D.rt) xs hz h
theorem zku{K:Frag}(xs:#[t]){ti:TE}{i:Nat}{u:TS}{D:Q7}{σ:L2.St}{H:Hp}(hz:xs.length<=1000)(h:∀ l H1,H1 l=some #[i,xs.map,V.int]->Same H H1->H l=none->ti σ H1 fun y H2=>Fw K (.ref l) y H2 fun x H3=>u D (σ.set i (some x)) H3):Z1 (Bs (tOp (Fw K) (tLst (Jc xs)) ti) (Ws i)) u D σ H:=zc9 xs hz h
theorem zag(xs:#[t])(hz:xs.length<=1000)(h:∀ l H1,H1 l=some #[i,xs.map,V.int]->Same H H1->H l=none->u D (σ.set i #[e,l]) H1):Z1 (Bs (tLst (Jc xs)) (Ws i)) u D σ H :=
 zaf (σ:=σ) (H:=H) (Q:=fun x H3=>u D (σ.set i (some x)) H3) xs hz fun l hl=>h l _ Zd (Ze hl) hl
theorem Ov:#[g,V.str a=V.str a]=true:=zws rfl
theorem Wn(h:#[g,a=b]=false):#[g,V.str a=V.str b]=false:=zwx fun z=>of_decide_eq_false h (V.str.inj z)
theorem Qu.refl(A:SAd)(H:Hp):Qu A A H:=#[w,A.lt,.inl rfl]
abbrev zkv:=List (Int×#[K])
structure Pg where
 len:Nat
 rest:Nat
 ppl:RL
 out:List (Int×Int)
 over:List Z6
 deed:Option To
 lis:Option (List P3)
 gv:#[a]
 mv:zkv
def pgF(len rest:Nat)(lp lo lv:Addr)(dv li:V)(lg lm:Addr):#[W]:=[(.inr "rounds",.int len),(.inr "rest",.int rest),(.inr "people",.ref lp),(.inr "out",.ref lo),(.inr "over",.ref lv),(.inr "deed",dv),(.inr "listed",li),(.inr "goes",.ref lg),(.inr "moves",.ref lm)]
def oiV(x:Int×Int):#[a]:=#[M,x.1,x.2]
def Mw(ok:Addr->Prop)(H:Hp)(v:V):Option (List P3)->Prop
 | none=>v=.non
 | some ms=>∃ l ts,v=.ref l/\H l=#[x,ts]/\#[L,H,ms.map,pV]/\ok l
def zah(H:Hp)(v:V):Option To->Prop
 | none=>v=.non
 | some d=>∃ t,v=.ref t/\H t=some (.tup (W3 d))
inductive Xq(ok:Addr->Prop)(H:Hp):#[a]->List Z6->Prop where
 | nil:Xq ok H [] []
 | cons {t l g m y:Addr} {ts mts:#[a]} {ls:#[B]} {s:Z6} {vs:#[a]} {ss:List Z6} (h:H t=#[b,.tup,[.ref l,.ref g,.ref m,.ref y]]) (hl:#[A,H,l,ts]) (tl:#[L,H,s.ms.map,pV]) (hg:#[A,H,g,s.gv]) (hm:#[A,H,m,mts]) (gm:Wx ok H mts s.gaps)
   (hy:H y=some #[i,ls.map,V.ref]) (iy:ILs H ls s.may) (o:ok l/\ok g/\ok m/\ok y/\∀ x∈ls,ok x) (r:Xq ok H vs ss):Xq ok H (.ref t :: vs) (s :: ss)
theorem Mw.keep(h:Mw ok H v x)(k:#[aw,x,x])(kt:#[aj]):Mw ok H' v x:=by
 cases x with
 | none=>exact h
 | some ms=>obtain⟨l,ts,e,a,b,o⟩:=h;exact⟨l,ts,e,k _ _ o a,b.mono kt,o⟩
theorem Mw.imp(h:Mw ok H v x)(k:#[ay]):Mw ok' H v x:=by
 cases x with
 | none=>exact h
 | some ms=>obtain⟨l,ts,e,a,b,o⟩:=h;exact⟨l,ts,e,a,b,k _ ⟨_,a⟩ o⟩
theorem zah.keep(h:zah H v x)(kt:#[aj]):zah H' v x:=by
 cases x with
 | none=>exact h
 | some d=>obtain⟨t,e,a⟩:=h;exact⟨t,e,kt _ _ a⟩
theorem Xq.keep(k:#[aw,x,x])(kt:#[aj]):∀ {vs:List V} {ss:List Z6},Xq ok H vs ss->Xq ok H' vs ss
 | _,_,.nil=>.nil
 | _,_,.cons h hl tl hg hm gm hy iy o r=>.cons (kt _ _ h) (k _ _ o.1 hl) (tl.mono kt) (k _ _ o.2.1 hg) (k _ _ o.2.2.1 hm) (gm.keep k kt) (k _ _ o.2.2.2.1 hy) (iy.keep fun x hx _ q=>k _ _ (o.2.2.2.2 x hx) q) o (Xq.keep k kt r)
theorem Xq.imp(k:#[ay]):∀ {vs:List V} {ss:List Z6},Xq ok H vs ss->Xq ok' H vs ss
 | _,_,.nil=>.nil
 | _,_,.cons h hl tl hg hm gm hy iy o r=>.cons h hl tl hg hm (gm.imp k) hy iy ⟨k _ ⟨_,hl⟩ o.1,k _ ⟨_,hg⟩ o.2.1,k _ ⟨_,hm⟩ o.2.2.1,k _ ⟨_,hy⟩ o.2.2.2.1,fun x hx=>k _ (let ⟨_,z⟩:=iy.has hx;⟨_,z⟩) (o.2.2.2.2 x hx)⟩ (Xq.imp k r)
theorem Xq.length:∀ {vs:List V} {ss:List Z6},Xq ok H vs ss->vs.length=ss.length
 | _,_,.nil=>rfl
 | _,_,.cons _ _ _ _ _ _ _ _ _ r=>by simp[Xq.length r]
theorem Xq.snoc(h:H t=#[b,.tup,[.ref l,.ref g,.ref m,.ref y]])(hl:#[A,H,l,ts])(tl:#[L,H,s.ms.map,pV])(hg:#[A,H,g,s.gv])(hm:#[A,H,m,mts])(gm:Wx ok H mts s.gaps)
   (hy:H y=some #[i,ls.map,V.ref]) (iy:ILs H ls s.may) (o:ok l/\ok g/\ok m/\ok y/\∀ x∈ls,ok x):∀ {vs:List V} {ss:List Z6},Xq ok H vs ss->Xq ok H (vs++[.ref t]) (ss++[s])
 | _,_,.nil=>.cons h hl tl hg hm gm hy iy o .nil
 | _,_,.cons h' hl' tl' hg' hm' gm' hy' iy' o' r=>.cons h' hl' tl' hg' hm' gm' hy' iy' o' (Xq.snoc h hl tl hg hm gm hy iy o r)
theorem Xq.get:∀ {vs:List V} {ss:List Z6} {i:Nat} {x:V},Xq ok H vs ss->vs[i]?=some x->∃ t l g m y ts s,x=.ref t/\ss[i]?=some s/\H t=#[E,[.ref l,.ref g,.ref m,.ref y]]/\H l=#[x,ts]/\#[L,H,s.ms.map,pV]/\H g=#[x,s.gv]/\ok l/\ok g
 | _,_,_,_,.nil,e=>by simp at e
 | _,_,0,_,.cons h hl tl hg _ _ _ _ o _,e=>by simp at e;subst e;exact⟨_,_,_,_,_,_,_,rfl,rfl,h,hl,tl,hg,o.1,o.2.1⟩
 | _,_,i+1,x,.cons _ _ _ _ _ _ _ _ _ r,e=>by
   obtain⟨t,l,g,m,y,ts,s,h1,h2,h3⟩:=Xq.get (i:=i) (x:=x) r (by simpa using e);exact⟨t,l,g,m,y,ts,s,h1,by simpa using h2,h3⟩
structure PgAt(ok:Addr->Prop)(H:Hp)(d:Addr)(P:Pg):Prop where
 ex:∃ lp lo lv dv li lg lm pts ots vts mts,H d=#[b,.dK,pgF P.len P.rest lp lo lv dv li lg lm]/\H lp=#[x,pts]/\TupL H pts (P.ppl.map pV)/\H lo=#[x,ots]/\TupL H ots (P.out.map oiV)/\H lv=#[x,vts]/\Xq ok H vts P.over/\zah H dv P.deed/\Mw ok H li P.lis/\H lg=#[x,P.gv]/\H lm=#[x,mts]/\Wx ok H mts P.mv /\
  (ok d/\ok lp/\ok lo/\ok lv/\ok lg/\ok lm)
theorem PgAt.keep(h:PgAt ok H d P)(k:#[aw,x,x])(kt:#[aj]):PgAt ok H' d P:=by
 obtain⟨lp,lo,lv,dv,li,lg,lm,pts,ots,vts,mts,a1,a2,a3,a4,a5,a6,a7,a8,a9,b1,b2,b3,o1,o2,o3,o4,o5,o6⟩:=h;exact⟨lp,lo,lv,dv,li,lg,lm,pts,ots,vts,mts,k _ _ o1 a1,k _ _ o2 a2,a3.mono kt,k _ _ o3 a4,a5.mono kt,k _ _ o4 a6,a7.keep k kt,a8.keep kt,a9.keep k kt,k _ _ o5 b1,k _ _ o6 b2,b3.keep k kt,o1,o2,o3,o4,o5,o6⟩
theorem PgAt.imp(h:PgAt ok H d P)(k:#[ay]):PgAt ok' H d P:=by
 obtain⟨lp,lo,lv,dv,li,lg,lm,pts,ots,vts,mts,a1,a2,a3,a4,a5,a6,a7,a8,a9,b1,b2,b3,o1,o2,o3,o4,o5,o6⟩:=h;exact⟨lp,lo,lv,dv,li,lg,lm,pts,ots,vts,mts,a1,a2,a3,a4,a5,a6,a7.imp k,a8,a9.imp k,b1,b2,b3.imp k,k _ ⟨_,a1⟩ o1,k _ ⟨_,a2⟩ o2,k _ ⟨_,a4⟩ o3,k _ ⟨_,a6⟩ o4,k _ ⟨_,b1⟩ o5,k _ ⟨_,b2⟩ o6⟩
theorem PgAt.same(h:PgAt ok H d P)(e:#[v]):PgAt ok H' d P:=h.keep (fun _ _ _ q=>e _ _ q) fun _ _ q=>e _ _ q
section
variable{len rest:Nat}{lp lo lv lg lm:Addr}{dv li:V}
theorem zbt:putK (pgF len rest lp lo lv dv li lg lm) (.inr "people") (.ref x)=pgF len rest x lo lv dv li lg lm:=rfl
theorem ziq:putK (pgF len rest lp lo lv dv li lg lm) (.inr "out") (.ref x)=pgF len rest lp x lv dv li lg lm:=rfl
theorem zg1:putK (pgF len rest lp lo lv dv li lg lm) (.inr "over") (.ref x)=pgF len rest lp lo x dv li lg lm:=rfl
theorem Gp:putK (pgF len rest lp lo lv dv li lg lm) (.inr "deed") v=pgF len rest lp lo lv v li lg lm:=rfl
theorem Gq:putK (pgF len rest lp lo lv dv li lg lm) (.inr "listed") v=pgF len rest lp lo lv dv v lg lm:=rfl
theorem zai:putK (pgF len rest lp lo lv dv li lg lm) (.inr "goes") (.ref x)=pgF len rest lp lo lv dv li x lm:=rfl
theorem zen:putK (pgF len rest lp lo lv dv li lg lm) (.inr "moves") (.ref x)=pgF len rest lp lo lv dv li lg x:=rfl
end
theorem zg2{len rest:Nat}{lp lo lv lg lm:Addr}{dv li:V}:(pgF len rest lp lo lv dv li lg lm).length<sizeLine:=by rw[sizeLine_eq];show 9<_;decide
def pg6(len rest:Nat)(lp lo lv:Addr)(dv:V):#[W]:=[(.inr "rounds",.int len),(.inr "rest",.int rest),(.inr "people",.ref lp),(.inr "out",.ref lo),(.inr "over",.ref lv),(.inr "deed",dv)]
theorem zeo{len rest:Nat}{lp lo lv:Addr}{dv:V}:R9 [] (pg6 len rest lp lo lv dv)=pg6 len rest lp lo lv dv:=rfl
theorem zir{len rest:Nat}{lp lo lv:Addr}{dv x y z:V}:putK (putK (putK (pg6 len rest lp lo lv dv) (.inr "listed") x) (.inr "goes") y) (.inr "moves") z=pg6 len rest lp lo lv dv++[(.inr "listed",x),(.inr "goes",y),(.inr "moves",z)]:=rfl
theorem Ke{len rest:Nat}{lp lo lv:Addr}{dv x y:V}:(pg6 len rest lp lo lv dv).length<sizeLine/\(putK (pg6 len rest lp lo lv dv) (.inr "listed") x).length<sizeLine/\(putK (putK (pg6 len rest lp lo lv dv) (.inr "listed") x) (.inr "goes") y).length<sizeLine:=by
 rw[sizeLine_eq];exact⟨by show 6<_;decide,by show 7<_;decide,by show 8<_;decide⟩
def zbu(r q:Nat):Pg:=⟨r,q,[],[],[],none,none,[],[]⟩
inductive zda(vs:#[a])(H:Hp)(Q:VK)(_:XK):Prop where
 | mk(r q:Nat)(_:vs=#[M,r,q])(_:∀ d H',PgAt (fun x=>H x=none) H' d (zbu r q)->#[v]->H d=none->#[S,d])
def Kf(P:Pg):Prop:=P.over.length<=100/\P.rest<=100/\∀ s∈P.over,s.ms.length<=20/\s.gv.length=s.ms.length/\∀ x∈s.gv,oneV x
def zg3(kvs:List (List Key×V))(P:Pg):Prop:=∀ n c:Int,(valV kvs [inl n,inl c]).isSome=Qs (P.over.map Ya) n c P.rest
inductive zdb(K:Frag)(vs:#[a])(H:Hp)(Q:VK)(_:XK):Prop where
 | mk(ok:Addr->Prop)(d:Addr)(P:Pg)(_:vs=[.ref d])(_:PgAt ok H d P)(_:Kf P)(_:∀ m kvs H',H' m=#[b,.dT,kvs]->zg3 kvs P->#[v]->H m=none->#[S,m])
theorem zg4(xs:#[a])(n r:Nat):Nd xs (some (if ((n:Int)-r)>0 then (n:Int)-r else 0)) none=xs.drop ((n:Int)-r).toNat:=by
 have e:(if ((n:Int)-r)>0 then (n:Int)-r else 0)=((((n:Int)-r).toNat:Nat):Int):=by split<;>omega
 rw[e];exact zd9 xs _
theorem Xq.drop:∀ (k:Nat) {vs:List V} {ss:List Z6},Xq ok H vs ss->Xq ok H (vs.drop k) (ss.drop k)
 | 0,_,_,h=>h
 | _+1,_,_,.nil=>.nil
 | k+1,_,_,.cons _ _ _ _ _ _ _ _ _ r=>Xq.drop k r
def HitI(ss:List Z6)(i j:Nat)(n c:Int):Prop:=(∃ s∈ss.take i,∃ r∈Ya s,hit n c r=true)\/∃ s,ss[i]?=some s/\∃ r∈(Ya s).take j,hit n c r=true
def Nu(kvs:List (List Key×V))(ss:List Z6)(i j:Nat):Prop:=∀ n c:Int,(valV kvs [inl n,inl c]).isSome=true↔HitI ss i j n c
theorem Xo{α:Type}{l:List α}{j:Nat}{x:α}(h:l[j]?=some x):l.take (j+1)=l.take j++[x]:=by rw[zxy,h];rfl
theorem Nu.zero(ss:List Z6):Nu [] ss 0 0:=fun n c=>by
 unfold HitI;simp[zfn]
theorem Nu.next{kvs:List (List Key×V)}{ss:List Z6}{i:Nat}{s:Z6}(h:Nu kvs ss i (Ya s).length)(hs:ss[i]?=some s):Nu kvs ss (i+1) 0:=fun n c=>by
 rw[h n c];unfold HitI;rw[Xo hs,hs];constructor
 ·rintro(⟨s',h1,h2⟩|⟨s',h1,r,h2,h3⟩)
  ·exact .inl ⟨s',zxb _ h1,h2⟩
  ·cases h1;exact .inl ⟨s,zw8 _ (zye _),r,List.mem_of_mem_take h2,h3⟩
 ·rintro(⟨s',h1,r,h2,h3⟩|⟨s',h1,r,h2,h3⟩)
  ·rcases zwy.mp h1 with h1|h1
   ·exact .inl ⟨s',h1,r,h2,h3⟩
   ·cases zwt.mp h1;exact .inr ⟨_,rfl,r,by rw[zw3];exact h2,h3⟩
  ·simp at h2
theorem HitI.succ{ss:List Z6}{i j:Nat}{n c:Int}{s:Z6}{r:Row}(hs:ss[i]?=some s)(hr:(Ya s)[j]?=some r):HitI ss i (j+1) n c↔HitI ss i j n c\/hit n c r=true:=by
 unfold HitI;rw[hs];constructor
 ·rintro(z|⟨s',h1,r',h2,h3⟩)
  ·exact .inl (.inl z)
  ·cases h1;rw[Xo hr] at h2;rcases zwy.mp h2 with h2|h2
   ·exact .inl (.inr ⟨_,rfl,r',h2,h3⟩)
   ·cases zwt.mp h2;exact .inr h3
 ·rintro((z|⟨s',h1,r',h2,h3⟩)|z)
  ·exact .inl z
  ·cases h1;exact .inr ⟨_,rfl,r',by rw[Xo hr];exact zxb _ h2,h3⟩
  ·exact .inr ⟨_,rfl,r,by rw[Xo hr];exact zw8 _ (zye _),z⟩
theorem Nu.none(h:Nu kvs ss i j)(hs:ss[i]?=some s)(hr:(Ya s)[j]?=some r)(hw:r.w=none):Nu kvs ss i (j+1):=fun n c=>by
 rw[h n c,HitI.succ hs hr];unfold hit;rw[hw];simp
theorem Nu.some(h:Nu kvs ss i j)(hs:ss[i]?=some s)(hr:(Ya s)[j]?=some r)(hw:r.w=some w):Nu (putK (putK kvs [inl w,inl r.h] v) [inl w,inl r.g] v') ss i (j+1):=fun n c=>by
 rw[HitI.succ hs hr,<- h n c,Vz,Vz];unfold hit;rw[hw];by_cases e1:([inl n,inl c]:List Key)=[inl w,inl r.g]
 ·rw[#[f,e1]];have:=e1;simp at this;obtain⟨rfl,rfl⟩:=this;simp
 ·rw[#[c,e1]];by_cases e2:([inl n,inl c]:List Key)=[inl w,inl r.h]
  ·rw[#[f,e2]];have:=e2;simp at this;obtain⟨rfl,rfl⟩:=this;simp
  ·rw[#[c,e2]];constructor
   ·exact .inl
   ·rintro(z|z)
    ·exact z
    ·exfalso
     simp at z e1 e2;obtain⟨z1,z2|z2⟩:=z
     ·exact e2 z1.symm z2.symm
     ·exact e1 z1.symm z2.symm
theorem Nu.all(h:Nu kvs (P.over.drop k) (P.over.drop k).length 0)(hk:k=((P.over.length:Int)-P.rest).toNat):zg3 kvs P:=fun n c=>by
 apply zyh.mpr;rw[h n c,zd8 (Int.natCast_nonneg _),zwm,<- hk,<- List.map_drop];unfold HitI;rw[zw3];constructor
 ·rintro(⟨s,h1,h2⟩|⟨s,h1,r,h2,_⟩)
  ·exact⟨Ya s,zwv.mpr ⟨s,h1,rfl⟩,h2⟩
  ·simp at h2
 ·rintro⟨rs,h1,h2⟩;obtain⟨s,h3,rfl⟩:=zwv.mp h1;exact .inl ⟨s,h3,h2⟩
end G
namespace L2
open PySem PySem.Spec PyProof.Rows G
def Ry(x:Int×Int):Dt:=.tup #[M,x.1,x.2]
theorem zaj{K:Frag}{H:Hp}:∀ {ts:List V} {ps:List (Int×Int)},#[L,H,ps.map,oiV]->Qr K H ts (ps.map Ry)
 | _,[],h=>by cases h;exact .nil
 | _,p :: ps,h=>by
   rw[zwz] at h;cases h with
   | cons e r=>exact .cons (.tup (SqT.of e) (.cons (.int _) (.cons (.int _) .nil))) (zaj r)
theorem D1:∀ ps:List (Int×Int),PyData.canLayAll0 (Wt (ps.map Ry))=true
 | []=>rfl
 | p :: ps=>by
   rw[zwz,Wt,PyData.canLayAll0,D1 ps];rfl
theorem D2:∀ ps:List (Int×Int),((Wt (ps.map Ry)).any fun y=>PyData.eqv y (toPy (Ry (a,b))))=decide ((a,b)∈ps)
 | []=>by simp[Wt]
 | p :: ps=>by
   rw[zwz,Wt,zyk,D2 ps,Mm];obtain⟨p1,p2⟩:=p;have e:eqD (Ry (p1,p2)) (Ry (a,b))=#[g,(a,b)=(p1,p2)]:=by
    rw[Ry,Ry,eqD,Oq,Oq,Oq,eqD,eqD];by_cases h1:p1=a
    ·by_cases h2:p2=b
     ·subst h1;subst h2;simp
     ·rw[zwx fun z=>h2 (Prod.mk.inj z).2.symm];simp[h2]
    ·rw[zwx fun z=>h1 (Prod.mk.inj z).1.symm];simp[h1]
   rw[e,<- Bool.decide_or];exact decide_eq_decide.mpr zwr.symm
inductive zl9(K:Frag)(neg:Bool)(x:V)(y:V)(H:Hp)(Q:VK):Prop where
 | mk(t p:Addr)(ts:#[a])(a b:Int)(ps:List (Int×Int))(_:x=.ref t)(_:y=.ref p)(_:SqT K H t #[M,a,b])(_:SqL K H p ts)(_:#[L,H,ps.map,oiV])(_:Q (.bl (if neg then !#[g,(a,b)∈ps] else #[g,(a,b)∈ps])) H)
section
variable{X:Cx}{K:Frag}
theorem zak(hu:X.A.units+64<cLine):OpR X (compareOp .In) (zl9 X.K false):=by
 intro pins s σ H x y v u Q I rx ry h;obtain⟨t,p,ts,a,b,ps,rfl,rfl,ht,hp,tl,q⟩:=h;obtain⟨as,r1⟩:=Is.reads I (Is.tup ht (.cons (.int a) (.cons (.int b) .nil)):Is X.K H (.ref t) (Ry (a,b))) rx;have r1:Reads s.heap v (toPy (Ry (a,b))) as:=r1;obtain⟨bs,r2⟩:=Is.reads I (Is.lst hp (zaj tl)) ry;rw[toPy] at r2;have hd:(toPy (Ry (a,b))).depth=1:=rfl;refine SeqAt.in_list_reads r2 r1 (D1 ps) rfl ?_ ?_
 ·have:=Nat.min_le_right (PyData.depthAll (Wt (ps.map Ry))) (toPy (Ry (a,b))).depth;rw[hd] at this ⊢;omega
 ·rw[D2];exact⟨.bl _,H,I,rfl,q⟩
theorem Qd(hK:X.K=K)(hu:X.A.units+64<cLine):OpR X (compareOp .In) (zl9 K false):=hK▸zak hu
end
end L2
namespace G
open PySem PySem.Spec PyProof.Rows L2
def Ow(P:Pg)(x m:P3):#[D]:=whyS (P.over.map Ya) x.1 x.2.1 x.2.2 m.1 m.2.1 m.2.2 #[g,((P.over.length:Int)+1,x.1)∈P.out] P.rest
inductive zal(K:Frag)(vs:#[a])(H:Hp)(Q:VK)(_:XK):Prop where
 | mk(ok:Addr->Prop)(d m t1 t2:Addr)(P:Pg)(kvs:List (List Key×V))(x y:P3)(_:vs=[.ref d,.ref m,.ref t1,.ref t2])(_:PgAt ok H d P)(_:H m=#[b,.dT,kvs])(_:zg3 kvs P)(_:H t1=some (.tup (pV x)))(_:H t2=some (.tup (pV y)))(_:#[az,l,(Ow P x y).map,V.str,Q,l])
def Po(P:Pg)(ms:List P3):#[I]:=ms.map fun m=>(P.ppl.filter fun x=>(Ow P x m).isEmpty).map (·.1)
theorem zep(h1:P.ppl=S.ppl)(h2:P.over.map Ya=S.led)(h3:P.out=S.out)(h4:P.rest=S.rest)(h5:((P.over.length:Int)+1)=atV S)(ms:List P3):Po P ms=mayS S ms:=by
 unfold Po mayS;refine zys fun m _=>?_;unfold Gh Ow pIn;rw[h1,h2,h3,h4,h5]
inductive C6(K:Frag)(vs:#[a])(H:Hp)(Q:VK)(_:XK):Prop where
 | mk(ok:Addr->Prop)(d:Addr)(P:Pg)(ms:List P3)(_:vs=[.ref d])(_:PgAt ok H d P)(_:Kf P)(_:P.lis=some ms)(_:ms.length<=100)(_:P.ppl.length<=100)(_:∀ l ls H',H' l=some #[i,ls.map,V.ref]->ILs H' ls (Po P ms)->#[v]->H l=none->(∀ x∈ls,H x=none)->#[S,l])
theorem C7(r:#[D])(ok:∀ w∈r,PyData.strOk w=true):shD #[i,r.map,Dt.str]:=by
 have h:PyData.canLayAll0 (Wt (r.map Dt.str))=true/\PyData.depthAll (Wt (r.map Dt.str))<=1:=by
  induction r with
  | nil=>exact⟨rfl,by decide⟩
  | cons x r ih =>
    obtain⟨h1,h2⟩:=ih fun w hw=>ok w (zw7 _ hw);have h0:=ok x (zxi);refine⟨?_,?_⟩
    ·rw[zwz,Wt,PyData.canLayAll0,h1];simp[toPy,PyData.canLay0,h0]
    ·rw[zwz,Wt,PyData.depthAll];have:PyData.depth (toPy (Dt.str x))<=1:=by simp[toPy,PyData.depth]
     omega
 unfold shD SeqAt.shaped;rw[toPy,PyData.canLay0,h.1,Bool.true_and];refine zws ?_;rw[PyData.depth];have:=h.2;omega
theorem Qe{K:Frag}{H:Hp}:∀ ws:#[D],Qr K H (ws.map V.str) (ws.map Dt.str)
 | []=>.nil
 | w :: ws=>.cons (.str w) (Qe ws)
theorem zkw(h:x∈bw b w):x=w:=by
 cases b<;>simp[bw] at h;exact h
theorem zis{Rs:#[Z]}{n g c h gu d:Int}{o:Bool}{rest:Int}:∀ w∈whyS Rs n g c h gu d o rest,PyData.strOk w=true:=fun w hw=>by
 unfold whyS at hw;simp only[zwy] at hw;rcases hw with z|z|z|z<;>rw[zkw z]<;>decide +kernel
def Xz(H H':Hp):Prop:=(∀ x ys,H x=some (.lst ys)->H' x=some (.lst ys))/\∀ x ys,H x=#[E,ys]->H' x=#[E,ys]
theorem Xz.dict(h:H d=#[b,.dK,kvs]):Xz H (upd H d (.dK kvs')) :=
 ⟨fun x ys e=>by rw[Zh (Yu e h (by intro z;cases z))];exact e,fun x ys e=>by rw[Zh (Yu e h (by intro z;cases z))];exact e⟩
theorem Xz.trans(a:Xz H H')(b:Xz H' H''):Xz H H'':=⟨fun x ys e=>b.1 _ _ (a.1 _ _ e),fun x ys e=>b.2 _ _ (a.2 _ _ e)⟩
theorem Xz.of(e:#[v]):Xz H H':=⟨fun x ys z=>e _ _ z,fun x ys z=>e _ _ z⟩
theorem Wx.keepL(k:Xz H H'):∀ {ts:List V} {G:zkv},Wx ok H ts G->Wx ok H' ts G
 | _,_,.nil=>.nil
 | _,_,.cons h hl tl o r=>.cons (k.2 _ _ h) (k.1 _ _ hl) (tl.mono k.2) o (Wx.keepL k r)
theorem ILs.keepL(k:Xz H H'):∀ {ls:List Addr} {R:List (List Int)},ILs H ls R->ILs H' ls R
 | _,_,.nil=>.nil
 | _,_,.cons h n=>.cons (k.1 _ _ h) (ILs.keepL k n)
theorem Mw.keepL(k:Xz H H')(h:Mw ok H v x):Mw ok H' v x:=by
 cases x with
 | none=>exact h
 | some ms=>obtain⟨l,ts,e,a,b,o⟩:=h;exact⟨l,ts,e,k.1 _ _ a,b.mono k.2,o⟩
theorem Xq.keepL(k:Xz H H'):∀ {vs:List V} {ss:List Z6},Xq ok H vs ss->Xq ok H' vs ss
 | _,_,.nil=>.nil
 | _,_,.cons h hl tl hg hm gm hy iy o r=>.cons (k.2 _ _ h) (k.1 _ _ hl) (tl.mono k.2) (k.1 _ _ hg) (k.1 _ _ hm) (gm.keepL k) (k.1 _ _ hy) (ILs.keepL k iy) o (Xq.keepL k r)
structure PgB(ok:Addr->Prop)(H:Hp)(P:Pg)(lp lo lv:Addr)(dv li:V)(lg lm:Addr):Prop where
 pp:∃ pts,H lp=#[x,pts]/\TupL H pts (P.ppl.map pV)/\ok lp
 oo:∃ ots,H lo=#[x,ots]/\TupL H ots (P.out.map oiV)/\ok lo
 vv:∃ vts,H lv=#[x,vts]/\Xq ok H vts P.over/\ok lv
 dd:zah H dv P.deed
 li:Mw ok H li P.lis
 gg:H lg=#[x,P.gv]/\ok lg
 mm:∃ mts,H lm=#[x,mts]/\Wx ok H mts P.mv/\ok lm
theorem PgB.keepL{ok:Addr->Prop}{H H':Hp}{P:Pg}{lp lo lv:Addr}{dv li:V}{lg lm:Addr}(h:PgB ok H P lp lo lv dv li lg lm)(k:Xz H H'):PgB ok H' P lp lo lv dv li lg lm:=by
 obtain⟨⟨p1,p2,p3,p4⟩,⟨o1,o2,o3,o4⟩,⟨v1,v2,v3,v4⟩,dd,li,⟨g1,g2⟩,m1,m2,m3,m4⟩:=h;exact⟨⟨p1,k.1 _ _ p2,p3.mono k.2,p4⟩,⟨o1,k.1 _ _ o2,o3.mono k.2,o4⟩,⟨v1,k.1 _ _ v2,v3.keepL k,v4⟩,dd.keep k.2,li.keepL k,⟨k.1 _ _ g1,g2⟩,m1,k.1 _ _ m2,m3.keepL k,m4⟩
theorem PgB.imp{ok ok':Addr->Prop}{H:Hp}{P:Pg}{lp lo lv:Addr}{dv li:V}{lg lm:Addr}(h:PgB ok H P lp lo lv dv li lg lm)(k:#[ay]):PgB ok' H P lp lo lv dv li lg lm:=by
 obtain⟨⟨p1,p2,p3,p4⟩,⟨o1,o2,o3,o4⟩,⟨v1,v2,v3,v4⟩,dd,li,⟨g1,g2⟩,m1,m2,m3,m4⟩:=h;exact⟨⟨p1,p2,p3,k _ ⟨_,p2⟩ p4⟩,⟨o1,o2,o3,k _ ⟨_,o2⟩ o4⟩,⟨v1,v2,v3.imp k,k _ ⟨_,v2⟩ v4⟩,dd,li.imp k,⟨g1,k _ ⟨_,g1⟩ g2⟩,m1,m2,m3.imp k,k _ ⟨_,m2⟩ m4⟩
theorem PgAt.split(h:PgAt ok H d P):∃ lp lo lv dv li lg lm,H d=#[b,.dK,pgF P.len P.rest lp lo lv dv li lg lm]/\PgB ok H P lp lo lv dv li lg lm/\ok d:=by
 obtain⟨lp,lo,lv,dv,li,lg,lm,pts,ots,vts,mts,a1,a2,a3,a4,a5,a6,a7,a8,a9,b1,b2,b3,o1,o2,o3,o4,o5,o6⟩:=h;exact⟨lp,lo,lv,dv,li,lg,lm,a1,⟨⟨_,a2,a3,o2⟩,⟨_,a4,a5,o3⟩,⟨_,a6,a7,o4⟩,a8,a9,⟨b1,o5⟩,_,b2,b3,o6⟩,o1⟩
theorem PgAt.join{ok:Addr->Prop}{H:Hp}{d:Addr}{P:Pg}{lp lo lv:Addr}{dv li:V}{lg lm:Addr}(hd:H d=#[b,.dK,pgF P.len P.rest lp lo lv dv li lg lm])(h:PgB ok H P lp lo lv dv li lg lm)(o:ok d):PgAt ok H d P:=by
 obtain⟨⟨p1,p2,p3,p4⟩,⟨o1,o2,o3,o4⟩,⟨v1,v2,v3,v4⟩,dd,li',⟨g1,g2⟩,m1,m2,m3,m4⟩:=h;exact⟨lp,lo,lv,dv,li,lg,lm,p1,o1,v1,m1,hd,p2,p3,o2,o3,v2,v3,dd,li',g1,m2,m3,o,p4,o4,v4,g2,m4⟩
theorem PgAt.other(h:PgAt ok H d P)(n:d≠e)(he:H e=#[b,.dK,kvs]):PgAt ok (upd H e (.dK kvs')) d P:=by
 obtain⟨lp,lo,lv,dv,li,lg,lm,a1,a2,a3⟩:=h.split;exact .join (by rw[Zh n];exact a1) (a2.keepL (.dict he)) a3
theorem PgAt.setGoes(h:PgAt ok H d P)(hl:#[A,H,l,xs])(ol:ok l):∃ kvs,H d=#[b,.dK,kvs]/\kvs.length<sizeLine/\PgAt ok (upd H d (.dK (putK kvs (.inr "goes") (.ref l)))) d { P with gv:=xs }:=by
 obtain⟨lp,lo,lv,dv,li,lg,lm,a1,a2,a3⟩:=h.split;refine⟨_,a1,zg2,?_⟩;rw[zai];have b:=a2.keepL (.dict a1 (kvs':=pgF P.len P.rest lp lo lv dv li l lm));exact .join (P:={ P with gv:=xs }) Zd ⟨b.pp,b.oo,b.vv,b.dd,b.li,⟨(Xz.dict a1).1 _ _ hl,ol⟩,b.mm⟩ a3
def Uq(P:Pg):Xx->Pg
 | .enrol n g c=>{ P with ppl:=P.ppl++[(n,g,c)],deed:=some ("enrol",n,(P.over.length:Int)+1) }
 | .away i n=>{ P with out:=P.out++[(i,n)],deed:=some ("away",n,i) }
 | .draw ms=>{ P with lis:=some ms,deed:=some ("draw up",(ms.length:Int),(P.over.length:Int)+1) }
 | .close=>{ P with over:=P.over++[⟨P.lis.getD [],Po P (P.lis.getD []),P.gv,P.mv⟩],lis:=none,gv:=[],mv:=[] }
 | .back=>P
def zbv(ds:#[B])(d d':Addr):Xx->#[B]
 | .back=>ds
 | .close=>[d']
 | _=>ds++[d]++[d']
inductive C8(K:Frag)(vs:#[a])(H:Hp)(Q:VK)(_:XK):Prop where
 | mk(ok:Addr->Prop)(l t:Addr)(ds:#[B])(d:Addr)(P:Pg)(D:Xx)(_:#[ac,l,t])(_:H l=some #[i,(ds++[d]).map,V.ref])(_:PgAt ok H d P)(_:Xy ok H t D)(_:Kf P)(_:P.ppl.length<=100)(_:P.out.length<=900)(_:ds.length<=900)(_:(D=.close->∃ ms,P.lis=some ms/\ms.length<=100))(_:∀ l' d' H',H' l'=some #[i,(zbv ds d d' D).map,V.ref]->(D≠.back->PgAt (fun x=>ok x\/H x=none) H' d' (Uq P D))->#[v]->H l'=none->H d'=none->#[S,l'])
theorem zg5(xs:#[a])(x:V):Nd (xs++[x]) none (some (-1))=xs:=by
 unfold Nd HT.sIx;simp;rw[show (-1+((xs.length:Int)+1)).toNat=xs.length by omega,List.take_left]
def zg6(ms:List P3):Prop:=(∀ m∈ms,¬ badM m)/\∀ m∈ms,m.1≠m.2.1
inductive Jd(K:Frag)(vs:#[a])(H:Hp)(Q:VK)(_:XK):Prop where
 | mk(b:Addr)(ns:#[t])(cell:Int)(most mixed:Nat)(_:vs=[.int cell,.ref b,.int most,.int mixed])(_:H b=some #[i,ns.map,V.int])(_:2<=ns.length)(_:ns.length<=100)(_:ns.Nodup)(_:(∀ n∈ns,1<=n/\n<=99))(_:most<=20)(_:mixed<=1)(_:∀ l ts ms H',H' l=#[x,ts]->#[L,H',ms.map,pV]->ms.length<=most->zg6 ms->#[v]->H l=none->#[S,l])
def enV(x:P3):#[a]:=[.str "enrol",.int x.1,.int x.2.1,.int x.2.2]
inductive Gs(K:Frag)(vs:#[a])(H:Hp)(Q:VK)(_:XK):Prop where
 | mk(b t lc ln:Addr)(ns cs nu:#[t])(_:#[ac,b,t])(_:SqL K H b (ns.map V.int))(_:Nt H t lc ln cs nu)(_:∀ l ts (es:List P3) H',H' l=#[x,ts]->#[L,H',es.map,enV]->es.map (·.1)=nu.take es.length->es.length<=nu.length->(∀ x∈es,1<=x.2.1/\x.2.1<=9/\x.2.2∈cs)->#[v]->H l=none->#[S,l])
theorem Mw.some(h:Mw ok H v x):(!#[g,v=V.non])=x.isSome:=by
 cases x with
 | none=>cases (show v=V.non from h);rfl
 | some ms=>obtain⟨l,ts,rfl,_⟩:=h;rfl
theorem zg7{h y n:Int}(h0:0<=h)(h1:h<n)(y0:1<=y)(y1:y<=n-1):0<=(h+y)%n/\(h+y)%n<n/\(h+y)%n≠h:=by
 have hn:0<n:=by omega
 refine⟨zxq _ ⋯,zxm _ hn,?_⟩;by_cases c:h+y<n
 ·rw[Int.emod_eq_of_lt ⋯ c];omega
 ·have e:(h+y)%n=h+y-n:=by
   rw[<- Int.sub_emod_right,Int.emod_eq_of_lt ⋯ ⋯]
  omega
theorem at2(x y:Int){k:Nat}(h:k<=1):∃ z,atI [V.int x,V.int y] (k:Int)=#[q,z]:=by
 match k,h with
 | 0,_=>exact#[y,x]
 | 1,_=>exact#[y,y]
def C9:#[t]:=[1,2,3,4,5,6,7,8,9,1,1,1,1,2,2,3,3,4]
theorem zbw:∀ k,k<18->1<=C9.getD k 0/\C9.getD k 0<=9:=by decide
def Ba:#[t]:=[1,2,3,4,5,6,7,8,9,9,9,9,9,8,8,7,6,5]
theorem zbx:∀ k,k<18->1<=Ba.getD k 0/\Ba.getD k 0<=9:=by decide
theorem Bb{ns:#[t]}{i:Nat}(hi:i<ns.length):ns.getD i 0=ns[i]:=by
 rw[zxc,zwn hi];rfl
theorem zg8{ns:#[t]}(nd:ns.Nodup){i j:Nat}(hi:i<ns.length)(hj:j<ns.length)(h:ns.getD i 0=ns.getD j 0):i=j:=by
 rw[Bb hi,Bb hj] at h;exact(List.getElem_inj nd).mp h
theorem Ur{ns:#[t]}{i:Nat}(hi:i<ns.length):ns.getD i 0∈ns:=by
 rw[Bb hi];exact zxg hi
def Rz(mb:Bool)(s:Z6):Z6:=if mb then s else { s with gaps:=[] }
theorem zit(h:Rz mb s=Rz mb s'):s.ms=s'.ms/\s.may=s'.may/\s.gv=s'.gv/\(mb=true->s=s'):=by
 unfold Rz at h;cases mb with
 | true=>simp at h;subst h;exact⟨rfl,rfl,rfl,fun _=>rfl⟩
 | false=>simp at h;exact⟨h.1,h.2.1,h.2.2,fun z=>nomatch z⟩
theorem zeq(mb:Bool)(s:Z6):Ya (Rz mb s)=Ya s:=by
 unfold Rz;cases mb<;>rfl
structure Pp(mb:Bool)(P:Pg)(S:Sea):Prop where
 len:P.len=S.len
 rest:P.rest=S.rest
 ppl:P.ppl=S.ppl
 out:P.out=S.out
 over:P.over.map (Rz mb)=S.old.map (Rz mb)
 lis:P.lis=S.cur.map (·.ms)
def Je(S:Sea):zkv:=match S.cur with|some s=>s.gaps|none=>[]
theorem zby(h:S.cur=some s):Je S=s.gaps:=by unfold Je;rw[h]
theorem Nv(h:S.cur=none):Je S=[]:=by unfold Je;rw[h]
structure Rel(mb:Bool)(P:Pg)(S:Sea):Prop where
 b:Pp mb P S
 gv:∀ s,S.cur=some s->P.gv=s.gv
 mv:mb=true->P.mv=Je S
structure SOk(nu:#[t])(n:Nat)(S:Sea):Prop where
 cur:zad S
 nd:(S.ppl.map (·.1)).Nodup
 ppl:∀ x∈S.ppl,x.1∈nu/\¬ badI x.1 x.2.1 x.2.2
 few:S.ppl.length<=30
 led:S.led=S.old.map Ya
 old:∀ s∈S.old,s.ms.length<=20/\s.gv.length=s.ms.length/\∀ x∈s.gv,oneV x
 len:S.led.length<=S.len/\S.len<=60/\S.rest<=10
 lt:S.cur≠none->S.led.length<S.len
 num:S.out.length<=n/\S.std.length<=n
 gp:∀ s,S.cur=some s\/s∈S.old->s.gaps.length<=n/\∀ x∈s.gaps,x.2.length<=100
theorem SOk.mono(h:SOk nu n S)(e:n<=m):SOk nu m S:=⟨h.cur,h.nd,h.ppl,h.few,h.led,h.old,h.len,h.lt,⟨zw6 h.num.1 e,zw6 h.num.2 e⟩,fun s hs=>⟨zw6 (h.gp s hs).1 e,(h.gp s hs).2⟩⟩
theorem SOk.pok(h:SOk nu n S):Sv S:=⟨fun x hx=>(h.ppl x hx).2,h.few⟩
theorem SOk.olen(h:SOk nu n S):S.old.length=S.led.length:=by rw[h.led,zwm]
theorem zg9:∀ (Rs:List (List Row)),(∀ rs∈Rs,rs.length<=k)->tot Rs<=k*Rs.length
 | [],_=>by simp[tot]
 | rs :: Rs,h=>by
   have h1:=h rs (zxi);have h2:=zg9 Rs fun x hx=>h x (zw7 _ hx);unfold tot at *;simp only[zwz,List.sum_cons,zw9,Nat.mul_succ];omega
theorem SOk.tot(h:SOk nu n S):G.tot S.led<=1200:=by
 have h1:=zg9 (k:=20) S.led fun rs hrs=>by
  rw[h.led] at hrs;obtain⟨s,hs,rfl⟩:=zwv.mp hrs;have:=h.old s hs;unfold Ya;rw[zyr];omega
 have:=h.len;omega
theorem Pp.rows(r:Pp mb P S):P.over.map Ya=S.old.map Ya:=by
 have e:∀ l:List Z6,l.map Ya=(l.map (Rz mb)).map Ya:=fun l=>by
  rw[zyd];exact zys fun s _=>(zeq mb s).symm
 rw[e,r.over,<- e]
theorem Pp.olen(r:Pp mb P S):P.over.length=S.old.length:=by
 have:=congrArg List.length r.over
 simpa using this
theorem Pp.ovok(r:Pp mb P S)(o:SOk nu n S):Kf P:=by
 have h1:=r.olen;have h2:=o.olen;have h3:=o.len;refine⟨by omega,by rw[r.rest];omega,fun s hs=>?_⟩;have:Rz mb s∈S.old.map (Rz mb):=by rw[<- r.over];exact zwv.mpr ⟨s,hs,rfl⟩
 obtain⟨s',hs',e⟩:=zwv.mp this;obtain⟨e1,e2,e3,_⟩:=zit e;rw[<- e1,<- e3];exact o.old s' hs'
theorem Pp.may(r:Pp mb P S)(o:SOk nu n S)(ms:List P3):Po P ms=mayS S ms :=
 zep r.ppl (by rw[r.rows,o.led]) r.out r.rest (by unfold atV;rw[r.olen,o.olen]) ms
theorem Pp.at(r:Pp mb P S)(o:SOk nu n S):(P.over.length:Int)+1=atV S:=by unfold atV;rw[r.olen,o.olen]
theorem Bc{l m:#[t]}(nd:l.Nodup)(h:∀ x∈l,x∈m):l.length<=m.length:=by
 induction l generalizing m with
 | nil=>exact zxh _
 | cons x l ih =>
   have hx:=h x (zxi);obtain⟨h1,h2⟩:=zxe.mp nd;have:=ih (m:=m.erase x) h2 fun y hy=>(List.mem_erase_of_ne (fun z=>h1 (by rw[<- z];exact hy))).mpr (h y (zw7 _ hy));rw[List.length_erase_of_mem hx] at this;have:=List.length_pos_of_mem hx;simp only[zw9];omega
theorem zer(F:Y7 rows gs)(hn:∀ i:Nat,gs[i]?≠#[b,V.int,n]):Y7 (without rows n) gs:=by
 refine⟨by unfold without;rw[zwm];exact F.len,F.one,fun k m h=>?_,F.inj⟩;obtain⟨r,h1,h2⟩:=F.may k m h;refine⟨r.filter fun x=>#[g,x≠n],by unfold without;rw[zwu,h1];rfl,zxz.mpr ⟨h2,?_⟩⟩;refine zws fun z=>hn k ?_;rw[h,z]
theorem zbz(T:Um rows gs):Um (without rows n) gs:=fun p hp=>by
 obtain⟨S,h1,h2⟩:=T p hp;refine⟨S,h1,fun q hq=>⟨by unfold without;rw[zwm];exact(h2 q hq).1,fun r hr m hm=>?_⟩⟩;unfold without at hr;rw[zwu] at hr;obtain⟨r0,e1,rfl⟩:=zyg.mp hr;exact(h2 q hq).2 r0 e1 m (zxz.mp hm).1
theorem zes(h:atV S<i)(ms:List P3):mayS (X6 S i n) ms=mayS S ms:=by
 unfold mayS;refine zys fun m _=>?_;unfold Gh;have:∀ x:P3,pIn (X6 S i n).out (atV (X6 S i n)) x=pIn S.out (atV S) x:=fun x=>by
  show #[g,(atV S,x.1)∈S.out++[(i,n)]]=#[g,(atV S,x.1)∈S.out];have:((atV S,x.1)∈S.out++[(i,n)])↔((atV S,x.1)∈S.out):=by
   simp only[zwy,zwt,Prod.mk.injEq];constructor
   ·rintro(h|⟨h,_⟩)
    ·exact h
    ·omega
   ·exact .inl
  exact decide_eq_decide.mpr this
 simp only[this];rfl
theorem zha(o:SOk nu n S)(g:Pn S D)(af:Ul H' S D S' v)(hb:D≠.back)(hn:∀ k gr c,D=.enrol k gr c->k∈nu):SOk nu (n+1) S'/\((D=.close/\S'.std=[]/\S'.cur=none)\/(D≠.close/\Rx S S')):=by
 obtain⟨n1,n2⟩:=o.num;cases af with
 | enrol k gr c =>
   obtain⟨g1,g2,g3,g4,g5⟩:=g;refine⟨⟨fun s hs=>?_,?_,fun x hx=>?_,?_,o.led,o.old,o.len,fun _=>g1,⟨?_,?_⟩,fun s hs=>⟨zx2 (o.gp s hs).1,(o.gp s hs).2⟩⟩,.inr ⟨nofun,(("enrol":Str),k,atV S),rfl,.inl ⟨rfl,⟨gr,c,rfl⟩,rfl⟩,rfl,rfl,rfl,rfl⟩⟩
   ·have hs:S.cur=some s:=hs;rw[g2] at hs;cases hs
   ·show (List.map (·.1) (S.ppl++[(k,gr,c)])).Nodup;rw[zwq,List.nodup_append];refine⟨o.nd,by simp,fun x hx y hy=>?_⟩;rw[zwz,zyt,zwt] at hy;subst hy;rintro rfl;exact g4 hx
   ·rcases zwy.mp hx with hx|hx
    ·exact o.ppl x hx
    ·rw[zwt.mp hx];exact⟨hn k gr c rfl,g3⟩
   ·show (S.ppl++[(k,gr,c)]).length<=30;rw[zwp];show S.ppl.length+1<=30;omega
   ·show S.out.length<=n+1;omega
   ·show (S.std++[_]).length<=n+1;rw[zwp];show S.std.length+1<=n+1;omega
 | @awayN i k l h hl =>
   obtain⟨g1,g2,g3,g4⟩:=g;refine⟨⟨fun s hs=>?_,o.nd,o.ppl,o.few,o.led,o.old,o.len,o.lt,⟨?_,?_⟩,fun s hs=>⟨zx2 (o.gp s hs).1,(o.gp s hs).2⟩⟩,.inr ⟨nofun,(("away":Str),k,i),rfl,.inr (.inl ⟨rfl,rfl,rfl,g4⟩),rfl,rfl,rfl,rfl⟩⟩
   ·have hs:S.cur=some s:=hs;rcases h with h|h
    ·rw[h] at hs;cases hs
    ·obtain⟨c1,c2,c3,c4,c5⟩:=o.cur s hs;refine⟨c1,c2,c3,by rw[zes h];exact c4,?_⟩;show s.gaps.length<=(S.std++[_]).length;rw[zwp];omega
   ·show (S.out++[_]).length<=n+1;rw[zwp];show S.out.length+1<=n+1;omega
   ·show (S.std++[_]).length<=n+1;rw[zwp];show S.std.length+1<=n+1;omega
 | @awayF k s l h hp hl =>
   obtain⟨g1,g2,g3,g4⟩:=g;obtain⟨c1,c2,c3,c4,c5⟩:=o.cur s h;refine⟨⟨fun s' hs=>?_,o.nd,o.ppl,o.few,o.led,o.old,o.len,fun _=>o.lt (by rw[h];exact nofun),⟨?_,?_⟩,fun s' hs=>?_⟩,.inr ⟨nofun,(("away":Str),k,atV S),rfl,.inr (.inl ⟨rfl,rfl,rfl,g4⟩),rfl,rfl,rfl,rfl⟩⟩
   ·have hs:some { s with may:=mayS (X6 S (atV S) k) s.ms }=some s':=hs;cases hs;have hno:∀ i:Nat,s.gv[i]?≠some (V.int k):=by
     rcases Al s.gv k with z|⟨i,z,_⟩
     ·exact z.2
     ·rw[hp] at z;cases z
    refine⟨c1,?_,?_,rfl,?_⟩
    ·show Y7 (mayS (X6 S (atV S) k) s.ms) s.gv;rw[Tw,<- c4];exact zer c2 hno
    ·show Um (mayS (X6 S (atV S) k) s.ms) s.gv;rw[Tw,<- c4];exact zbz c3
    ·show s.gaps.length<=(S.std++[_]).length;rw[zwp];omega
   ·show (S.out++[_]).length<=n+1;rw[zwp];show S.out.length+1<=n+1;omega
   ·show (S.std++[_]).length<=n+1;rw[zwp];show S.std.length+1<=n+1;omega
   ·have old:=o.gp s (.inl h);rcases hs with hs|hs
    ·have hs:some { s with may:=mayS (X6 S (atV S) k) s.ms }=some s':=hs;cases hs;exact⟨zx2 old.1,old.2⟩
    ·have:=o.gp s' (.inr hs);exact⟨zx2 this.1,this.2⟩
 | @awayC k s p e l us st w h hp hl tl CR =>
   obtain⟨g1,g2,g3,g4⟩:=g;obtain⟨c1,c2,c3,c4,c5⟩:=o.cur s h;refine⟨⟨fun s' hs=>?_,o.nd,o.ppl,o.few,o.led,o.old,o.len,fun _=>o.lt (by rw[h];exact nofun),⟨?_,?_⟩,fun s' hs=>?_⟩,.inr ⟨nofun,(("away":Str),k,atV S),rfl,.inr (.inl ⟨rfl,rfl,rfl,g4⟩),rfl,rfl,rfl,rfl⟩⟩
   ·have hs:some (⟨s.ms,mayS (X6 S (atV S) k) s.ms,Yv st (s.gv.set p .non),s.gaps++[(k,st)]⟩:Z6)=some s':=hs;cases hs;have hx:=Nr hp;rw[Tw,<- c4] at CR;have F0:=Tj c2 hx;have hpl:p<(without s.may k).length:=by
     unfold without;rw[zwm,<- c2.len];exact(zwo.mp hx).1
    refine⟨c1,?_,?_,rfl,?_⟩
    ·show Y7 (mayS (X6 S (atV S) k) s.ms) _;rw[Tw,<- c4];exact CR.fill F0 hpl
    ·show Um (mayS (X6 S (atV S) k) s.ms) _;rw[Tw,<- c4];exact Ao c2 c3 hx CR
    ·show (s.gaps++[_]).length<=(S.std++[_]).length;rw[zwp,zwp];show s.gaps.length+1<=S.std.length+1;omega
   ·show (S.out++[_]).length<=n+1;rw[zwp];show S.out.length+1<=n+1;omega
   ·show (S.std++[_]).length<=n+1;rw[zwp];show S.std.length+1<=n+1;omega
   ·have old:=o.gp s (.inl h);rcases hs with hs|hs
    ·have hs:some (⟨s.ms,mayS (X6 S (atV S) k) s.ms,Yv st (s.gv.set p .non),s.gaps++[(k,st)]⟩:Z6)=some s':=hs;cases hs;have hx:=Nr hp;rw[Tw,<- c4] at CR;have hpl:p<(without s.may k).length:=by
      unfold without;rw[zwm,<- c2.len];exact(zwo.mp hx).1
     have hcl:=CR.len (Tj c2 hx) hpl;have hwl:(without s.may k).length=s.may.length:=by unfold without;rw[zwm]
     have hml:s.may.length=s.ms.length:=by rw[c4];unfold mayS;rw[zwm]
     refine⟨by show (s.gaps++[_]).length<=n+1;rw[zwp];show s.gaps.length+1<=n+1;omega,fun x hx'=>?_⟩;rcases zwy.mp hx' with z|z
     ·exact old.2 x z
     ·rw[zwt.mp z];show st.length<=100;omega
    ·have:=o.gp s' (.inr hs);exact⟨zx2 this.1,this.2⟩
 | @draw ms gv l hl F T =>
   obtain⟨g1,g2,g3,g4,g5⟩:=g;refine⟨⟨fun s' hs=>?_,o.nd,o.ppl,o.few,o.led,o.old,o.len,fun _=>g1,⟨?_,?_⟩,fun s' hs=>?_⟩,.inr ⟨nofun,(("draw up":Str),(ms.length:Int),atV S),rfl,.inr (.inr #[w,rfl,rfl]),rfl,rfl,rfl,rfl⟩⟩
   ·have hs:some (⟨ms,mayS S ms,gv,[]⟩:Z6)=some s':=hs;cases hs;exact⟨g3,F,T,rfl,zxh _⟩
   ·show S.out.length<=n+1;omega
   ·show (S.std++[_]).length<=n+1;rw[zwp];show S.std.length+1<=n+1;omega
   ·rcases hs with hs|hs
    ·have hs:some (⟨ms,mayS S ms,gv,[]⟩:Z6)=some s':=hs;cases hs;exact⟨zxh _,nofun⟩
    ·have:=o.gp s' (.inr hs);exact⟨zx2 this.1,this.2⟩
 | @close s h =>
   obtain⟨g1,g2⟩:=g;obtain⟨c1,c2,c3,c4,c5⟩:=o.cur s h;refine⟨⟨fun s' hs=>(by cases hs),o.nd,o.ppl,o.few,?_,fun x hx=>?_,⟨?_,o.len.2⟩,fun z=>absurd rfl z,⟨?_,zxh _⟩,fun s' hs=>?_⟩,.inl ⟨rfl,rfl,rfl⟩⟩
   ·show S.led++[Ya s]=List.map Ya (S.old++[s]);rw[zwq,o.led];rfl
   ·rcases zwy.mp hx with hx|hx
    ·exact o.old x hx
    ·rw[zwt.mp hx];refine⟨c1,?_,c2.one⟩;rw[c2.len,c4];unfold mayS;rw[zwm]
   ·show (S.led++[_]).length<=S.len;rw[zwp];exact g1
   ·show S.out.length<=n+1;omega
   ·rcases hs with hs|hs
    ·cases hs
    ·have hs:s'∈S.old++[s]:=hs;rcases zwy.mp hs with z|z
     ·have:=o.gp s' (.inr z);exact⟨zx2 this.1,this.2⟩
     ·rw[zwt.mp z];have:=o.gp s (.inl h);exact⟨zx2 this.1,this.2⟩
 | back h ht hs=>exact absurd rfl hb
theorem zet(r:Rel mb P S)(o:SOk nu n S)(g:Pn S D)(af:Ul H' S D S' v)(hb:D≠.back):Pp mb (Uq P D) S':=by
 obtain⟨⟨r1,r2,r3,r4,r5,r6⟩,rg,rm⟩:=id r;cases af with
 | enrol k gr c=>exact⟨r1,r2,by show P.ppl++_=S.ppl++_;rw[r3],r4,r5,r6⟩
 | @awayN i k l h hl=>exact⟨r1,r2,r3,by show P.out++_=S.out++_;rw[r4],r5,r6⟩
 | @awayF k s l h hp hl=>exact⟨r1,r2,r3,by show P.out++_=S.out++_;rw[r4],r5,by show P.lis=_;rw[r6,h];rfl⟩
 | @awayC k s p e l us st w h hp hl tl CR=>exact⟨r1,r2,r3,by show P.out++_=S.out++_;rw[r4],r5,by show P.lis=_;rw[r6,h];rfl⟩
 | @draw ms gv l hl F T=>exact⟨r1,r2,r3,r4,r5,rfl⟩
 | @close s h =>
   have hl:P.lis=some s.ms:=by rw[r6,h];rfl
   refine⟨r1,r2,r3,r4,?_,rfl⟩;show List.map (Rz mb) (P.over++[⟨P.lis.getD [],Po P (P.lis.getD []),P.gv,P.mv⟩])=List.map (Rz mb) (S.old++[s]);rw[zwq,zwq,r5,hl]
   congr 1
   have e1:=(o.cur s h).2.2.2.1;have e2:=r.b.may o s.ms;have e3:=rg s h;unfold Rz;cases mb with
   | true =>
     have e4:P.mv=s.gaps:=by rw[rm rfl,zby h]
     show [(⟨s.ms,Po P s.ms,P.gv,P.mv⟩:Z6)]=[s];rw[e2,e3,e4,<- e1]
   | false =>
     show [(⟨s.ms,Po P s.ms,P.gv,[]⟩:Z6)]=[(⟨s.ms,s.may,s.gv,[]⟩:Z6)];rw[e2,e3,<- e1]
 | back h ht hs=>exact absurd rfl hb
theorem zeu(h1:Rx S1 S)(h2:Rx S2 S):S1=S2:=by
 obtain⟨d1,a1,a2,a3,a4,a5,a6⟩:=h1;obtain⟨d2,b1,b2,b3,b4,b5,b6⟩:=h2;have e:=a1.symm.trans b1;obtain⟨e1,e2⟩:=zyp e rfl;have e3:=List.cons.inj e2;obtain⟨e4,e5⟩:=Prod.mk.inj e3.1;subst e4;have w1:("enrol":Str)≠"away":=by decide +kernel
 have w2:("enrol":Str)≠"draw up":=by decide +kernel
 have w3:("away":Str)≠"draw up":=by decide +kernel
 have e6:S1.ppl=S2.ppl/\S1.out=S2.out:=by
  rcases a2 with ⟨x1,⟨g,c,x2⟩,x3⟩|⟨x1,x2,x3,_⟩|⟨x1,x2,x3⟩<;>rcases b2 with ⟨y1,⟨g',c',y2⟩,y3⟩|⟨y1,y2,y3,_⟩|⟨y1,y2,y3⟩
  ·exact⟨(zyp (x2.symm.trans y2) rfl).1,x3.trans y3.symm⟩
  ·exact absurd (x1.symm.trans y1) w1
  ·exact absurd (x1.symm.trans y1) w2
  ·exact absurd (y1.symm.trans x1) w1
  ·exact⟨x2.trans y2.symm,(zyp (x3.symm.trans y3) rfl).1⟩
  ·exact absurd (x1.symm.trans y1) w3
  ·exact absurd (y1.symm.trans x1) w2
  ·exact absurd (y1.symm.trans x1) w3
  ·exact⟨x2.trans y2.symm,x3.trans y3.symm⟩
 obtain⟨l1,q1,p1,d1',o1,ol1,c1,s1⟩:=S1;obtain⟨l2,q2,p2,d2',o2,ol2,c2,s2⟩:=S2;simp only at *;obtain⟨e7,e8⟩:=e6;subst e1 e5 e7 e8;rw[<- a3,<- b3,<- a4,<- b4,<- a5,<- b5,<- a6,<- b6]
structure FrN(A A':SAd)(H H':Hp):Prop where
 p:A'.p=A.p
 k:∀ b o,H b=#[d]->b∉A.fp->H' b=#[d]/\b∉A'.fp
 kt:#[aj]
theorem FrN.refl(A:SAd)(H:Hp):FrN A A H H:=⟨rfl,fun b o e n=>⟨e,n⟩,fun _ _ e=>e⟩
theorem FrN.of(e:#[v]):FrN A A H H':=⟨rfl,fun b o z n=>⟨e _ _ z,n⟩,fun _ _ z=>e _ _ z⟩
theorem FrN.trans(h1:FrN A A1 H H1)(h2:FrN A1 A2 H1 H2):FrN A A2 H H2:=⟨h2.p.trans h1.p,fun b o e n=>by
 obtain⟨a1,a2⟩:=h1.k b o e n;exact h2.k b o a1 a2,fun t xs e=>h2.kt _ _ (h1.kt _ _ e)⟩
theorem Qu.out(nx:Qu A A' H)(e:H b=some o)(n:b∉A.fp):b∉A'.fp:=by
 obtain⟨x,rfl,hx⟩:=nx;simp only[SAd.fp,zwr,zxf,or_false] at n ⊢;rcases hx with rfl|hx
 ·exact n
 ·have:b≠x:=Zi e hx;rintro(z|z|z|z|z|z|z)
  ·exact n (.inl z)
  ·exact n (.inr (.inl z))
  ·exact n (.inr (.inr (.inl z)))
  ·exact n (.inr (.inr (.inr (.inl z))))
  ·exact n (.inr (.inr (.inr (.inr (.inl z)))))
  ·exact n (.inr (.inr (.inr (.inr (.inr (.inl z))))))
  ·exact this z
theorem FrN.next(SA:#[N])(nx:Qu A A' H)(f:FrS A H H'):FrN A A' H H':=⟨by obtain⟨x,rfl,_⟩:=nx;rfl,fun b o e n=>⟨f b o e n,nx.out e n⟩,SA.tups f⟩
def T1(K:Frag)(A:SAd)(H:Hp)(b:Addr)(xs:#[a]):Prop:=(Rd H b (.lst xs)/\b∉A.fp)\/∀ H',SqL K H' b xs
theorem T1.sq{K:Frag}{A:SAd}{H:Hp}{b:Addr}{xs:#[a]}(h:T1 K A H b xs):SqL K H b xs:=by
 rcases h with h|h
 ·exact .inl h.1
 ·exact h H
theorem T1.fr{K:Frag}{A A':SAd}{H H':Hp}{b:Addr}{xs:#[a]}(f:FrN A A' H H')(h:T1 K A H b xs):T1 K A' H' b xs:=by
 rcases h with ⟨h,n⟩|h
 ·rcases h with h|⟨o,h⟩
  ·exact #[T,.inl (f.k _ _ h n).1,(f.k _ _ h n).2]
  ·exact #[T,.inr ⟨o,(f.k _ _ h n).1⟩,(f.k _ _ h n).2]
 ·exact .inr h
theorem T1.make{K:Frag}{H:Hp}{b:Addr}{xs:#[a]}(h:SqL K H b xs)(A:SAd)(H':Hp)(s:#[v])(hf:∀ x∈A.fp,H x=none):T1 K A H' b xs:=by
 rcases h with h|h
 ·have hn:b∉A.fp:=fun z=>by
   have:=hf b z;rcases h with h|⟨o,h⟩<;>(rw[this] at h;cases h)
  rcases h with h|⟨o,h⟩
  ·exact #[T,.inl (s _ _ h),hn]
  ·exact #[T,.inr ⟨o,s _ _ h⟩,hn]
 ·exact .inr fun _=>.inr h
structure O5(A:SAd)(H:Hp)(t lc ln:Addr)(cs nu:#[t]):Prop where
 at_:Nt H t lc ln cs nu
 o:t∉A.fp/\lc∉A.fp/\ln∉A.fp
theorem O5.fr{A A':SAd}{H H':Hp}{t lc ln:Addr}{cs nu:#[t]}(f:FrN A A' H H')(h:O5 A H t lc ln cs nu):O5 A' H' t lc ln cs nu:=by
 obtain⟨⟨a1,a2,a3,a4,a5,a6,a7,a8,a9⟩,o1,o2,o3⟩:=h;exact⟨⟨(f.k _ _ a1 o1).1,(f.k _ _ a2 o2).1,(f.k _ _ a3 o3).1,a4,a5,a6,a7,a8,a9⟩,(f.k _ _ a1 o1).2,(f.k _ _ a2 o2).2,(f.k _ _ a3 o3).2⟩
inductive Bk(mb:Bool)(ok:Addr->Prop)(H:Hp)(nu:#[t])(n:Nat):#[B]->Sea->Prop where
 | one {d:Addr} {P:Pg} {S:Sea} (h:PgAt ok H d P) (r:Rel mb P S) (o:SOk nu n S) (e:S.std=[]):Bk mb ok H nu n [d] S
 | snoc {ds:#[B]} {d:Addr} {P:Pg} {S S':Sea} (b:Bk mb ok H nu n ds S) (nd:d∉ds) (h:PgAt ok H d P) (r:Rel mb P S') (o:SOk nu n S') (st:Rx S S') (hd:∃ x,P.deed=some x/\S'.std=S.std++[(x,S.cur)]):Bk mb ok H nu n (ds++[d]) S'
section
variable{mb:Bool}{ok ok':Addr->Prop}{H H':Hp}{nu:#[t]}{n m:Nat}{ds:#[B]}{d:Addr}{P:Pg}{S S':Sea}
theorem Bk.keep(b:Bk mb ok H nu n ds S)(k:#[aw,x,x])(kt:#[aj]):Bk mb ok H' nu n ds S:=by
 induction b with
 | one h r o e=>exact .one (h.keep k kt) r o e
 | snoc b nd h r o st hd ih=>exact .snoc ih nd (h.keep k kt) r o st hd
theorem Bk.imp(b:Bk mb ok H nu n ds S)(k:#[ay]):Bk mb ok' H nu n ds S:=by
 induction b with
 | one h r o e=>exact .one (h.imp k) r o e
 | snoc b nd h r o st hd ih=>exact .snoc ih nd (h.imp k) r o st hd
theorem Bk.mono(b:Bk mb ok H nu n ds S)(e:n<=m):Bk mb ok H nu m ds S:=by
 induction b with
 | one h r o e'=>exact .one h r (o.mono e) e'
 | snoc b nd h r o st hd ih=>exact .snoc ih nd h r (o.mono e) st hd
theorem Bk.there(b:Bk mb ok H nu n ds S):∀ d∈ds,∃ kvs,H d=#[b,.dK,kvs]:=by
 induction b with
 | one h r o e =>
   intro d hd;rw[zwt.mp hd];obtain⟨_,_,_,_,_,_,_,a,_⟩:=h.split;exact⟨_,a⟩
 | snoc b nd h r o st hd ih =>
   intro d' hd';rcases zwy.mp hd' with z|z
   ·exact ih d' z
   ·rw[zwt.mp z];obtain⟨_,_,_,_,_,_,_,a,_⟩:=h.split;exact⟨_,a⟩
theorem Bk.other(b:Bk mb ok H nu n ds S)(he:H e=#[b,.dK,kvs])(hn:e∉ds):Bk mb ok (upd H e (.dK kvs')) nu n ds S:=by
 induction b with
 | one h r o e'=>exact .one (h.other (fun z=>hn (by rw[z];exact zye _)) he) r o e'
 | snoc b nd h r o st hd ih=>exact .snoc (ih fun z=>hn (zxb _ z)) nd (h.other (fun z=>hn (by rw[z];exact zw8 _ (zye _))) he) r o st hd
structure zhb(mb:Bool)(ok:Addr->Prop)(H:Hp)(nu:#[t])(n:Nat)(ds:#[B])(d:Addr)(dd:Option To)(S:Sea):Prop where
 nd:d∉ds
 ex:(ds=[]/\S.std=[])\/∃ S0,Bk mb ok H nu n ds S0/\Rx S0 S/\∃ x,dd=some x/\S.std=S0.std++[(x,S0.cur)]
structure Bd(mb:Bool)(ok:Addr->Prop)(H:Hp)(nu:#[t])(n:Nat)(ds:#[B])(d:Addr)(P:Pg)(S:Sea):Prop where
 pg:PgAt ok H d P
 rb:Pp mb P S
 so:SOk nu n S
 tl:zhb mb ok H nu n ds d P.deed S
structure Vf(mb:Bool)(ok:Addr->Prop)(H:Hp)(nu:#[t])(n:Nat)(ds:#[B])(d:Addr)(P:Pg)(S:Sea):Prop where
 pg:PgAt ok H d P
 re:Rel mb P S
 so:SOk nu n S
 tl:zhb mb ok H nu n ds d P.deed S
theorem Vf.pend(h:Vf mb ok H nu n ds d P S):Bd mb ok H nu n ds d P S:=⟨h.pg,h.re.b,h.so,h.tl⟩
theorem Vf.bk(h:Vf mb ok H nu n ds d P S):Bk mb ok H nu n (ds++[d]) S:=by
 obtain⟨nd,⟨rfl,e⟩|⟨S0,b,st,hd⟩⟩:=h.tl
 ·exact .one h.pg h.re h.so e
 ·exact .snoc b nd h.pg h.re h.so st hd
theorem Bk.full(b:Bk mb ok H nu n xs S):∃ ds d P,xs=ds++[d]/\Vf mb ok H nu n ds d P S:=by
 cases b with
 | one h r o e=>exact⟨[],_,_,rfl,h,r,o,nofun,#[T,rfl,e]⟩
 | snoc b nd h r o st hd=>exact⟨_,_,_,rfl,h,r,o,nd,.inr ⟨_,b,st,hd⟩⟩
theorem zhb.keep(h:zhb mb ok H nu n ds d dd S)(k:#[aw,x,x])(kt:#[aj]):zhb mb ok H' nu n ds d dd S:=by
 obtain⟨nd,e|⟨S0,b,r⟩⟩:=h
 ·exact⟨nd,.inl e⟩
 ·exact⟨nd,.inr ⟨S0,b.keep k kt,r⟩⟩
theorem Bd.same(h:Bd mb ok H nu n ds d P S)(e:#[v]):Bd mb ok H' nu n ds d P S:=⟨h.pg.same e,h.rb,h.so,h.tl.keep (fun _ _ _ q=>e _ _ q) fun _ _ q=>e _ _ q⟩
theorem Vf.same(h:Vf mb ok H nu n ds d P S)(e:#[v]):Vf mb ok H' nu n ds d P S:=⟨h.pg.same e,h.re,h.so,h.tl.keep (fun _ _ _ q=>e _ _ q) fun _ _ q=>e _ _ q⟩
theorem Bd.goes(h:Bd mb ok H nu n ds d P S)(hl:#[A,H,l,xs])(ol:ok l)(hg:∀ s,S.cur=some s->xs=s.gv)(hm:mb=true->P.mv=Je S):∃ kvs,H d=#[b,.dK,kvs]/\kvs.length<sizeLine/\Vf mb ok (upd H d (.dK (putK kvs (.inr "goes") (.ref l)))) nu n ds d { P with gv:=xs } S:=by
 obtain⟨kvs,a1,a2,a3⟩:=h.pg.setGoes hl ol;refine⟨kvs,a1,a2,a3,⟨⟨h.rb.len,h.rb.rest,h.rb.ppl,h.rb.out,h.rb.over,h.rb.lis⟩,hg,hm⟩,h.so,?_⟩;obtain⟨nd,e|⟨S0,b,r⟩⟩:=h.tl
 ·exact⟨nd,.inl e⟩
 ·exact⟨nd,.inr ⟨S0,b.other a1 nd,r⟩⟩
theorem Bd.full(h:Bd mb ok H nu n ds d P S)(hg:∀ s,S.cur=some s->P.gv=s.gv)(hm:mb=true->P.mv=Je S):Vf mb ok H nu n ds d P S:=⟨h.pg,⟨h.rb,hg,hm⟩,h.so,h.tl⟩
end
theorem zhc(r:Pp mb P S)(o:SOk nu n S)(af:Ul H' S D S' v)(hb:D≠.back)(hc:D≠.close):∃ x,(Uq P D).deed=some x/\S'.std=S.std++[(x,S.cur)]:=by
 have e:=r.at o;cases af with
 | enrol k gr c=>exact#[w,_,by rw[e]]
 | awayN h hl=>exact#[w,_,rfl]
 | awayF h hp hl=>exact#[w,_,rfl]
 | awayC h hp hl tl CR=>exact#[w,_,rfl]
 | draw hl F T=>exact#[w,_,by rw[e];rfl]
 | close h=>exact absurd rfl hc
 | back h ht hs=>exact absurd rfl hb
theorem turn(F:Vf mb (·∉A.fp) H nu n ds d P S)(SA:#[N])(af:Ul H1 S D S' v)(SA1:Zz ca H1 A' S')(nx:Qu A A' H)(fr:FrS A H H1)(g:Pn S D)(hn:∀ k gr c,D=.enrol k gr c->k∈nu)
  (pg:D≠.back->PgAt (fun x=>x∉A'.fp\/H1 x=none) H2 d' (Uq P D)) (s2:Same H1 H2) (fd:H1 d'=none) :
  ∃ ds2 d2 P2,zbv ds d d' D=ds2++[d2]/\Bd mb (·∉A'.fp) H2 nu (n+1) ds2 d2 P2 S'/\(D≠.back->P2=Uq P D)/\(D=.back\/D=.close->(∀ s,S'.cur=some s->P2.gv=s.gv)/\(mb=true->P2.mv=Je S')):=by
 have mv:∀ {xs:List Addr} {S0:Sea},Bk mb (·∉A.fp) H nu n xs S0->Bk mb (·∉A'.fp) H2 nu (n+1) xs S0:=fun b=>by
  have b1:=b.imp (ok':=fun x=>x∉A.fp/\x∉A'.fp) fun x ⟨o,e⟩ z=>⟨z,nx.out e z⟩
  have b2:=b1.keep (H':=H2) (fun x o z e=>s2 _ _ (fr x o e z.1)) fun t xs e=>s2 _ _ (SA.tups fr t xs e);exact(b2.imp fun x _ z=>z.2).mono (Nat.le_succ n)
 have hd1:∀ x∈ds++[d],x≠d':=fun x hx z=>by
  have b1:=F.bk.imp (ok':=fun x=>x∉A.fp/\x∉A'.fp) fun x ⟨o,e⟩ z=>⟨z,nx.out e z⟩
  have b2:=b1.keep (H':=H1) (fun x o z e=>fr x o e z.1) fun t xs e=>SA.tups fr t xs e;obtain⟨kvs,e⟩:=b2.there x hx;rw[z,fd] at e;cases e
 by_cases hb:D=.back
 ·subst hb;cases af with
  | @back S0' dd t h ht hs =>
    obtain⟨nd,⟨_,e⟩|⟨S0,b,st,_⟩⟩:=F.tl
    ·exact absurd e g
    ·have es:=zeu hs st;subst es;obtain⟨ds2,d2,P2,e,F2⟩:=(mv b).full;exact⟨ds2,d2,P2,e,F2.pend,fun z=>absurd rfl z,fun _=>⟨F2.re.gv,F2.re.mv⟩⟩
 ·have pg':PgAt (·∉A'.fp) H2 d' (Uq P D):=(pg hb).imp fun x hx z=>by
   rcases z with z|z
   ·exact z
   ·exact SA1.newOk x z
  obtain⟨o',ho⟩:=zha F.so g af hb hn;have rb:=zet F.re F.so g af hb;rcases ho with ⟨rfl,e1,e2⟩|⟨hc,st⟩
  ·exact⟨[],d',_,rfl,⟨pg',rb,o',nofun,#[T,rfl,e1]⟩,fun _=>rfl,fun _=>⟨fun s hs=>(by rw[e2] at hs;cases hs),fun _=>(by rw[Nv e2];rfl)⟩⟩
  ·have hk:zbv ds d d' D=(ds++[d])++[d']:=by
    cases D with
    | back=>exact absurd rfl hb
    | close=>exact absurd rfl hc
    | enrol _ _ _=>rfl
    | away _ _=>rfl
    | draw _=>rfl
   refine⟨ds++[d],d',_,hk,⟨pg',rb,o',fun z=>hd1 d' z rfl,.inr ⟨S,mv F.bk,st,zhc F.re.b F.so af hb hc⟩⟩,fun _=>rfl,?_⟩;rintro(z|z)
   ·exact absurd z hb
   ·exact absurd z hc
section
variable{mb:Bool}{ok ok':Addr->Prop}{A A':SAd}{H H':Hp}{nu:#[t]}{n m:Nat}{ds:#[B]}{d:Addr}{P:Pg}{S S':Sea}{D:Xx}
theorem PgAt.fr(f:FrN A A' H H')(h:PgAt (·∉A.fp) H d P):PgAt (·∉A'.fp) H' d P:=by
 have b1:=h.imp (ok':=fun x=>x∉A.fp/\x∉A'.fp) fun x ⟨o,e⟩ z=>⟨z,(f.k x o e z).2⟩
 have b2:=b1.keep (H':=H') (fun x o z e=>(f.k x o e z.1).1) f.kt;exact b2.imp fun x _ z=>z.2
theorem Xy.fr(f:FrN A A' H H')(h:Xy (·∉A.fp) H t D):Xy (·∉A'.fp) H' t D:=by
 cases D with
 | enrol a b c=>exact f.kt _ _ h
 | away a b=>exact f.kt _ _ h
 | draw ms =>
   obtain⟨l,ts,a1,a2,a3,a4⟩:=h;exact⟨l,ts,f.kt _ _ a1,(f.k _ _ a2 a4).1,a3.mono f.kt,(f.k _ _ a2 a4).2⟩
 | close=>exact f.kt _ _ h
 | back=>exact f.kt _ _ h
theorem Xy.same(e:#[v])(h:Xy ok H t D):Xy ok H' t D:=by
 cases D with
 | enrol a b c=>exact e _ _ h
 | away a b=>exact e _ _ h
 | draw ms =>
   obtain⟨l,ts,a1,a2,a3,a4⟩:=h;exact⟨l,ts,e _ _ a1,e _ _ a2,a3.mono fun _ _ z=>e _ _ z,a4⟩
 | close=>exact e _ _ h
 | back=>exact e _ _ h
theorem Xy.imp(k:∀ x,ok x->ok' x)(h:Xy ok H t D):Xy ok' H t D:=by
 cases D with
 | enrol a b c=>exact h
 | away a b=>exact h
 | draw ms =>
   obtain⟨l,ts,a1,a2,a3,a4⟩:=h;exact⟨l,ts,a1,a2,a3,k _ a4⟩
 | close=>exact h
 | back=>exact h
theorem Bk.len(b:Bk mb ok H nu n ds S):ds.length=S.std.length+1:=by
 induction b with
 | one h r o e=>rw[e];rfl
 | snoc b nd h r o st hd ih =>
   obtain⟨x,_,e⟩:=hd;rw[e,zwp,zwp,ih];rfl
theorem Vf.len(F:Vf mb ok H nu n ds d P S):ds.length=S.std.length:=by
 have:=F.bk.len;rw[zwp] at this;have h1:[d].length=1:=rfl;omega
theorem Vf.pre(F:Vf mb ok H nu n ds d P S)(g:Pn S D)(hn:n<100):zad S/\Sv S/\S.std.length<100/\S.out.length<=100000/\2*(tot S.led+1000)<=100000/\S.led.length<=1000/\S.old.length<=1000/\S.len<=1000/\(∀ i k,D=.away i k->Yc k)/\(D=.back->∃ S0,Rx S0 S):=by
 have h1:=F.so.num;have h2:=F.so.len;have h3:=F.so.olen;have h4:=F.so.tot;refine⟨F.so.cur,F.so.pok,by omega,by omega,by omega,by omega,by omega,by omega,?_,?_⟩
 ·rintro i k rfl;obtain⟨_,_,g3,_⟩:=g;obtain⟨x,hx,rfl⟩:=zwv.mp g3;exact F.so.pok.small x hx
 ·rintro rfl;obtain⟨nd,⟨_,e⟩|⟨S0,b,st,_⟩⟩:=F.tl
  ·exact absurd e g
  ·exact⟨S0,st⟩
theorem Vf.pre2(F:Vf mb ok H nu n ds d P S)(g:Pn S D)(hn:n<100):Kf P/\P.ppl.length<=100/\P.out.length<=900/\ds.length<=900/\(D=.close->∃ ms,P.lis=some ms/\ms.length<=100):=by
 have h1:=F.so.num;have h2:=F.len;have h3:=F.so.few;refine⟨F.re.b.ovok F.so,by rw[F.re.b.ppl];omega,by rw[F.re.b.out];omega,by omega,?_⟩;rintro rfl;obtain⟨_,g2⟩:=g;cases e:S.cur with
 | none=>exact absurd e g2
 | some s=>exact⟨s.ms,by rw[F.re.b.lis,e];rfl,zw6 (F.so.cur s e).1 ⋯⟩
end
inductive Gu(K:Frag)(ca:CA)(vs:#[a])(H:Hp)(Q:VK)(_:XK):Prop where
 | mk(mb:Bool)(A:SAd)(l le:Addr)(ts:#[a])(es:List P3)(ds:#[B])(d:Addr)(P:Pg)(S:Sea)(nu:#[t])(n:Nat)(_:vs=[.ref A.p,.ref l,.ref le])(_:#[N])(_:H l=some #[i,(ds++[d]).map,V.ref])(_:l∉A.fp)(_:Vf mb (·∉A.fp) H nu n ds d P S)(_:#[A,H,le,ts])(_:le∉A.fp)(_:#[L,H,es.map,enV])(_:(es.map (·.1)).Nodup)(_:(∀ x∈es,x.1∈nu/\¬ badI x.1 x.2.1 x.2.2/\x.1∉S.ppl.map (·.1)))(_:S.ppl.length+es.length<=30)(_:n+es.length<=90)(_:S.cur=none)(_:S.led.length<S.len)(_:∀ A' l' ds' d' P' S' H',Zz ca H' A' S'->H' l'=some #[i,(ds'++[d']).map,V.ref]->l'∉A'.fp->Vf mb (·∉A'.fp) H' nu (n+es.length) ds' d' P' S'->FrN A A' H H'->S'.cur=none->S'.led=S.led->S'.len=S.len->#[S,l'])
theorem zb0(pg:PgAt ok H d (zbu r q))(hr:r<=60)(hq:q<=10):Vf mb ok H nu n [] d (zbu r q) (zgw r q) :=
 ⟨pg,⟨⟨rfl,rfl,rfl,rfl,rfl,rfl⟩,nofun,fun _=>rfl⟩,⟨nofun,.nil,nofun,zxh _,rfl,nofun,⟨zxh _,hr,hq⟩,fun z=>absurd rfl z,⟨zxh _,zxh _⟩,fun s hs=>(by rcases hs with z|z<;>cases z)⟩,nofun,.inl ⟨rfl,rfl⟩⟩
theorem zew(S:Sea):V2 S (atV S)=S.cur:=by
 unfold V2 atV;rw[if_neg ⋯,if_neg ⋯]
theorem zb1(o:SOk nu n S)(h:S.cur=some s)(hk:k s):C5 ca H S (atV S) E k:=by
 have h1:=o.len;have h2:=o.lt (by rw[h];exact nofun);have h3:atV S=(S.led.length:Int)+1:=rfl;refine⟨Z0 ⋯ ⋯,o.olen,?_⟩;rw[if_neg ⋯,zew];exact⟨fun z=>(by rw[h] at z;cases z),fun s' hs=>(by rw[h] at hs;cases hs;exact hk)⟩
theorem ziu(SA:#[N])(h:Xy (fun x=>H x=none) H' t D):Xy (·∉A.fp) H' t D:=h.imp fun x hx=>SA.newOk x hx
def Gv(H H':Hp):Prop:=Xz H H'/\∀ x c e f,H x=some (.ins c e f)->H' x=some (.ins c e f)
theorem Gv.dict(h:H d=#[b,.dK,kvs]):Gv H (upd H d (.dK kvs')) :=
 ⟨.dict h,fun x c e f z=>by rw[Zh (Yu z h (by intro z;cases z))];exact z⟩
theorem ShAt.keepI(k:Gv H H')(h:ShAt C ok H q s):ShAt C ok H' q s:=by
 obtain⟨dx,l1,l2,l3,l4,ts,ls,gts,a1,a2,a3,a4,a5,a6,a7,a8,o1,o2,o3,o4,o5,o6⟩:=h;exact⟨dx,l1,l2,l3,l4,ts,ls,gts,k.2 _ _ _ _ a1,k.1.1 _ _ a2,a3.mono k.1.2,k.1.1 _ _ a4,ILs.keepL k.1 a5,k.1.1 _ _ a6,k.1.1 _ _ a7,a8.keepL k.1,o1,o2,o3,o4,o5,o6⟩
theorem ShO.keepI(k:Gv H H')(h:ShO C ok H v s):ShO C ok H' v s:=by
 cases s with
 | none=>exact h
 | some s=>obtain⟨q,e,h⟩:=h;exact⟨q,e,h.keepI k⟩
theorem ShL.keepI(k:Gv H H'):∀ {vs:List V} {ss:List Z6},ShL C ok H vs ss->ShL C ok H' vs ss
 | _,_,.nil=>.nil
 | _,_,.cons h r=>.cons (h.keepI k) (ShL.keepI k r)
theorem Uh.keepI(k:Gv H H'):∀ {vs:List V} {ss:List (To×Option Z6)},Uh C ok H vs ss->Uh C ok H' vs ss
 | _,_,.nil=>.nil
 | _,_,.cons h hu hs r=>.cons (k.1.2 _ _ h) (k.1.2 _ _ hu) (hs.keepI k) (Uh.keepI k r)
theorem Zz.dictW(h:#[N])(hd:H d=#[b,.dK,kvs])(n:d∉A.fp):Zz ca (upd H d (.dK kvs')) A S:=by
 have k:=Gv.dict hd (kvs':=kvs');have hn:∀ x∈A.fp,∀ o,H x=#[d]->upd H d (.dK kvs') x=#[d]:=fun x hx o e=>by rw[Zh fun z=>n (by rw[<- z];exact hx)];exact e
 obtain⟨⟨dx,v,a1,a2⟩,b,c,⟨kvs0,d1,d2⟩,⟨vs,f1,f2⟩,⟨us,g1,g2⟩,nd,np⟩:=h;have hp:A.p∈A.fp:=by simp[SAd.fp]
 have hdr:A.dr∈A.fp:=by simp[SAd.fp]
 have hlr:A.lr∈A.fp:=by simp[SAd.fp]
 have hld:A.ld∈A.fp:=by simp[SAd.fp]
 have hda:A.da∈A.fp:=by simp[SAd.fp]
 have hls:A.ls∈A.fp:=by simp[SAd.fp]
 have hlt:A.lt∈A.fp:=by simp[SAd.fp]
 obtain⟨⟨dxr,kvr,r1,r2,r3⟩,ndr⟩:=b;obtain⟨⟨dxl,l1⟩,l2,l3⟩:=id c;refine⟨⟨dx,v,hn _ hp _ a1,a2.keepI k⟩,⟨⟨dxr,kvr,k.2 _ _ _ _ r1,hn _ hdr _ r2,r3.mono k.1.2⟩,ndr⟩,c.keep (fun o e=>?_) (hn _ hlr) (hn _ hld) k.1.2,⟨kvs0,hn _ hda _ d1,d2⟩,⟨vs,hn _ hls _ f1,f2.keepI k⟩,⟨us,hn _ hlt _ g1,g2.keepI k⟩,nd,np⟩;rw[l1] at e;cases e;exact k.2 _ _ _ _ l1
theorem FrN.dictW{A:SAd}{H:Hp}{d:Addr}{kvs kvs':#[W]}(hd:H d=#[b,.dK,kvs]){b:Addr}{o:HO}(e:H b=some o)(h:∀ k,o≠.dK k):upd H d (.dK kvs') b=some o:=by
 rw[Zh (Yu e hd (by intro z;exact h _ z))];exact e
theorem T1.dictW{K:Frag}{A:SAd}{H:Hp}{d b:Addr}{kvs kvs':#[W]}{xs:#[a]}(h:T1 K A H b xs)(hd:H d=#[b,.dK,kvs]):T1 K A (upd H d (.dK kvs')) b xs:=by
 rcases h with ⟨h|⟨o,h⟩,n⟩|h
 ·exact #[T,.inl (FrN.dictW (A:=A) hd h (by intro k z;cases z)),n]
 ·exact #[T,.inr ⟨o,FrN.dictW (A:=A) hd h (by intro k z;cases z)⟩,n]
 ·exact .inr h
theorem O5.dictW{A:SAd}{H:Hp}{d t lc ln:Addr}{cs nu:#[t]}{kvs kvs':#[W]}(h:O5 A H t lc ln cs nu)(hd:H d=#[b,.dK,kvs]):O5 A (upd H d (.dK kvs')) t lc ln cs nu:=by
 have k:=Xz.dict hd (kvs':=kvs');obtain⟨⟨a1,a2,a3,a4,a5,a6,a7,a8,a9⟩,o⟩:=h;exact⟨⟨k.2 _ _ a1,k.1 _ _ a2,k.1 _ _ a3,a4,a5,a6,a7,a8,a9⟩,o⟩
end G
namespace L2
open PySem PySem.Spec PyProof.Rows
theorem fnS(a:sc.kind=.function:=by rfl)(b:sc.isCoroutine=false:=by rfl)(c:sc.isGenerator=false:=by rfl)(d:N.Nodup:=by decide +kernel)(e:N.take P.length=P:=by rfl)(f:∀ x∈P,sc.names.lookup x=some .local\/sc.names.lookup x=some .cell:=by decide +kernel)(g:∀ y∈sc.names,y.2≠.free:=by decide +kernel):Zo N P sc:=⟨a,b,c,d,e,f,g⟩
section
variable{X:Cx}{k j:Nat}{C:Addr}{ps:#[D]}{sp:Sp}{E:XK}{x m:Str}{p pos pos' apos:Pos}{e o a b:Expr}{es:List Expr}{ta tb te:TE}{t:TA}{r:R2}
theorem pS(i:Nat)(hN:X.N.Nodup)(he:PE X e te)(hi:X.N[i]?=some x:=by rfl)(hx:Loc X.env.scope x:=by first|exact Or.inl rfl|exact Or.inr rfl)(hs:swapsWith e (some (.Name x pos')) pos.line X.env=pure false:=by rfl)(hf:za3 X i x:=by first|exact⟨.inl rfl,Wk⟩|exact⟨.inr rfl,Wk⟩|assumption|exact⟨.inl rfl,by assumption⟩|exact⟨.inr rfl,by assumption⟩) :
  PS X (.Assign [.Name x pos'] e pos) (Bs te (Ws i)):=zjl hN hi hx he hs hf
theorem pN(i:Nat)(hN:X.N.Nodup)(hi:X.N[i]?=some x:=by rfl)(hx:Loc X.env.scope x:=by first|exact Or.inl rfl|exact Or.inr rfl)(hf:za3 X i x:=by first|exact⟨.inl rfl,Wk⟩|exact⟨.inr rfl,Wk⟩|assumption|exact⟨.inl rfl,by assumption⟩|exact⟨.inr rfl,by assumption⟩):PG X (.Name x pos) (Ws i):=Tf hN hi hx hf
theorem pI(hr:IxR X r)(ha:PE X a ta)(hb:PE X b tb)(hs:zcn b:=by exact fun _ _=>rfl):PE X (.Subscript a b pos) (tOp r ta tb):=zlr hr ha hb hs
theorem pD(hu:X.A.units+1<cLine)(ho:PE X a ta)(hi:PE X b tb)(hs:zjr b:=by exact fun _ _=>rfl):PE X (.Subscript a b pos) (B3 ta tb):=zhy hu ho hi hs
theorem pF(D:Z4 X.prog X.w X.K X.mg X.base x k ps sp)(hr:Vj j X.A)(ha:PA X (e :: es) t)(hk:k<=j:=by decide)(hx:Ve (CX1 X.prog X.w) X E:=by exact Zk)(hg:Gl X x:=by rfl)(hdb:(x == ("__debug__":Str))=false:=by decide)
  (he:starEach (e :: es) X.env=(false,#[F,e]) :: starEach es X.env:=by rfl) (hpl:#[ax]=false:=by rfl):PE X (.Call (.Name x p) (e :: es) [] pos) (zcg sp [] E t):=Af D (hr.mono hk) hx hg ha hdb he hpl
theorem iL(K:Frag)(h:X.K=K:=by rfl):IxR X (Fw K):=zf6 h
theorem iU(K:Frag)(h:X.K=K:=by rfl):IxR X (zfv K):=zh8 h
theorem cL(K:Frag)(h:X.K=K:=by rfl):Vx X (.builtin "len") (fun xs H Q=>∃ p ys,xs=[.ref p]/\(SqL K H p ys\/SqT K H p ys)/\Q (.int ys.length) H):=F6 h
end
theorem cT(ys:#[D])(js:List Nat)(a:closureFor scope X.env=pure cl:=by rfl)(b:scope.kind=.function:=by rfl)(c:∀ y∈scope.names,y.2=.local->scope.names.lookup y.1=some .local:=by decide +kernel)(d:∀ y∈scope.names,y.2≠.cell:=by decide +kernel)(e:scope.names.lookup x=some .local:=by rfl)(f:(x :: ys).Nodup:=by decide +kernel)(g:js.map (X.N[·]?)=ys.map some:=by rfl)
  (h:F3 (fun y=>X.env.kindOf y=some .cell/\(relabel scope X.env).names.lookup y=some .cell/\cl.lookup y=#[V,y]) ys:=by repeat' (first|exact True.intro|apply And.intro|rfl)) (i:F3 (fun p=>#[V,p.1]=some p.2) cl:=by repeat' (first|exact True.intro|apply And.intro|rfl)) (j:∀ y∈scope.names,y.2=.free->y.1∈ys:=by decide +kernel):zcp X x scope cl ys js:=⟨a,b,c,d,e,f,g,h,i,j⟩
abbrev LkF(K:Frag)(f:Addr)(x q:Str)(st:Stmt)(oc kV dc pm cd ct:Value)(od an:Option Addr)(sl:Array (Option Value)):Prop:=K.lookup f=some ⟨oc,od,.func (PySem.W.fnOf x q (Sr st) (Zx st) (Zj st) .none kV dc pm an cd ct),sl⟩
abbrev NsB(K:Frag)(x:Str)(f:Addr):Prop:=PySem.W.nsIn K mainGlobals x=some #[e,f]
abbrev FdB(K:Frag)(c:Addr)(x:Str)(f:Addr):Prop:=PySem.W.findIn K (.ref c) x=some #[e,f]
abbrev BnA(x q:Str)(st:Stmt)(ps:#[D]):Prop:=∀ (kV doc pm:Value) (an:Option Addr) (cdv ct:Value) (us:List Value),us.length=ps.length->bindArgs (PySem.W.fnOf x q (Sr st) (Zx st) (Zj st) .none kV doc pm an cdv ct) ⟨us,[]⟩=pure (ps.zip us)
abbrev BnE(x q:Str)(st:Stmt)(ps:#[D])(us:#[R]):Prop:=∀ (kV doc pm:Value) (an:Option Addr) (cdv ct:Value),bindArgs (PySem.W.fnOf x q (Sr st) (Zx st) (Zj st) .none kV doc pm an cdv ct) ⟨us,[]⟩=pure (ps.zip us)
section
variable{x q a b c d e g:Str}{st:Stmt}
theorem bnS{us:#[R]}{n:Nat}(h:us.length=n+1):∃ u vs,us=u :: vs/\vs.length=n:=by
 cases us with
 | nil=>cases h
 | cons u vs=>exact⟨u,vs,rfl,Nat.succ.inj h⟩
theorem bn1(h:∀ u,BnE x q st [a] [u]:=by intros _ _ _ _ _ _ _;rfl):BnA x q st [a]:=fun _ _ _ _ _ _ us hl=>by obtain⟨_,us,rfl,l0⟩:=bnS hl;cases us with|nil=>exact h _ _ _ _ _ _ _|cons _ _=>cases l0
theorem bn2(h:∀ u v,BnE x q st [a,b] [u,v]:=by intros _ _ _ _ _ _ _ _;rfl):BnA x q st [a,b]:=fun _ _ _ _ _ _ us hl=>by obtain⟨_,us,rfl,l0⟩:=bnS hl;obtain⟨_,us,rfl,l1⟩:=bnS l0;cases us with|nil=>exact h _ _ _ _ _ _ _ _|cons _ _=>cases l1
theorem bn3(h:∀ u v w,BnE x q st [a,b,c] [u,v,w]:=by intros _ _ _ _ _ _ _ _ _;rfl):BnA x q st [a,b,c]:=fun _ _ _ _ _ _ us hl=>by obtain⟨_,us,rfl,l0⟩:=bnS hl;obtain⟨_,us,rfl,l1⟩:=bnS l0;obtain⟨_,us,rfl,l2⟩:=bnS l1;cases us with|nil=>exact h _ _ _ _ _ _ _ _ _|cons _ _=>cases l2
theorem bn4(h:∀ u v w y,BnE x q st [a,b,c,d] [u,v,w,y]:=by intros _ _ _ _ _ _ _ _ _ _;rfl):BnA x q st [a,b,c,d]:=fun _ _ _ _ _ _ us hl=>by obtain⟨_,us,rfl,l0⟩:=bnS hl;obtain⟨_,us,rfl,l1⟩:=bnS l0;obtain⟨_,us,rfl,l2⟩:=bnS l1;obtain⟨_,us,rfl,l3⟩:=bnS l2;cases us with|nil=>exact h _ _ _ _ _ _ _ _ _ _|cons _ _=>cases l3
theorem bn5(h:∀ u v w y z,BnE x q st [a,b,c,d,e] [u,v,w,y,z]:=by intros _ _ _ _ _ _ _ _ _ _ _;rfl):BnA x q st [a,b,c,d,e]:=fun _ _ _ _ _ _ us hl=>by obtain⟨_,us,rfl,l0⟩:=bnS hl;obtain⟨_,us,rfl,l1⟩:=bnS l0;obtain⟨_,us,rfl,l2⟩:=bnS l1;obtain⟨_,us,rfl,l3⟩:=bnS l2;obtain⟨_,us,rfl,l4⟩:=bnS l3;cases us with|nil=>exact h _ _ _ _ _ _ _ _ _ _ _|cons _ _=>cases l4
end
section
variable{K:Frag}{mg:#[U]}{x y q m:Str}{k:Nat}{ps:#[D]}{sp:Sp}{C:Addr}{st:Stmt}{f:Addr}{fd:FuncData}
theorem dMk(P:Program)(w:World)(base:Heap)(F:#[l,x,q,st])(ok:FnOk P w K mg base #[k] k f fd ps sp)(b:mg y=#[b,.ref,f])(hb:BnA x q st ps:=by first|exact bn1|exact bn2|exact bn3|exact bn4|exact bn5):Z4 P w K mg base y k ps sp:=⟨f,fd,ok,b,F.kp,F.binds hb⟩
theorem mMk(P:Program)(w:World)(base:Heap)(F:#[l,x,q,st])(ok:FnOk P w K mg base #[k] k f fd ps sp)(b:zfk K C m f)(hb:BnA x q st ps:=by first|exact bn1|exact bn2|exact bn3|exact bn4|exact bn5):Zw P w K mg base C m k ps sp:=⟨f,fd,ok,b,F.binds hb⟩
theorem nMk(P:Program)(w:World)(base:Heap)(F:#[l,x,q,st])(ok:FnOk P w K mg base #[k] k f fd ps sp)(b:Mk K C f)(c:mg y=#[b,.ref,C])(hb:BnA x q st ps:=by first|exact bn1|exact bn2|exact bn3|exact bn4|exact bn5):Tt P w K mg base y C k ps sp:=⟨f,fd,ok,b,c,F.binds hb⟩
end
structure LN(K:Frag)(x q:Str)(st:Stmt)(f:Addr)(oc kV dc pm cd ct:Value)(od an:Option Addr)(sl:Array (Option Value)):Prop where
 b:NsB K x f
 l:LkF K f x q st oc kV dc pm cd ct od an sl
 c:PySem.W.codeIn K cd q=true
 k:PySem.W.keepIn K (.ref f)=true
structure LM(K:Frag)(C:Addr)(x q:Str)(st:Stmt)(f:Addr)(oc kV dc pm cd ct:Value)(od an:Option Addr)(sl:Array (Option Value)):Prop where
 b:FdB K C x f
 l:LkF K f x q st oc kV dc pm cd ct od an sl
 c:PySem.W.codeIn K cd q=true
 k:PySem.W.keepIn K (.ref f)=true
 i:PySem.W.isFn K (.ref f)=true
abbrev XcB(K:Frag)(c:Addr):Prop:=PySem.W.excIn K c [.type "ValueError",.type "Exception",.type "BaseException",.type "object"] "ValueError.__new__"=true
abbrev NzB(K:Frag)(x:Str):Prop:=PySem.W.nsIn K mainGlobals x=some none
structure XG(P:Program)(w:World)(base:Heap)(K:Frag)(mg:#[U])(h:Heap):Prop where
 X:K.In h
 G:h.Ns mainGlobals mg
section
variable{P:Program}{w:World}{base h:Heap}{K:Frag}{mg:#[U]}{x y q:Str}{k:Nat}{ps:#[D]}{sp:Sp}{C:Addr}{st:Stmt}{f:Addr}{oc kV dc pm cd ct:Value}{od an:Option Addr}{sl:Array (Option Value)}
theorem dN(Z:XG P w base K mg h)(l:LN K x q st f oc kV dc pm cd ct od an sl)(ok:∀ {fd},#[l,x,q,st]->FnOk P w K mg base #[k] k f fd ps sp)(hb:BnA x q st ps:=by first|exact bn1|exact bn2|exact bn3|exact bn4|exact bn5):Z4 P w K mg base x k ps sp :=
 dMk P w base (Nf l.l l.c l.k) (ok (Nf l.l l.c l.k)) (PySem.W.mg_of Z.X Z.G l.b) hb
theorem mM(_:XG P w base K mg h)(l:LM K C x q st f oc kV dc pm cd ct od an sl)(ok:∀ {fd},#[l,x,q,st]->FnOk P w K mg base #[k] k f fd ps sp)(hb:BnA x q st ps:=by first|exact bn1|exact bn2|exact bn3|exact bn4|exact bn5):Zw P w K mg base C x k ps sp :=
 mMk P w base (Nf l.l l.c l.k) (ok (Nf l.l l.c l.k)) ⟨l.b,l.i,l.k⟩ hb
theorem nM(Z:XG P w base K mg h)(l:LM K C "__init__" q st f oc kV dc pm cd ct od an sl)(m:PySem.W.makesIn K C=true)(kc:PySem.W.keepIn K (.ref C)=true)(c:PySem.W.nsIn K mainGlobals y=some #[e,C])(ok:∀ {fd},#[l,"__init__",q,st]->FnOk P w K mg base #[k] k f fd ps sp)(hb:BnA "__init__" q st ps:=by first|exact bn1|exact bn2|exact bn3|exact bn4|exact bn5):Tt P w K mg base y C k ps sp :=
 nMk P w base (Nf l.l l.c l.k) (ok (Nf l.l l.c l.k)) ⟨m,l.b,l.i,kc⟩ (PySem.W.mg_of Z.X Z.G c) hb
end
section
variable{X:Cx}{elt iter:Expr}{x:Str}{px pos:Pos}{ifs:List Expr}{scope:Scope}{cl:List (Str×Addr)}{ys:#[D]}{js:List Nat}
theorem Gw{pins:#[z]}{σ:St}{H:Hp}{s:Shared}{tt:TT}{te:TE}{it:Addr}{fp:#[B]}{tn:Nat->Heap->Prop}{J:It}{W:Nat->Nat->#[a]->Hp->Prop}{m0:Nat}{Q:VK}{E:Value->Shared->Prop}{RR:Value->Addr->Result->Shared->Prop}
  (hcm:X.calm=true) (c:zcp X x scope cl ys js) (ht:∀ pn s₀ H₀ fp C,PTs (Yz X pn (x :: ys) scope cl s₀ H₀ fp C) ifs tt) (hgt:∀ pn s₀ H₀ fp C,PG (Yz X pn (x :: ys) scope cl s₀ H₀ fp C) (.Name x px) (Ws 0)) (he:∀ pn s₀ H₀ fp C,PE (Yz X pn (x :: ys) scope cl s₀ H₀ fp C) elt te)
  (I:#[j]) (T:Bu X.prog X.w X.K (.Name x px) J fp it tn) (st0:tn 0 s.heap) (hf:∀ b∈fp,FpOk X pins H b) (w0:W 0 m0 [] H)
  (turn:∀ i m ys H,W i m ys H->(J.stop i H/\ys.length<=sizeLine/\∀ p,H p=none->Q (.ref p) (upd H p (.lst ys))) \/
   (J.go i H/\ys.length<sizeLine/\∃ N:#[a]->Hp->Prop,(∀ ys' H',N ys' H'->∃ m',m' < m/\W (i+1) m' ys' H')/\∀ x H',J.yld i H x H'->tt (cs js σ x) H' fun b H2=>if b=true then te (cs js σ x) H2 fun y H3=>N (ys++[y]) H3 else N ys H2))
  (hRR:∀ D C s' m,s'.heap.Ns C m->(∀ h',Heap.SameBut C s'.heap h'->∃ H',Inv X pins σ H' { s' with heap:=h' }/\Q (.ref D) H')->(∃ H',Inv X pins σ H' s'/\Q (.ref D) H'/\H' C=none)->s.heap.objs.size<=C->RR (.ref D) C (.ok .next) s') :
  wpAny (model X.prog X.w) X.A (newList []) (fun acc s₃=>#[aa,X.A,newFunctionEnv scope X.env.globals cl [] X.env.qual none .none (some X.env),(fun cenv s₄ =>
   codeAny (model X.prog X.w) X.A (.compStart (.ListComp elt [⟨.Name x px,iter,ifs,0⟩] scope pos) 0 (.ref it) acc { cenv with scope:=relabel scope X.env }) (RR acc cenv.locals) s₄),E,s₃]) E s :=
 Hw (xo:=[x]) (g:=Ws 0) hcm ⟨c.clos,c.kind,c.names,c.nocell,c.at_,c.free,c.only,c.vis⟩ ht hgt he I T st0 hf w0 (fun i m ys H w=>(turn i m ys H w).imp id fun ⟨a,b,N,n1,n2⟩=>⟨a,b,N,n1,fun y H' hy=>⟨#[w,[some y],rfl],n2 y H' hy⟩⟩) hRR
variable{wi:TI}{tt:TT}{te:TE}
theorem X7(hcm:X.calm=true)(c:zcp X x scope cl ys js)(hi:PI X (.Name x px) iter wi)(ht:∀ pn s₀ H₀ fp C,PTs (Yz X pn (x :: ys) scope cl s₀ H₀ fp C) ifs tt)(he:∀ pn s₀ H₀ fp C,PE (Yz X pn (x :: ys) scope cl s₀ H₀ fp C) elt te)
  (hx:∀ C,(compEnvC scope cl C X.env).scope.names.lookup x=some .local:=by intro _;rfl) (hs:∀ x,foldedSetIterable iter X.env x=pure x:=by intro _;rfl):PE X (.ListComp elt [⟨.Name x px,iter,ifs,0⟩] scope pos) (Ab wi js tt te):=by
 intro pins s σ H Q I h;rw[eval_ListComp];refine wpAny_comprehension_free (use:=none) rfl hs c.clos c.kind c.names (thn (hi pins s σ H _ I h) fun v s1 h1=>thn h1 fun itv s2 h2=>?_);obtain⟨it,fp,tn,J,H2,e,I2,T,st2,f2,W,⟨m0,w0⟩,turn⟩:=h2;subst e;exact Gw (RR:=fun acc C=>compPost (model X.prog X.w) X.A X.xe none (EP X pins σ Q) acc C) hcm c ht (fun _ _ _ _ C=>Tf (X:=Yz X _ (x :: ys) scope cl _ _ _ C) c.nd rfl (.inl (hx C)) ⟨.inr (hx C),Wk⟩) he I2 T st2 f2 w0 turn fun D C s' m hn hS _ _=>⟨m,hn,fun h' hs'=>let ⟨H',I',q⟩:=hS h' hs';⟨.ref D,H',I',rfl,q⟩⟩
theorem Sw{y:Str}{py spos:Pos}{i:Nat}(hN:X.N.Nodup)(hy:X.N[i]?=some y)(hk:X.env.scope.names.lookup y=some .local)(hcm:X.calm=true)(c:zcp X x scope cl ys js)(hi:PI X (.Name x px) iter wi)(ht:∀ pn s₀ H₀ fp C,PTs (Yz X pn (x :: ys) scope cl s₀ H₀ fp C) ifs tt)
  (he:∀ pn s₀ H₀ fp C,PE (Yz X pn (x :: ys) scope cl s₀ H₀ fp C) elt te)
  (hx:∀ C,(compEnvC scope cl C X.env).scope.names.lookup x=some .local:=by intro _;rfl) (hsw:swapsWith (.ListComp elt [⟨.Name x px,iter,ifs,0⟩] scope pos) (some (.Name y py)) spos.line X.env=pure true:=by rfl) (hs:∀ x,foldedSetIterable iter X.env x=pure x:=by intro _;rfl)
  (hf:za3 X i y:=by first|exact⟨.inr rfl,Wk⟩|assumption|exact⟨.inr rfl,by assumption⟩) :
  PS X (.Assign [.Name y py] (.ListComp elt [⟨.Name x px,iter,ifs,0⟩] scope pos) spos) (Bs (Ab wi js tt te) (Ws i)):=by
 intro pins s σ H D0 I h;rw[exec_Assign_Name_used _ _ _ _ hsw];refine wpAny_bind (wpAny_standAt (wpAny_bind ?_));show wpAny _ X.A (do let _ <- comprehension (.ListComp elt [⟨.Name x px,iter,ifs,0⟩] scope pos) scope X.env _ (newList []) false #[F,iter] (some (assign (.Name y py) X.env))) _ _ s;refine wpAny_bind (wpAny_mono (wpAny_comprehension_free (use:=some (assign (.Name y py) X.env)) (Q:=fun _ s'=>SP X pins D0 .next s') rfl hs c.clos c.kind c.names
  (thn (hi pins s σ H _ I h) fun v s1 h1=>thn h1 fun itv s2 h2=>?_)) (fun _ s' hq=>wpAny_pure (wpAny_pure hq)) fun _ _ e=>e)
 obtain⟨it,fp,tn,J,H2,e,I2,T,st2,f2,W,⟨m0,w0⟩,turn⟩:=h2;subst e;refine Gw (Q:=fun x H1=>D0.nx (σ.set i (some x)) H1) (RR:=fun acc C=>compPost (model X.prog X.w) X.A X.xe (some (assign (.Name y py) X.env)) (fun _ s'=>SP X pins D0 .next s') acc C) hcm c ht (fun _ _ _ _ C=>Tf (X:=Yz X _ (x :: ys) scope cl _ _ _ C) c.nd rfl (.inl (hx C)) ⟨.inr (hx C),Wk⟩) he I2 T st2 f2 w0 turn fun D C s' m hn _ hS hC=>?_;obtain⟨H',I',q,fC⟩:=hS;show wpAny _ X.A (assign (.Name y py) X.env (.ref D)) _ _ _;have ltC:∀ b o,s2.heap.get? b=#[d]->b≠C:=fun b o e=>zxd (zw5 (Heap.lt_size e) hC);have neL:C≠X.env.locals:=by
  obtain⟨_,⟨o,_,_,ho,_⟩,_⟩:=I2.loc;exact Ne.symm (ltC _ o ho)
 have neK:∀ z a,#[V,z]=some a->a≠C:=fun z a e=>by
  obtain⟨_,o,ho,_⟩:=I2.cell z a e;exact ltC a o ho
 refine wpAny_assign_Name (Ez I' hN hy (.inl hk) (v:=.ref D) (show RelV (.ref D) (.ref D) from rfl) (fun s4 I4 ⟨a,hs4,ha⟩=>?_) hf);have naC:C≠a:=by
  rcases ha with ha|ha
  ·rw[ha];exact neL
  ·exact Ne.symm (neK _ _ ha)
 refine⟨m,hn.sameBut hs4 naC,fun h5 hs5=>⟨_,H',?_,q⟩⟩;refine I4.turned (t':=s4.toks) (it:=C) (fun b o hb e=>hs5.extBut b o hb e) fC neL (.inr (zw6 I2.sz hC)) neK fun p hp=>?_;obtain⟨e,_⟩:=I2.pin p hp;exact ltC _ _ e
end
end L2
namespace G
open PySem PySem.Spec PyProof.Rows L2
def Vy:Xx->Str
 | .enrol _ _ _=>"enrol"
 | .away _ _=>"away"
 | .draw _=>"draw up"
 | .close=>"close"
 | .back=>"take back"
theorem Xy.word(h:Xy ok H t D):∃ r,H t=#[E,.str (Vy D) :: r]:=by
 cases D with
 | enrol a b c=>exact⟨_,h⟩
 | away a b=>exact⟨_,h⟩
 | draw ms=>obtain⟨l,ts,a1,_⟩:=h;exact⟨_,a1⟩
 | close=>exact⟨_,h⟩
 | back=>exact⟨_,h⟩
theorem D3:#[g,V.str (Vy D)=V.str "away"]=match D with|.away _ _=>true|_=>false:=by
 cases D with
 | away a b=>exact Ov
 | enrol a b c=>exact Wn (show #[g,("enrol":Str)="away"]=false by decide +kernel)
 | draw ms=>exact Wn (show #[g,("draw up":Str)="away"]=false by decide +kernel)
 | close=>exact Wn (show #[g,("close":Str)="away"]=false by decide +kernel)
 | back=>exact Wn (show #[g,("take back":Str)="away"]=false by decide +kernel)
end G
namespace G
open PySem PySem.Spec PyProof.Rows L2
theorem ziv(h:¬ ∃ i n,D=.away i n):#[g,V.str (Vy D)=V.str "away"]=false:=by
 rw[D3];cases D with
 | away i n=>exact absurd ⟨_,_,rfl⟩ h
 | enrol _ _ _=>rfl
 | draw _=>rfl
 | close=>rfl
 | back=>rfl
inductive RwL(H:Hp):#[B]->#[Z]->Prop where
 | nil:RwL H [] []
 | cons {l:Addr} {ls:#[B]} {ts:#[a]} {rs:List Row} {Rs:#[Z]} (h:#[A,H,l,ts]) (t:#[L,H,rs.map,row4]) (n:RwL H ls Rs):RwL H (l :: ls) (rs :: Rs)
theorem RwL.same(e:#[v]):∀ {ls:List Addr} {Rs:List (List Row)},RwL H ls Rs->RwL H' ls Rs
 | _,_,.nil=>.nil
 | _,_,.cons h t n=>.cons (e _ _ h) (t.same e) (RwL.same e n)
theorem RwL.length:∀ {ls:List Addr} {Rs:List (List Row)},RwL H ls Rs->ls.length=Rs.length
 | _,_,.nil=>rfl
 | _,_,.cons _ _ n=>by simp[RwL.length n]
theorem RwL.snoc(h:#[A,H,l,ts])(t:#[L,H,rs.map,row4]):∀ {ls:List Addr} {Rs:List (List Row)},RwL H ls Rs->RwL H (ls++[l]) (Rs++[rs])
 | _,_,.nil=>.cons h t .nil
 | _,_,.cons h' t' n=>.cons h' t' (RwL.snoc h t n)
theorem RwL.getR:∀ {ls:List Addr} {Rs:List (List Row)} {i:Nat} {rs:List Row},RwL H ls Rs->Rs[i]?=some rs->∃ l ts,ls[i]?=some l/\H l=#[x,ts]/\#[L,H,rs.map,row4]
 | _,_,_,_,.nil,e=>by simp at e
 | _,_,0,_,.cons h t n,e=>by simp at e;subst e;exact⟨_,_,rfl,h,t⟩
 | _,_,i+1,rs,.cons h t n,e=>by
   obtain⟨l,ts,h1,h2⟩:=RwL.getR (i:=i) (rs:=rs) n (by simpa using e);exact⟨l,ts,by simpa using h1,h2⟩
inductive D4(ca:CA)(vs:#[a])(H:Hp)(Q:VK)(_:XK):Prop where
 | mk(A:SAd)(S:Sea)(_:vs=[.ref A.p])(_:#[N])(_:S.led.length<=900)(_:∀ l ls H',H' l=some #[i,ls.map,V.ref]->RwL H' ls S.led->#[v]->H l=none->(∀ x∈ls,H x=none)->#[S,l])
inductive Gx(K:Frag)(vs:#[a])(H:Hp)(Q:VK)(_:XK):Prop where
 | mk(ok:Addr->Prop)(l d:Addr)(ls:#[B])(P:Pg)(_:#[ac,l,d])(_:H l=some #[i,ls.map,V.ref])(_:PgAt ok H d P)(_:Kf P)(_:RwL H ls (P.over.map Ya))(_:∀ H',Same H H'->Q (.bl true) H')
inductive Gy(vs:#[a])(H:Hp)(Q:VK)(_:XK):Prop where
 | mk(t1 t2:Addr)(d:To)(_:#[ac,t1,t2])(_:H t1=some (.tup (W3 d)))(_:H t2=some (.tup (W3 d)))(_:Q (.bl true) H)
inductive Nw(K:Frag)(vs:#[a])(H:Hp)(Q:VK)(_:XK):Prop where
 | mk(b c:Addr)(ts us:#[a])(ds:List To)(_:#[ac,b,c])(_:#[A,H,b,ts])(_:#[A,H,c,us])(_:#[L,H,ds.map,W3])(_:TupL H us (ds.map W3))(_:ds.length<=1000)(_:Q (.bl true) H)
end G
namespace L2
open PySem PySem.Spec PyProof.Rows PySem.Builtin PySem.Builtin.Str
theorem D5:OpR X (binaryOp .Add) (fun x y H Q=>∃ a b:Str,x=.str a/\y=.str b/\a.length+b.length<=sizeLine/\Q (.str (a++b)) H):=by
 intro pins s σ H x y v u Q I rx ry h;obtain⟨a,b,rfl,rfl,hz,q⟩:=h;obtain⟨t,rfl⟩:=rx;obtain⟨t',rfl⟩:=ry;exact P.add_str (PySem.SB.post_add hz fun t' k=>⟨.str (a++b),H,I.tok _,#[y,_],q⟩)
def ziw(a b:Str):#[D]:=partsBetween a (occurrences a b 0 a.length (a.length+1)) b.length
inductive zkx(x:V)(xs:#[a])(H:Hp)(Q:VK):Prop where
 | mk(a b:Str)(_:x=.str a)(_:xs=[.str b])(_:(#[g,a.length<b.length]||#[g,strKind a<strKind b])=false)(_:(b.length == 0)=false)(_:(occurrences a b 0 a.length (a.length+1)).isEmpty=false)(_:a.length<=sizeLine)(_:(ziw a b).length<=sizeLine)(_:∀ l,H l=none->Q (.ref l) (upd H l #[i,(ziw a b).map,V.str]))
theorem zam:∀ (k:Nat) (ws:List Str),Vals (ws.map V.str) (strsFrom k ws)
 | _,[]=>.nil
 | k,w :: ws=>.cons #[y,_] (zam (k+1) ws)
theorem zhd:MtR X "str.split" zkx:=by
 intro pins s σ H x xs v us Q I rx rv h;obtain⟨a,b,rfl,rfl,h1,h2,h3,h4,h5,q⟩:=h;obtain⟨t,rfl⟩:=rx;obtain⟨u,rfl,ru⟩:=rv.one;obtain⟨t',rfl⟩:=ru;have hf:H s.heap.objs.size=none:=I.hok.fresh (zww _);refine call_meets F.slot_str_split (typeIs_str _ _ _) F.entry_str_split (F.args_str_split_2 _ _) (meets_str_split_sep a b t t' h1 h2 h3 h4 h5) ?_;refine⟨.ref s.heap.objs.size,upd H s.heap.objs.size #[i,(ziw a b).map,V.str],I.laid (fun _ _ q=>#[ag,_,q]) (zww _) ?_,rfl,q _ hf⟩;exact⟨by rw[zwm];exact h5,_,_,zam s.toks _,Heap.get?_push_size _ rfl⟩
end L2
namespace G
open PySem PySem.Spec PyProof.Rows L2
inductive Ref where
 | out|known|many|unk|manyM|same|noMatch|noRound|over|seaOver|away|drawn|notDrawn|nothing|manyD
 deriving DecidableEq
def Ref.cls(ca:CA):Ref->Addr
 | .out=>ca.out|.known=>ca.known|.many=>ca.many|.unk=>ca.unk|.manyM=>ca.manyM|.same=>ca.same|.noMatch=>ca.noMatch|.noRound=>ca.noRound
 | .over=>ca.over|.seaOver=>ca.seaOver|.away=>ca.away|.drawn=>ca.drawn|.notDrawn=>ca.notDrawn|.nothing=>ca.nothing|.manyD=>ca.manyD
def Ref.name:Ref->Str
 | .out=>"OutOfRange" | .known=>"KnownReferee" | .many=>"TooManyReferees" | .unk=>"UnknownReferee" | .manyM=>"TooManyMatches" | .same=>"SameClub" | .noMatch=>"NoSuchMatch" | .noRound=>"NoSuchRound"
 | .over=>"RoundOver" | .seaOver=>"SeasonOver" | .away=>"AwayAlready" | .drawn=>"DrawnUp" | .notDrawn=>"NotDrawn" | .nothing=>"NothingToTakeBack" | .manyD=>"TooManyDeeds"
open Classical in
noncomputable def refS(S:Sea):Xx->Option Ref
 | .enrol n g c=>if S.len<=S.led.length then some .seaOver else if S.cur.isSome=true then some .drawn else if badI n g c then some .out else if n∈S.ppl.map (·.1) then some .known else if 30<=S.ppl.length then some .many else if 100<=S.std.length then some .manyD else none
 | .away i n=>if i<1\/(S.len:Int)<i then some .noRound else if i<=S.led.length then some .over else if n∈S.ppl.map (·.1) then (if (i,n)∈S.out then some .away else if 100<=S.std.length then some .manyD else none) else some .unk
 | .draw ms=>if S.len<=S.led.length then some .seaOver else if S.cur.isSome=true then some .drawn else if 20<ms.length then some .manyM else if Up ms then some .out else if Vc ms then some .same else if 100<=S.std.length then some .manyD else none
 | .close=>if S.len<=S.led.length then some .seaOver else if S.cur=none then some .notDrawn else none
 | .back=>if S.std=[] then some .nothing else none
def Qf:Xx->Prop
 | .enrol n g c=>Cy n g c
 | .away i n=>Yc i/\Yc n
 | .draw ms=>(∀ m∈ms,S7 m)/\ms.length<=1000
 | _=>True
inductive D6(K:Frag)(ca:CA)(vs:#[a])(H:Hp)(Q:VK)(E:XK):Prop where
 | mk(A:SAd)(S:Sea)(t:Addr)(d:Xx)(_:#[ac,A.p,t])(_:#[N])(_:Xy (·∉A.fp) H t d)(_:Qf d)(_:zad S)(_:Sv S)(_:S.std.length<=500)(_:S.out.length<=100000)(_:2*(tot S.led+1000)<=100000)(_:S.led.length<=1000)(_:S.old.length<=1000)(_:(d=.back->S.std≠[]->∃ S0,Rx S0 S))(_:(∀ r,refS S d=some r->∀ H',#[v]->E (.ref (r.cls ca)) none H'))(_:(refS S d=none->∀ v A' S' H',Ul H' S d S' v->Zz ca H' A' S'->Qu A A' H->FrS A H H'->(∀ l,v=.ref l->(∃ xs,H' l=some (.lst xs))->H l=none)->Q v H'))
inductive zhe(K:Frag)(ca:CA)(vs:#[a])(H:Hp)(Q:VK)(_:XK):Prop where
 | mk(A:SAd)(S:Sea)(t:Addr)(d:Xx)(_:#[ac,A.p,t])(_:#[N])(_:Xy (·∉A.fp) H t d)(_:Qf d)(_:zad S)(_:Sv S)(_:S.std.length<=500)(_:S.out.length<=100000)(_:2*(tot S.led+1000)<=100000)(_:S.led.length<=1000)(_:S.old.length<=1000)(_:(d=.back->S.std≠[]->∃ S0,Rx S0 S))(_:(∀ r,refS S d=some r->∀ u l H',H' u=#[E,[.str "refused",.ref l]]->H' l=#[x,[.str r.name,.str "ValueError"]]->#[v]->H u=none->#[S,u]))(_:(refS S d=none->∀ u v A' S' H',H' u=#[E,[.str "told",v]]->Ul H' S d S' v->Zz ca H' A' S'->Qu A A' H->FrS A H H'->u∉A'.fp->#[S,u]))
theorem zex(h:refS S d=none)(hc:∀ ms,d=.draw ms->∀ m∈ms,S7 m):Pn S d/\((d≠.close/\d≠.back)->S.std.length<100):=by
 cases d with
 | enrol n g c =>
   simp only[refS] at h;split at h;· cases h
   split at h;· cases h
   split at h;· cases h
   split at h;· cases h
   split at h;· cases h
   split at h;· cases h
   rename_i h1 h2 h3 h4 h5 h6;refine⟨⟨by omega,?_,h3,h4,by omega⟩,fun _=>by omega⟩;cases hc:S.cur with
   | none=>rfl
   | some s=>rw[hc] at h2;exact absurd rfl h2
 | away i n =>
   simp only[refS] at h;split at h;· cases h
   split at h;· cases h
   split at h
   ·split at h;· cases h
    split at h;· cases h
    rename_i h1 h2 h3 h4 h5;exact⟨⟨by omega,by omega,h3,h4⟩,fun _=>by omega⟩
   ·cases h
 | draw ms =>
   simp only[refS] at h;split at h;· cases h
   split at h;· cases h
   split at h;· cases h
   split at h;· cases h
   split at h;· cases h
   split at h;· cases h
   rename_i h1 h2 h3 h4 h5 h6;refine⟨⟨by omega,?_,by omega,fun m hm hb=>h4 ⟨m,hm,hb⟩,fun m hm hb=>h5 ⟨m,hm,hb⟩⟩,fun _=>by omega⟩;cases hc:S.cur with
   | none=>rfl
   | some s=>rw[hc] at h2;exact absurd rfl h2
 | close =>
   simp only[refS] at h;split at h;· cases h
   split at h;· cases h
   rename_i h1 h2;exact⟨⟨by omega,h2⟩,fun z=>absurd rfl z.1⟩
 | back =>
   simp only[refS] at h;split at h;· cases h
   rename_i h1;exact⟨h1,fun z=>absurd rfl z.2⟩
end G
namespace G
open PySem PySem.Spec PyProof.Rows L2
theorem zhf(h:refS S d=some r):r≠.noMatch:=by
 intro e;subst e;cases d<;>simp only[refS] at h<;>(repeat' split at h)<;>cases h
def refB(r:Ref):#[a]:=[.out,.known,.many,.unk,.manyM,.same,.noMatch,.noRound,.over,.seaOver,.away,.drawn,.notDrawn,.nothing,.manyD].map (fun t=>V.bl (decide (r=t)))++[V.bl true]
def refW:#[D]:=["OutOfRange","KnownReferee","TooManyReferees","UnknownReferee","TooManyMatches","SameClub","NoSuchMatch","NoSuchRound","RoundOver","SeasonOver","AwayAlready","DrawnUp","NotDrawn","NothingToTakeBack","TooManyDeeds","ValueError"]
def refP(r:Ref)(i:Nat):Bool:=#[g,(refB r)[i]?=#[b,V.bl,true]]
theorem zey(r:Ref):((List.range 16).filter (refP r)).map (fun i=>V.str (refW.getD i ""))=[.str r.name,.str "ValueError"]:=by cases r<;>decide +kernel
theorem zhg(r:Ref)(h:i<16):(refB r)[i]?=#[b,V.bl,refP r i]:=by
 have hl:i<(refB r).length:=h;have e:=zwn hl;obtain⟨b,hb⟩:∃ b,(refB r)[i]=V.bl b:=by
  rcases zwy.mp (show (refB r)[i]∈_++_ from zxg hl) with z|z
  ·obtain⟨t,_,e⟩:=zwv.mp z;exact⟨_,e.symm⟩
  ·exact⟨true,zwt.mp z⟩
 rw[hb] at e;unfold refP;rw[e];cases b
 ·rw[zwx fun z=>by cases z]
 ·rw[zws rfl]
theorem zhh(h:i<16):(refW.map V.str)[i]?=#[b,V.str,refW.getD i ""]:=by
 rw[zwu,zxc];have:i<refW.length:=h;rw[zwn this];rfl
theorem zez:ziw (("OutOfRange KnownReferee TooManyReferees UnknownReferee TooManyMatches SameClub":Str)++(" NoSuchMatch NoSuchRound RoundOver SeasonOver AwayAlready DrawnUp":Str)++(" NotDrawn NothingToTakeBack TooManyDeeds ValueError":Str)) (" ":Str)=refW:=by decide +kernel
theorem Ul.same(af:Ul H S d S' v)(e:#[v]):Ul H' S d S' v:=by
 cases af with
 | enrol n g c=>exact .enrol n g c
 | awayN h hl=>exact .awayN h (e _ _ hl)
 | awayF h hp hl=>exact .awayF h hp (e _ _ hl)
 | awayC h hp hl tl CR=>exact .awayC h hp (e _ _ hl) (tl.same e) CR
 | draw hl F T=>exact .draw (e _ _ hl) F T
 | close h=>exact .close h
 | back h ht hs=>exact .back h (e _ _ ht) hs
theorem Qu.back(nx:Qu A A' H')(e:#[v]):Qu A A' H:=by
 obtain⟨x,rfl,h⟩:=nx;exact#[w,x,h.elim .inl fun z=>.inr (e.free z)]
end G
namespace G
open PySem PySem.Spec PyProof.Rows L2
theorem zix(r:Ref):#[g,r.name=""]=false:=by cases r<;>decide +kernel
theorem zdc(r:Ref):∀ w∈[r.name,("ValueError":Str)],PyData.strOk w=true:=by cases r<;>decide +kernel
structure I21(r i:Nat)(noted:#[t])(S:Sea):Prop where
 len:S.len=r
 led:S.led=[]
 cur:S.cur=none
 old:S.old=[]
 std:∀ x∈S.std,x.2=none
 sl:S.std.length<=i
 ol:S.out.length<=i
 z:(noted=[]/\S.ppl=[]/\S.std=[]/\S.out=[])\/∃ ds,noted=0 :: ds/\S.ppl=[(5,5,5)]/\S.out=ds.map fun i=>(i,5)
 e:i<=10->noted=[]
theorem TupL.app:∀ {ts us:List V} {R Q:List (List V)},TupL H ts R->TupL H us Q->TupL H (ts++us) (R++Q)
 | _,_,_,_,.nil,h=>h
 | _,_,_,_,.cons h r,h'=>.cons h (TupL.app r h')
end G
namespace G
open PySem PySem.Spec PyProof.Rows L2
structure zne(n:Nat)(s:Z6):Prop where
 ms:s.ms.length<=20
 ml:s.may.length=s.ms.length
 fi:Y7 s.may s.gv
 st:Um s.may s.gv
 mo:∃ nu,K7 s.may nu
 gp:s.gaps.length<=n/\∀ x∈s.gaps,x.2.length<=100
theorem Bk.deeds(b:Bk mb ok H nu n ds S):S.std.length+1=ds.length/\∀ j,j<S.std.length->∃ (e:Addr) (P:Pg) (x:To),ds[j+1]?=some e/\PgAt ok H e P/\P.deed=some x/\(S.std.map (·.1))[j]?=some x:=by
 induction b with
 | one h r o e=>exact⟨by rw[e];rfl,fun j hj=>by rw[e] at hj;exact absurd hj (zyj _)⟩
 | @snoc ds d P S S' b nd h r o st hd ih =>
   obtain⟨i1,i2⟩:=ih;obtain⟨x,hx,hs⟩:=hd;refine⟨by rw[hs,zwp,zwp,<- i1];rfl,fun j hj=>?_⟩;rw[hs,zwp] at hj;by_cases hlt:j<S.std.length
   ·obtain⟨e,P',x',e1,e2,e3,e4⟩:=i2 j hlt;refine⟨e,P',x',?_,e2,e3,?_⟩
    ·rw[zxl ⋯];exact e1
    ·rw[hs,zwq,zxl (by rw[zwm];exact hlt)];exact e4
   ·have hj':j=S.std.length:=by simp only[zw9,zyw] at hj;omega
    refine⟨d,P,x,?_,h,hx,?_⟩
    ·rw[zxj ⋯,show j+1-ds.length=0 by omega];rfl
    ·rw[hs,zwq,zxj (by rw[zwm];omega),zwm,show j-S.std.length=0 by omega];rfl
inductive O6(K:Frag)(ca:CA)(vs:#[a])(H:Hp)(Q:VK)(_:XK):Prop where
 | mk(ok:Addr->Prop)(mb:Bool)(A:SAd)(S:Sea)(d:Addr)(P:Pg)(nu:#[t])(n:Nat)(_:#[ac,A.p,d])(_:#[N])(_:PgAt ok H d P)(_:Pp mb P S)(_:SOk nu n S)(_:n<=500)(_:∀ H',Same H H'->Q (.bl true) H')
theorem ze0(xs:#[a]):Nd xs (some 1) none=xs.drop 1:=by
 unfold Nd;have e:HT.sIx xs.length 0 (some 1)=min 1 xs.length:=HT.sIx_nat _ _ 1;rw[e,HT.sIx_none];cases xs with
 | nil=>rfl
 | cons x xs =>
   rw[show min 1 (x :: xs).length=1 by rw[zw9];omega];exact List.take_of_length_le (by rw[zyn];exact zww _)
theorem Om:#[g,V.str (Vy D)=V.str "take back"]=match D with|.back=>true|_=>false:=by
 cases D with
 | back=>exact Ov
 | enrol n g c=>exact Wn (show #[g,("enrol":Str)="take back"]=false by decide +kernel)
 | away i n=>exact Wn (show #[g,("away":Str)="take back"]=false by decide +kernel)
 | draw ms=>exact Wn (show #[g,("draw up":Str)="take back"]=false by decide +kernel)
 | close=>exact Wn (show #[g,("close":Str)="take back"]=false by decide +kernel)
theorem Be(h:D≠.back):#[g,V.str (Vy D)=V.str "take back"]=false:=by
 rw[Om];cases D<;>first|rfl|exact absurd rfl h
section
variable{rows:#[I]}{gs0 hs:#[a]}{p:Nat}{n0:Int}
structure zm8(rows:#[I])(gs0 hs:#[a])(p:Nat)(i:Nat)(L:List Nat)(q:Nat):Prop where
 len:L.length=i+1
 nd:L.Nodup
 mem:q∈L
 walk:Walk rows (gs0.set p .non) p q i
 df:∀ k∈L,k<gs0.length/\gs0[k]?≠hs[k]?
 back:∀ y∈L,y≠p->∃ x∈L,x≠q/\∃ n,hs[x]?=#[q,n]/\(gs0.set p .non)[y]?=#[q,n]
 full:∀ y∈L,gs0[y]?≠some .non
end
open Classical in
noncomputable def eq1(x y:V):Nat:=if x=y then 1 else 0
inductive StK(N:#[t]):#[I]->#[a]->Nat->Nat->Nat->Prop where
 | nil:StK N [] [] 0 0 0
 | skip {rows:#[I]} {r:#[t]} {ah:#[a]} {v:V} {f u k:Nat} (h:StK N rows ah f u k):StK N (rows++[r]) (ah++[v]) (2*f) u (k+eq1 .non v)
 | take {rows:#[I]} {r:#[t]} {ah:#[a]} {v:V} {f u k b:Nat} {n:Int} (h:StK N rows ah f u k) (hb:N[b]?=some n) (hn:n∈r) (hu:u/2 ^ b%2=0):StK N (rows++[r]) (ah++[v]) (2*f+1) (u+2 ^ b) (k+eq1 (.int n) v)
structure zm9(N:#[t])(rows:#[I])(ah:#[a])(best kept:Nat):Prop where
 at_:∃ u,StK N rows ah best u kept
 top:∀ f u k,StK N rows ah f u k->f<=best
 most:∀ u k,StK N rows ah best u k->k<=kept
open Classical in
structure znf(R:Nat×Nat->Nat->Prop)(ps:List (Nat×Nat))(g:Nat×Nat->Nat):Prop where
 mem:∀ q,q∈ps↔∃ k,R q k
 at_:∀ q∈ps,R q (g q)
 top:∀ q k,R q k->k<=g q
open Classical in
theorem zhi(g:Pn S D)(hs:S.std.length<100):refS S D=none:=by
 cases D with
 | enrol n g' c =>
   obtain⟨g1,g2,g3,g4,g5⟩:=g;simp only[refS];rw[if_neg ⋯,#[c,(by rw[g2];exact nofun)],#[c,g3],#[c,g4],if_neg ⋯,if_neg ⋯]
 | away i n =>
   obtain⟨g1,g2,g3,g4⟩:=g;simp only[refS];rw[if_neg ⋯,if_neg ⋯,#[f,g3],#[c,g4],if_neg ⋯]
 | draw ms =>
   obtain⟨g1,g2,g3,g4,g5⟩:=g;simp only[refS];rw[if_neg ⋯,#[c,(by rw[g2];exact nofun)],if_neg ⋯,#[c,fun ⟨m,hm,hb⟩=>g4 m hm hb],#[c,fun ⟨m,hm,hb⟩=>g5 m hm hb],if_neg ⋯]
 | close =>
   obtain⟨g1,g2⟩:=g;simp only[refS];rw[if_neg ⋯,#[c,g2]]
 | back=>simp only[refS];exact #[c,g]
theorem zb2(po:Sv S)(hl:S.len<=1000)(g:Pn S D):Qf D:=by
 cases D with
 | enrol n g' c =>
   obtain⟨g1,g2,g3,g4,g5⟩:=g;unfold badI at g3;exact⟨Z0 ⋯ ⋯,Z0 ⋯ ⋯,Z0 ⋯ ⋯⟩
 | away i n =>
   obtain⟨g1,g2,g3,g4⟩:=g;obtain⟨x,hx,rfl⟩:=zwv.mp g3;exact⟨Z0 ⋯ ⋯,po.small x hx⟩
 | draw ms =>
   obtain⟨g1,g2,g3,g4,g5⟩:=g;refine⟨fun m hm=>?_,by omega⟩;have:=g4 m hm;unfold badM at this;exact⟨Z0 ⋯ ⋯,Z0 ⋯ ⋯,Z0 ⋯ ⋯⟩
 | close=>exact True.intro
 | back=>exact True.intro
theorem D6.of{K:Frag}{ca:CA}{vs:#[a]}{H:Hp}{Q:VK}{E E':XK}(h:zm0 K ca vs H Q E'):D6 K ca vs H Q E:=by
 obtain⟨A,S,t,d,e,SA,hD,g,b1,b2,b3,b4,b5,b6,b7,b8,b9,b10,k⟩:=h;exact⟨A,S,t,d,e,SA,hD,zb2 b2 b8 g,b1,b2,by omega,b4,b5,b6,b7,fun z _=>b10 z,fun r hr=>(by rw[zhi g b3] at hr;cases hr),fun _ v A' S' H'=>k v A' S' H'⟩
section
variable{mb:Bool}{ok ok':Addr->Prop}{A A':SAd}{H H':Hp}{nu:#[t]}{n m:Nat}{ds:#[B]}{d:Addr}{P:Pg}{S S':Sea}{D:Xx}
structure zm1(ok:Addr->Prop)(H:Hp)(ts:#[a])(Ds:List Xx):Prop where
 len:ts.length=Ds.length
 at_:∀ (i:Nat) x,ts[i]?=some x->∃ t D,x=.ref t/\Ds[i]?=some D/\Xy ok H t D
end
structure PgR(mb:Bool)(ok:Addr->Prop)(H:Hp)(nu:#[t])(n:Nat)(d:Addr)(P:Pg)(S:Sea):Prop where
 pg:PgAt ok H d P
 rb:Pp mb P S
 so:SOk nu n S
open Classical in
noncomputable def Pq(ppl:List P3)(n g c:Int):Str:=if badI n g c then "OutOfRange" else if n∈ppl.map (·.1) then "KnownReferee" else ""
open Classical in
noncomputable def Iz(len over:Int)(ppl:List P3)(out:List (Int×Int))(i n:Int):Str:=if i<1\/len<i then "NoSuchRound" else if i<=over then "RoundOver" else if n∈ppl.map (·.1) then (if (i,n)∈out then "AwayAlready" else "") else "UnknownReferee"
open Classical in
noncomputable def I9(ms:List P3):Str:=if 20<ms.length then "TooManyMatches" else if Up ms then "OutOfRange" else if Vc ms then "SameClub" else ""
open Classical in
noncomputable def dueW(S:Sea)(D:Xx):Str:=match refS S D with|some r=>r.name|none=>""
inductive Gz(K:Frag)(vs:#[a])(H:Hp)(Q:VK)(_:XK):Prop where
 | mk(ok:Addr->Prop)(d t:Addr)(P:Pg)(n g c:Int)(_:#[ac,d,t])(_:PgAt ok H d P)(_:H t=#[b,.tup,[.str "enrol",.int n,.int g,.int c]])(_:P.ppl.length<=100)(_:∀ H',Same H H'->Q (.str (Pq P.ppl n g c)) H')
inductive D7(K:Frag)(vs:#[a])(H:Hp)(Q:VK)(_:XK):Prop where
 | mk(ok:Addr->Prop)(d t:Addr)(P:Pg)(i n:Int)(_:#[ac,d,t])(_:PgAt ok H d P)(_:H t=#[b,.tup,[.str "away",.int i,.int n]])(_:P.ppl.length<=100)(_:∀ H',Same H H'->Q (.str (Iz P.len P.over.length P.ppl P.out i n)) H')
inductive D8(K:Frag)(vs:#[a])(H:Hp)(Q:VK)(_:XK):Prop where
 | mk(l:Addr)(ts:#[a])(ms:List P3)(_:vs=[.ref l])(_:#[A,H,l,ts])(_:#[L,H,ms.map,pV])(_:ms.length<=100)(_:∀ H',Same H H'->Q (.str (I9 ms)) H')
inductive zdd(K:Frag)(vs:#[a])(H:Hp)(Q:VK)(_:XK):Prop where
 | mk(ok:Addr->Prop)(mb:Bool)(l t:Addr)(ds:#[B])(d:Addr)(P:Pg)(S:Sea)(D:Xx)(nu:#[t])(n:Nat)(_:#[ac,l,t])(_:H l=some #[i,(ds++[d]).map,V.ref])(_:PgAt ok H d P)(_:Xy ok H t D)(_:Qf D)(_:(∀ ms,D=.draw ms->ms.length<=100))(_:Pp mb P S)(_:SOk nu n S)(_:ds.length=S.std.length)(_:S.std.length<100)(_:nu.length<30)(_:∀ H',Same H H'->Q (.str (dueW S D)) H')
theorem D9{K:Frag}{ok:Addr->Prop}{te:TE}{σ:L2.St}{H:Hp}{Q:VK}{d:Addr}{P:Pg}(hi:∀ {Q':VK},Q' (.ref d) H->te σ H Q')(PA:PgAt ok H d P)(hz:P.ppl.length<=100)(h:#[az,l,(P.ppl.map (·.1)).map,V.int,Q,l]):Ab (Bv K (B3 te (tC (V.str "people")))) [] tYes (tOp (zfv K) (tVar 0) (tC (V.int 0))) σ H Q:=by
 obtain⟨lp,lo,lv,dv,li,lg,lm,a1,PB,okd⟩:=id PA.split;obtain⟨pts,p1,p2,p3⟩:=PB.pp;have hpl:pts.length=P.ppl.length:=by rw[p2.length,zwm]
 refine hi ⟨d,_,rfl,DGet.k (k:=.inr "people") a1,lp,rfl,⟨_,SqL.of p1⟩,Wf (K:=K) (a:=lp) (xs:=pts) (fun i ys H'=>H'=H/\ys=((P.ppl.take i).map (·.1)).map V.int) #[y,rfl] (fun i ys H' _ z=>by rw[z.1];exact SqL.of p1) (szN ⋯) (fun i ys H' z=>by rw[z.2,zwm,zwm];exact zxv _ _) ?_ ?_⟩
 ·rintro i x ys H' hx ⟨rfl,rfl⟩;obtain⟨tp,pp,rfl,hpp,htp⟩:=Ot p2 hx;unfold tYes;dsimp only;rw[#[f,rfl]];exact⟨_,rfl,tp,_,_,_,rfl,rfl,#[n,htp],show atI (pV pp) 0=some _ from rfl,rfl,by rw[Xo hpp,zwq,zwq];rfl⟩
 rintro ys H' ⟨rfl,rfl⟩ lq flq;rw[hpl,zw3];exact h lq _ Zd (Ze flq) flq
theorem zan{K:Frag}{ok:Addr->Prop}{σ:L2.St}{H:Hp}{Q:VK}{i:Nat}{d:Addr}{P:Pg}(hi:σ[i]?=some #[e,d])(PA:PgAt ok H d P)(hz:P.ppl.length<=100)(h:#[az,l,(P.ppl.map (·.1)).map,V.int,Q,l]):Ab (Bv K (B3 (tVar i) (tC (V.str "people")))) [] tYes (tOp (zfv K) (tVar 0) (tC (V.int 0))) σ H Q:=D9 (fun q=>⟨_,hi,q⟩) PA hz h
theorem Ca(ns:#[t]):(ns.map V.int).all So=true:=zyo.mpr fun x hx=>by obtain⟨_,_,rfl⟩:=zwv.mp hx;rfl
theorem Mx(b:Bool):atI [x,y] (if b=true then 1 else 0)=some (if b=true then y else x):=by cases b<;>rfl
theorem zao(hs:S.std.length<100):dueW S (.away i n)=Iz S.len S.led.length S.ppl S.out i n:=by
 unfold dueW Iz;simp only[refS];by_cases c1:i<1\/(S.len:Int)<i
 ·rw[#[f,c1],#[f,c1]];rfl
 rw[#[c,c1],#[c,c1]];by_cases c2:i<=(S.led.length:Int)
 ·rw[#[f,c2],#[f,c2]];rfl
 rw[#[c,c2],#[c,c2]];by_cases c3:n∈S.ppl.map (·.1)
 ·rw[#[f,c3],#[f,c3]];by_cases c4:(i,n)∈S.out
  ·rw[#[f,c4],#[f,c4]];rfl
  ·rw[#[c,c4],#[c,c4],if_neg ⋯]
 ·rw[#[c,c3],#[c,c3]];rfl
theorem Bf(h0:¬ S.len<=S.led.length)(h1:¬ S.cur.isSome=true)(hf:S.ppl.length<30)(hs:S.std.length<100):dueW S (.enrol n g c)=Pq S.ppl n g c:=by
 unfold dueW Pq;simp only[refS];rw[#[c,h0],#[c,h1]];by_cases c1:badI n g c
 ·rw[#[f,c1],#[f,c1]];rfl
 rw[#[c,c1],#[c,c1]];by_cases c3:n∈S.ppl.map (·.1)
 ·rw[#[f,c3],#[f,c3]];rfl
 ·rw[#[c,c3],#[c,c3],if_neg ⋯,if_neg ⋯]
theorem zap(h0:¬ S.len<=S.led.length)(h1:¬ S.cur.isSome=true)(hs:S.std.length<100):dueW S (.draw ms)=I9 ms:=by
 unfold dueW I9;simp only[refS];rw[#[c,h0],#[c,h1]];by_cases c1:20<ms.length
 ·rw[#[f,c1],#[f,c1]];rfl
 rw[#[c,c1],#[c,c1]];by_cases c2:Up ms
 ·rw[#[f,c2],#[f,c2]];rfl
 rw[#[c,c2],#[c,c2]];by_cases c3:Vc ms
 ·rw[#[f,c3],#[f,c3]];rfl
 ·rw[#[c,c3],#[c,c3],if_neg ⋯]
theorem Kg(h:refS S D=some r):dueW S D=r.name:=by unfold dueW;rw[h]
theorem ze1(h:refS S D=none):dueW S D="":=by unfold dueW;rw[h]
inductive zaq(K:Frag)(vs:#[a])(H:Hp)(Q:VK)(_:XK):Prop where
 | mk(ok:Addr->Prop)(l t:Addr)(ds:#[B])(d:Addr)(P:Pg)(S S':Sea)(D:Xx)(v:V)(_:vs=[.ref l,.ref t,v])(_:H l=some #[i,(ds++[d]).map,V.ref])(_:PgAt ok H d P)(_:Xy ok H t D)(_:(P.over.length:Int)+1=atV S)(_:Ul H S D S' v)(_:(D=.back->∀ dd s0 std,S.std=std++[(dd,s0)]->P.deed=some dd))(_:∀ H',Same H H'->Q (.bl true) H')
inductive Cb(K:Frag)(vs:#[a])(H:Hp)(Q:VK)(_:XK):Prop where
 | mk(t:Addr)(m:P3)(c:Int)(_:vs=[.ref t,.int c])(_:H t=some (.tup (pV m)))(_:S7 m)(_:∀ (t':Addr) (m':P3) (H':Hp),H' t'=some (.tup (pV m'))->S7 m'->#[v]->#[S,t'])
inductive Cc(K:Frag)(vs:#[a])(H:Hp)(Q:VK)(_:XK):Prop where
 | mk(ok:Addr->Prop)(l t lc ln:Addr)(ds:#[B])(d:Addr)(P:Pg)(cell:Int)(cs nu:#[t])(mixed:Nat)(_:vs=[.ref l,.int cell,.ref t,.int mixed])(_:H l=some #[i,(ds++[d]).map,V.ref])(_:PgAt ok H d P)(_:Nt H t lc ln cs nu)(_:mixed<=1)(_:P.ppl.length<=100)(_:P.over.length<=1000)(_:3<=nu.length)(_:(∀ n∈P.ppl.map (·.1),n∈nu))(_:∀ (t':Addr) (D:Xx) (H':Hp),Xy (fun x=>H x=none) H' t' D->Qf D->(∀ ms,D=.draw ms->ms.length<=100)->(∀ n g c,D=.enrol n g c->n∈nu\/badI n g c)->#[v]->H t'=none->#[S,t'])
inductive My(K:Frag)(ca:CA)(vs:#[a])(H:Hp)(Q:VK)(_:XK):Prop where
 | mk(A:SAd)(S:Sea)(l d:Addr)(ds:#[B])(P:Pg)(nu:#[t])(n:Nat)(_:#[ac,A.p,l])(_:#[N])(_:H l=some #[i,(ds++[d]).map,V.ref])(_:Vf false (·∉A.fp) H nu n ds d P S)(_:n<=500)(_:∀ H',Same H H'->Q (.bl true) H')
theorem TupL.rep(h:#[L,H,ms.map,pV]):∀ k:Nat,TupL H (List.replicate k ts).flatten ((List.replicate k ms).flatten.map pV)
 | 0=>.nil
 | k+1=>by
   rw[zx1,zx1,zyc,zyc,zwq];exact h.app (TupL.rep h k)
theorem Vf.mono(F:Vf mb ok H nu n ds d P S)(e:n<=m):Vf mb ok H nu m ds d P S:=by
 refine⟨F.pg,F.re,F.so.mono e,?_⟩;obtain⟨nd,z|⟨S0,bb,r⟩⟩:=F.tl
 ·exact⟨nd,.inl z⟩
 ·exact⟨nd,.inr ⟨S0,bb.mono e,r⟩⟩
theorem Vf.last(F:Vf mb ok H nu n ds d P S)(e:S.std=std++[(dd,s0)]):P.deed=some dd:=by
 obtain⟨nd,⟨_,z⟩|⟨S0,bb,st,x,hx,hs⟩⟩:=F.tl
 ·rw[z] at e;simp at e
 ·obtain⟨_,e2⟩:=zyp (hs.symm.trans e) rfl;rw[hx,(Prod.mk.inj (List.cons.inj e2).1).1]
theorem Vf.step(F:Vf mb ok H nu n ds d P S)(h:S.std≠[]):∃ S0,Rx S0 S:=by
 obtain⟨nd,⟨_,z⟩|⟨S0,bb,st,_⟩⟩:=F.tl
 ·exact absurd z h
 ·exact⟨S0,st⟩
def zma(r o:Int)(dr:Bool)(lp ll:Addr):#[W]:=[(.inr "rounds",.int r),(.inr "over",.int o),(.inr "drawn",.bl dr),(.inr "people",.ref lp),(.inr "log",.ref ll)]
structure zm2(H:Hp)(d lp ll:Addr)(S:Sea):Prop where
 dd:H d=#[b,.dK,zma S.len S.led.length S.cur.isSome lp ll]
 pp:∃ pts,H lp=#[x,pts]/\TupL H pts (S.ppl.map pV)
 gg:∃ lts,H ll=#[x,lts]/\TupL H lts (S.std.map fun x=>W3 x.1)
 ne:lp≠ll
structure I22(S:Sea):Prop where
 out:S.out=[]
 std:∀ x∈S.std,x.2=none/\(x.1.1=("enrol":Str)\/x.1.1=("draw up":Str))
 last:∀ std0 x,S.std=std0++[x]->x.1.1=("enrol":Str)->S.cur=none
def dxs:HO->#[B]
 | .ins _ dx _=>[dx]
 | .frz _ u=>dxs u
 | _=>[]
open Classical in
noncomputable def ziy(B:Addr->Prop)(H:Hp):Hp:=fun b=>if B b then none else H b
open Classical in
structure zm3(B:Addr->Prop)(H:Hp):Prop where
 th:∀ b,B b->H b≠none
 cl:∀ a o,H a=#[d]->B a->∀ dx∈dxs o,B dx
 own:∀ a b,H b=#[b,.own,a]->B b->B a
 tup:∀ t xs,B t->H t≠#[E,xs]
inductive ziz(nu:#[t])(n:Nat):Sea->Prop where
 | nil {S:Sea} (e:S.std=[]) (o:SOk nu n S):ziz nu n S
 | snoc {S0 S:Sea} (h:ziz nu n S0) (st:Rx S0 S) (o:SOk nu n S):ziz nu n S
structure D22(nu:#[t])(D:Xx):Prop where
 aw:∀ i n,D≠.away i n
 dr:∀ ms,D=.draw ms->ms=[]
 sm:Qf D
 en:∀ k g c,D=.enrol k g c->k∈nu\/badI k g c
def B22(d lp ll ln le:Addr):Addr->Prop:=fun x=>x=d\/x=lp\/x=ll\/x=ln\/x=le
structure zng(ca:CA)(nu:#[t])(d lp ll ln le:Addr)(A:SAd)(S:Sea)(n:Nat)(H:Hp):Prop where
 sea:Zz ca (ziy (B22 d lp ll ln le) H) A S
 st:zm2 H d lp ll S
 i:I22 S
 hi:ziz nu n S
 lv:H ln=some #[i,nu.map,V.int]
 lw:∃ ys,H le=#[x,ys]
 nl:lp≠ln/\ll≠ln
 ne:lp≠le/\ll≠le
end G
namespace G
open PySem PySem.Spec PyProof.Rows L2
def DrX(S0 S:Sea):Prop:=∀ d y,S.std=S0.std++[(d,y)]->(d.1=("draw up":Str)/\S0.cur=none)\/(d.1≠("draw up":Str)/\S0.cur.isSome=S.cur.isSome)
inductive zde(E:Sea->Prop)(nu:#[t])(n:Nat):Sea->Prop where
 | nil {S:Sea} (e:S.std=[]) (o:SOk nu n S) (x:E S):zde E nu n S
 | snoc {S0 S:Sea} (h:zde E nu n S0) (st:Rx S0 S) (dr:DrX S0 S) (o:SOk nu n S) (x:E S):zde E nu n S
def zmb(r o:Int)(dr:Bool)(lp lo ll:Addr):#[W]:=[(.inr "rounds",.int r),(.inr "over",.int o),(.inr "drawn",.bl dr),(.inr "people",.ref lp),(.inr "out",.ref lo),(.inr "log",.ref ll)]
structure zm4(H:Hp)(d lp lo ll:Addr)(S:Sea):Prop where
 dd:H d=#[b,.dK,zmb S.len S.led.length S.cur.isSome lp lo ll]
 pp:H lp=some #[i,(S.ppl.map (·.1)).map,V.int]
 oo:∃ ots,H lo=#[x,ots]/\TupL H ots (S.out.map oiV)
 gg:∃ lts,H ll=#[x,lts]/\TupL H lts (S.std.map fun x=>W3 x.1)
 n1:lp≠lo
 n2:lp≠ll
 n3:lo≠ll
def B23(d lp lo ll:Addr)(X:Addr->Prop):Addr->Prop:=fun x=>x=d\/x=lp\/x=lo\/x=ll\/X x
structure znh(ca:CA)(E:Sea->Prop)(nu:#[t])(d lp lo ll:Addr)(X:Addr->Prop)(A:SAd)(S:Sea)(n:Nat)(H:Hp):Prop where
 sea:Zz ca (ziy (B23 d lp lo ll X) H) A S
 st:zm4 H d lp lo ll S
 hi:zde E nu n S
 xs:∀ x,X x->∃ ys,H x=#[x,ys]
 nx:∀ x,X x->x≠lp/\x≠lo/\x≠ll
structure D23(nu:#[t])(j:Nat)(D:Xx):Prop where
 dr:∀ ms,D=.draw ms->ms=[]
 sm:Qf D
 en:∀ k g c,D=.enrol k g c->nu[j]?=some k/\1<=g/\g<=9/\1<=c/\c<=99
structure E24(S:Sea):Prop where
 ppl:S.ppl=[]
 out:S.out=[]
 st:(S.cur=none/\S.std=[])\/∃ s,S.cur=some s/\S.std=[((("draw up":Str),(s.ms.length:Int),atV S),none)]
 gv:∀ s,S.cur=some s\/s∈S.old->s.gv=List.replicate s.ms.length V.non
inductive zi0(ok:Addr->Prop)(H:Hp):#[a]->List Z6->Prop where
 | nil:zi0 ok H [] []
 | cons {l:Addr} {ts:#[a]} {ls:#[a]} {s:Z6} {ss:List Z6} (h:#[A,H,l,ts]) (q:#[L,H,s.ms.map,pV]) (o:ok l) (r:zi0 ok H ls ss):zi0 ok H (.ref l :: ls) (s :: ss)
def zmc(r:Int)(lv:Addr)(v:V):#[W]:=[(.inr "rounds",.int r),(.inr "over",.ref lv),(.inr "listed",v)]
structure zm5(ok:Addr->Prop)(H:Hp)(d lv:Addr)(v:V)(S:Sea):Prop where
 dd:H d=#[b,.dK,zmc S.len lv v]
 vv:∃ ls,H lv=#[x,ls]/\zi0 ok H ls S.old
 li:Mw ok H v (S.cur.map (·.ms))
def B24(d lv lc:Addr):Addr->Prop:=fun x=>x=d\/x=lv\/x=lc
structure zni(K:Frag)(ca:CA)(d lv lc b:Addr)(cs ns:#[t])(v:V)(A:SAd)(S:Sea)(n:Nat)(H:Hp):Prop where
 sea:Zz ca (ziy (B24 d lv lc) H) A S
 st:zm5 (fun x=>x∉A.fp/\¬ B24 d lv lc x) H d lv v S
 e:E24 S
 so:SOk [] n S
 cl:H lc=some #[i,cs.map,V.int]
 sc:T1 K A (ziy (B24 d lv lc) H) b (ns.map V.int)
section
variable{S S' S1:Sea}{D:Xx}{Ds Es:List Xx}{v:V}{H H':Hp}{nu:#[t]}{n:Nat}
structure znj(S S':Sea):Prop where
 len:S'.len=S.len
 led:S'.led=S.led
 ppl:S'.ppl=S.ppl
end
structure D25(nu:#[t])(D:Xx):Prop where
 sm:Qf D
 dr:∀ ms,D=.draw ms->ms.length<=100
 en:∀ n g c,D=.enrol n g c->1<=n/\1<=g/\1<=c/\c<=99/\(¬ badI n g c->n∈nu)
structure zna(S S1:Sea)(es:List P3)(k:Nat)(ps:List (Int×Int)):Prop where
 std:∃ std0 w1 w2,S1.std.map (·.1)=std0++[w1]++[w2]/\std0.length=98/\w1.1≠("enrol":Str)/\w2.1≠("enrol":Str)
 led:S1.led=S.led
 len:S1.len=S.len
 ppl:S1.ppl=es
 out:∀ p∈S1.out,p∈ps.take (k+1)
structure Sm(S:Sea):Prop where
 std:∀ x∈S.std,Yc x.1.2.1/\Yc x.1.2.2
 led:S.led.length<=S.len
 len:S.len<=60
end G
namespace L2
open PySem PySem.Spec PyProof.Rows G
inductive LNe(K:Frag)(x:Str)(st:Stmt):Prop where
 | mk {f:Addr} {oc kV dc pm cd ct:Value} {od an:Option Addr} {sl:Array (Option Value)} (b:NsB K x f) (l:LkF K f x x st oc kV dc pm cd ct od an sl) (c:PySem.W.codeIn K cd x=true) (k:PySem.W.keepIn K (.ref f)=true)
inductive LMe(K:Frag)(C:Addr)(x q:Str)(st:Stmt):Prop where
 | mk {f:Addr} {oc kV dc pm cd ct:Value} {od an:Option Addr} {sl:Array (Option Value)} (b:FdB K C x f) (l:LkF K f x q st oc kV dc pm cd ct od an sl) (c:PySem.W.codeIn K cd q=true) (k:PySem.W.keepIn K (.ref f)=true) (i:PySem.W.isFn K (.ref f)=true)
structure zhj(K:Frag)(C:Addr):Prop where
 pg:PySem.W.plainGet K C Str.empty=true
 hd:PySem.W.hasDictIn K C=true
 po:PySem.W.plainOver K C=true
 sa:PySem.W.findIn K (.ref C) "__setattr__"=some #[b,.builtin,"object.__setattr__"]
 mk_:PySem.W.makesIn K C=true
 kc:PySem.W.keepIn K (.ref C)=true
structure zm6(K:Frag)(c:CA)(e:Addr)(N:Ref->Prop):Prop where
 ga:∀ r:Ref,N r->PySem.W.findIn K (.ref (r.cls c)) "__getattribute__"=some #[b,.builtin,"BaseException.__getattribute__"]
 gk:∀ r:Ref,N r->PySem.W.findIn K (.ref (r.cls c)) "__getattr__"=some none
 at_:∀ r:Ref,N r->PySem.W.findIn K (.ref (r.cls c)) "__class__"=some #[b,.builtin,"object.__class__"]
 mx:∀ r:Ref,N r->PySem.W.mroIn K (r.cls c) (.type "BaseException")=some true
 mo:∀ r:Ref,N r->PySem.W.mroIn K (r.cls c) (.type "object")=some true
 mB:∀ r:Ref,N r->PySem.W.mroIn K (r.cls c) (.ref e)=some true
 kit:∀ r t:Ref,N r->PySem.W.kitOne K (.ref (r.cls c)) (.ref (t.cls c))=some #[g,r=t]
 kitV:∀ r:Ref,N r->PySem.W.kitOne K (.ref (r.cls c)) (.type "ValueError")=some true
section
variable{P:Program}{w:World}{base h:Heap}{K:Frag}{mg:#[U]}{x y q:Str}{k:Nat}{ps:#[D]}{sp:Sp}{C:Addr}{st:Stmt}
theorem dE(Z:XG P w base K mg h)(l:LNe K x st)(ok:∀ {f fd},#[l,x,x,st]->FnOk P w K mg base #[k] k f fd ps sp)(hb:BnA x x st ps:=by first|exact bn1|exact bn2|exact bn3|exact bn4|exact bn5):Z4 P w K mg base x k ps sp:=by
 cases l with
 | mk b l c k=>exact dN Z ⟨b,l,c,k⟩ ok hb
theorem mE(Z:XG P w base K mg h)(l:LMe K C x q st)(ok:∀ {f fd},#[l,x,q,st]->FnOk P w K mg base #[k] k f fd ps sp)(hb:BnA x q st ps:=by first|exact bn1|exact bn2|exact bn3|exact bn4|exact bn5):Zw P w K mg base C x k ps sp:=by
 cases l with
 | mk b l c k i=>exact mM Z ⟨b,l,c,k,i⟩ ok hb
theorem nE(Z:XG P w base K mg h)(l:LMe K C "__init__" q st)(o:zhj K C)(c:PySem.W.nsIn K mainGlobals y=some #[e,C])(ok:∀ {f fd},#[l,"__init__",q,st]->FnOk P w K mg base #[k] k f fd ps sp)(hb:BnA "__init__" q st ps:=by first|exact bn1|exact bn2|exact bn3|exact bn4|exact bn5):Tt P w K mg base y C k ps sp:=by
 cases l with
 | mk b l c' k i=>exact nM Z ⟨b,l,c',k,i⟩ o.mk_ o.kc c ok hb
end
end L2
namespace K38
open PySem PySem.Spec PyProof.Rows L2 G
def top(i:Nat):Stmt:=PySem.Challenge.pw_whistlebook_k38_whole_refusals.main.body.getD i (.Pass ⟨0,0,0,0⟩)
structure Ad where
 zov:Addr
 zn6:Addr
 zoj:Addr
 zn5:Addr
 zn7:Addr
 zn8:Addr
 zpd:Addr
 zol:Addr
 zod:Addr
 zo2:Addr
 zos:Addr
 zom:Addr
 zpu:Addr
 zpc:Addr
 zn1:Addr
 zoi:Addr
 zno:Addr
 znq:Addr
 znp:Addr
 znk:Addr
abbrev ca(a:Ad):CA:=⟨a.znk,a.znp,a.znq,a.zno,a.zn6,a.zoj,a.zn5,a.zn7,a.zn8,a.zpd,a.zol,a.zod,a.zo2,a.zos,a.zom,a.zpu,a.zpc,a.zn1,a.zoi⟩
structure Tx(K:Frag)(mg:#[U])(a:Ad):Prop where
 zn9:Cls K a.zno
 zpt:X8 K a.zno "rounds"
 zpr:X8 K a.zno "meetings"
 zn4:Cls K a.znq
 zow:X8 K a.znq "entries"
 znz:Cls K a.znp
 zpv:X8 K a.znp "listed"
 zss:X8 K a.znp "lists"
 zqs:X8 K a.znp "given"
 zsi:X8 K a.znp "gaps"
 znl:Cls K a.znk
 zrm:X8 K a.znk "length"
 ztn:X8 K a.znk "rest"
 zor:X8 K a.znk "roster"
 zo7:X8 K a.znk "ledger"
 zpx:X8 K a.znk "absent"
 zrq:X8 K a.znk "sheets"
 zoh:X8 K a.znk "sheet"
 zot:X8 K a.znk "standing"
 zrx:Qz K mg "NoSuchRound" a.zod
 ztk:Qz K mg "OutOfRange" a.zn6
 zsh:Qz K mg "TooManyMatches" a.zn8
 ztz:Qz K mg "SameClub" a.zpd
 zs5:Qz K mg "KnownReferee" a.zoj
 zsc:Qz K mg "TooManyReferees" a.zn5
 zsj:Qz K mg "UnknownReferee" a.zn7
 ztc:Qz K mg "NoSuchMatch" a.zol
 ztp:Qz K mg "SeasonOver" a.zos
 zt0:Qz K mg "DrawnUp" a.zpu
 zs8:Qz K mg "TooManyDeeds" a.zoi
 zsx:Qz K mg "NotDrawn" a.zpc
 ztr:Qz K mg "RoundOver" a.zo2
 zta:Qz K mg "AwayAlready" a.zom
 zrt:Qz K mg "NothingToTakeBack" a.zn1
 zsw:mg "max"=none
 znu:mg "len"=none
 zse:mg "tuple"=none
 zo0:mg "list"=none
 zqr:mg "enumerate"=none
 zog:mg "range"=none
 zt3:mg "zip"=none
 znn:mg "isinstance"=none
 zso:mg "int"=none
 zth:mg "bool"=none
 zt2:mg "str"=none
 ztx:mg "dict"=none
 zts:mg "min"=none
 zq9:mg "ValueError"=none
 zt1:mg "any"=none
 ztj:mg "BookError"=#[b,.ref,a.zov]
 ztb:mg "OutOfRange"=#[b,.ref,a.zn6]
 zsq:mg "KnownReferee"=#[b,.ref,a.zoj]
 zr4:mg "TooManyReferees"=#[b,.ref,a.zn5]
 zsd:mg "UnknownReferee"=#[b,.ref,a.zn7]
 zsa:mg "TooManyMatches"=#[b,.ref,a.zn8]
 ztu:mg "SameClub"=#[b,.ref,a.zpd]
 zs3:mg "NoSuchMatch"=#[b,.ref,a.zol]
 zs0:mg "NoSuchRound"=#[b,.ref,a.zod]
 ztm:mg "RoundOver"=#[b,.ref,a.zo2]
 zs9:mg "SeasonOver"=#[b,.ref,a.zos]
 zsu:mg "AwayAlready"=#[b,.ref,a.zom]
 ztv:mg "DrawnUp"=#[b,.ref,a.zpu]
 ztt:mg "NotDrawn"=#[b,.ref,a.zpc]
 zro:mg "NothingToTakeBack"=#[b,.ref,a.zn1]
 zsr:mg "TooManyDeeds"=#[b,.ref,a.zoi]
 gc_Ledger:mg "Ledger"=#[b,.ref,a.zno]
 gc_Roster:mg "Roster"=#[b,.ref,a.znq]
 gc_Sheet:mg "Sheet"=#[b,.ref,a.znp]
 gc_Season:mg "Season"=#[b,.ref,a.znk]
 zti:zf0 K a.zov
 ei:∀ r:Ref,r≠.noMatch->Cp K #[h,r.cls]
 mB:∀ r:Ref,r≠.noMatch->PySem.W.mroIn K #[h,r.cls] (.ref a.zov)=some true
 kit:∀ r t:Ref,r≠.noMatch->PySem.W.kitOne K (.ref #[h,r.cls]) (.ref #[h,t.cls])=some #[g,r=t]
 kitV:∀ r:Ref,r≠.noMatch->PySem.W.kitOne K (.ref #[h,r.cls]) (.type "ValueError")=some true
 zqw:∃ t,mg "MOST_NUMBER"=some (.int 999 t)
 zp6:∃ t,mg "MOST_GRADE"=some (.int 9 t)
 zpw:∃ t,mg "MOST_CLUB"=some (.int 99 t)
 zo8:∃ t,mg "MOST_REFEREES"=some (.int 30 t)
 zph:∃ t,mg "MOST_MATCHES"=some (.int 20 t)
 zqy:∃ t,mg "MOST_ROUNDS"=some (.int 60 t)
 zri:∃ t,mg "MOST_REST"=some (.int 10 t)
 zp5:∃ t,mg "MOST_DEEDS"=some (.int 100 t)
end K38
set_option maxHeartbeats 64000000
namespace K38
open PySem PySem.Spec PyProof.Rows L2 G
local macro_rules | `(tactic| walk_at "rd")=>`(tactic| repeat (first|(refine⟨_,rfl,?_⟩)|(refine⟨_,_,rfl,rfl,?_⟩)|(refine And.intro (show CMul _ _ from Or.inr (And.intro (by decide) (by decide))) ?_)|(refine And.intro (show CMul _ _ from Or.inl (And.intro (by decide) (by decide))) ?_)|(refine And.intro (show CDiv _ _ from(And.intro (by decide) (by decide))) ?_)|(refine And.intro (show CPow _ _ from(And.intro (by decide) (And.intro (by decide) (by decide)))) ?_)|(refine And.intro (show (0:Int)<_ from(by decide)) ?_)))
local macro_rules | `(tactic| walk_at "if")=>`(tactic| dsimp only[Ws,List.set])
local macro_rules | `(tactic| walk_at "ar")=>`(tactic| (intro _ _ _ _ h;first|(cases h;subst_vars;rfl)|repeat (first|(obtain⟨h1,_⟩:=h;subst h1;rfl)|(obtain⟨_,h⟩:=h))))
section
variable{P:Program}{w:World}{K:Frag}{mg:#[U]}{base:Heap}{a:Ad}{f:Addr}{fd:FuncData}
abbrev Qg:Stmt:=top 2
theorem O7:#[r,["number","club","ledger","rest","rested"],["number","club","ledger","rest"],Qg]:=fnS
theorem Ec(F:#[l,"met_lately","met_lately",Qg])(T:#[o])(znv:Zw P w K mg base a.zno "over" 1 ["self"] (L6 a.zno))(zre:Zw P w K mg base a.zno "met" 1 ["self","number","club"] (zi8 a.zno)):FnOk P w K mg base #[k] 2 f fd ["number","club","ledger","rest"] (Ai a.zno):=by
 refine #[p,O7];obtain⟨p,lr,ld,Rs,n,c,rest,rfl,LA,h⟩:=h;refine⟨_,(Zb (pS 4 O7.nd (Zm (Oe rfl) (by rfl) T.zsw PyProof.Rows.boot_max (Za (Zs S6 (Ym (pv 2) T.zn9 znv (hr.mono ⋯) Zk) (pv 3)) (Za Zg Zc))))
 (Zf (Zl (W9 Ui (Y0 (pv 2) T.zn9 zre (hr.mono ⋯) Zk (Za (pv 0) (Za (pv 1) Zc))) (pv 4) (Zr _))))),?_⟩
 obtain⟨⟨dx,hp⟩,_,_⟩:=id LA;refine⟨_,rfl,p,dx,_,rfl,hp,K6 ⋯ ⋯,p,lr,ld,Rs,rfl,LA,_,rfl,_,_,rfl,rfl,_,_,rfl,?_⟩;refine⟨_,rfl,p,dx,_,rfl,hp,K6 ⋯ ⋯,_,rfl,_,rfl,p,lr,ld,Rs,n,c,rfl,LA,fun H' s'=>⟨_,rfl,_,_,rfl,rfl,h H' s'⟩⟩
abbrev Kh:Stmt:=top 3
theorem W5:#[r,["referee","match","out","ledger","rest","number","grade","club","home","guest","asked","told"],["referee","match","out","ledger","rest"],Kh]:=fnS
theorem zb3(F:#[l,"reasons","reasons",Kh])(T:#[o])(zp4:Z4 P w K mg base "met_lately" 2 ["number","club","ledger","rest"] (Ai a.zno)):FnOk P w K mg base #[k] 3 f fd ["referee","match","out","ledger","rest"] (Dh K a.zno):=by
 refine #[p,W5];obtain⟨t1,t2,p,lr,ld,Rs,n,g,c,h,gu,d,rest,o,rfl,h1,h2,LA,hq⟩:=h;refine⟨_,(Zb (pS 5 W5.nd (pI (iU K) (pv 0) Zg))
 (Zb (pS 6 W5.nd (pI (iU K) (pv 0) Zg))
 (Zb (pS 7 W5.nd (pI (iU K) (pv 0) Zg))
 (Zb (pS 8 W5.nd (pI (iU K) (pv 1) Zg))
 (Zb (pS 9 W5.nd (pI (iU K) (pv 1) Zg))
 (Zb (pS 10 W5.nd (pI (iU K) (pv 1) Zg))
 (Zb (pS 11 W5.nd (Z2 Zc))
 (Zb (Zy (Yx (pv 2))
  (Zf (Y3 (pv 11) Zn))
  Zq)
 (Zb (Zy (Zp Ui (pv 10) (pv 6) (Zr _))
  (Zf (Y3 (pv 11) Zn))
  Zq)
 (Zb (Zy (PW.pt (X3 (Zp Y6 (pv 7) (pv 8) (Zr _)) (Xt (Zp Y6 (pv 7) (pv 9) (Zr _)))))
  (Zf (Y3 (pv 11) Zn))
  Zq)
 (Zb (Zy (PW.pt (X3 (Yx (pF zp4 hr (Za (pv 5) (Za (pv 8) (Za (pv 3) (Za (pv 4) Zc)))))) (Xt (Yx (pF zp4 hr (Za (pv 5) (Za (pv 9) (Za (pv 3) (Za (pv 4) Zc)))))))))
  (Zf (Y3 (pv 11) Zn))
  Zq)
 (Zf (Zl (pv 11)))))))))))))),?_⟩
 show let y1:TS:=_;let y2:TS:=Z1 _ y1;let y3:TS:=Z1 _ y2;let y4:TS:=Z1 _ y3;let y5:TS:=Z1 _ y4;let y6:TS:=Z1 _ y5;let y7:TS:=Z1 _ y6;let y8:TS:=Z1 _ y7;let y9:TS:=Z1 _ y8;let y10:TS:=Z1 _ y9;let y11:TS:=Z1 _ y10;Z1 _ y11 _ _ _;intro y1 y2 y3 y4 y5 y6 y7 y8 y9 y10 y11;refine⟨_,rfl,t1,_,_,_,rfl,rfl,#[n,h1],show atI [V.int n,V.int g,V.int c] 0=some _ from rfl,_,rfl,t1,_,_,_,rfl,rfl,#[n,h1],show atI [V.int n,V.int g,V.int c] 1=some _ from rfl,_,rfl,t1,_,_,_,rfl,rfl,#[n,h1],show atI [V.int n,V.int g,V.int c] 2=some _ from rfl,?_⟩;refine⟨_,rfl,t2,_,_,_,rfl,rfl,#[n,h2],show atI [V.int h,V.int gu,V.int d] 0=some _ from rfl,_,rfl,t2,_,_,_,rfl,rfl,#[n,h2],show atI [V.int h,V.int gu,V.int d] 1=some _ from rfl,_,rfl,t2,_,_,_,rfl,rfl,#[n,h2],show atI [V.int h,V.int gu,V.int d] 2=some _ from rfl,?_⟩;refine#[ap,fun l hl=>?_];have s1:=Ze (o:=.lst []) hl;have q1:upd H l (.lst []) l=some #[i,([]:List Str).map,V.str]:=Zd;generalize upd H l (.lst [])=H1 at s1 q1;walk_at "if";have b1:=L8 o "away";have b2:=L8 (decide (g<d)) "grade";have b3:=L8 (#[g,c=h]||#[g,c=gu]) "club";refine Ss (b:=o) (H0:=H) (Mp fun Q q=>⟨_,rfl,_,rfl,q⟩) hl s1 q1 ⋯ rfl fun H2 s2 q2 _=>?_;rw[List.nil_append] at q2;refine Ss (b:=decide (g<d)) (H0:=H) (Mp fun Q q=>⟨_,rfl,_,rfl,_,_,rfl,rfl,_,rfl,q⟩) hl s2 q2 ⋯ rfl fun H3 s3 q3 _=>?_;refine Ss (b:=decide (c=h)||decide (c=gu)) (H0:=H) (Mp (Wu (fun Q q=>⟨_,rfl,_,rfl,rfl,_,rfl,Pd▸q⟩) fun Q q=>⟨_,rfl,_,rfl,rfl,_,rfl,Pd▸q⟩)) hl s3 q3 (by rw[zwp];omega) rfl fun H4 s4 q4 _=>?_;refine Ss (b:=Qs Rs n h rest||Qs Rs n gu rest) (H0:=H) (Aj (fun Q q=>⟨_,rfl,_,rfl,_,rfl,_,rfl,p,lr,ld,Rs,n,h,rest,rfl,LA.same s4,fun H5 s5=>#[w,_,q H5 s5]⟩) fun H5 s5 Q q=>⟨_,rfl,_,rfl,_,rfl,_,rfl,p,lr,ld,Rs,n,gu,rest,rfl,LA.same (s4.trans s5),fun H6 s6=>#[w,_,q H6 s6]⟩) hl s4 q4 (by rw[zwp,zwp];omega) rfl fun H5 s5 q5 _=>?_;refine#[w,_,hq l H5 ?_ s5 hl];unfold whyS;rw[q5,zx9,zx9]
abbrev V4:Stmt:=Z5 (top 23) 0
theorem Ny:#[al,V4]:=fnS
theorem Nz(F:#[l,"__init__","Ledger.__init__",V4])(T:#[o]):FnOk P w K mg base #[k] 1 f fd ["self"] (zcv a.zno):=by
 refine #[p,Ny];obtain⟨p,dx,rfl,hp,h⟩:=h;refine⟨_,(Zb (Xg (K:=K) rfl (pv 0) (Z2 Zc) rfl)
 (Zf (Xg (K:=K) rfl (pv 0) Hm rfl))),?_⟩
 refine#[ap,fun lr hlr=>?_];have np:p≠lr:=Zi hp hlr;refine⟨_,rfl,p,a.zno,dx,[],rfl,(by rw[Zh np];exact hp),T.zn9,T.zpt,⋯,?_⟩;intro ld hld;have n1:ld≠p:=fun z=>by rw[z,Zd] at hld;cases hld
 have n2:ld≠lr:=fun z=>by rw[z,Zh (Ne.symm np),Zd] at hld;cases hld
 have hld0:H ld=none:=by rw[Zh n1,Zh n2] at hld;exact hld
 refine⟨_,rfl,p,a.zno,dx,[("rounds",.ref lr)],rfl,(by rw[Zh (Ne.symm n1),Zd];rfl),T.zn9,T.zpr,(by show 1<1000;decide),?_⟩;rw[zl2];refine h lr ld _ ⟨⟨dx,Zd⟩,⟨[],?_,.nil⟩,⟨[],?_,fun n c=>rfl,zxh _⟩⟩ (fun b o e hb=>?_) hlr hld0 (Ne.symm n2)
 ·rw[Zh (Ne.symm np),Zh (Ne.symm n2),Zh (Ne.symm np),Zd]
 ·rw[Zh n1,Zd]
 ·rw[Zh hb,Zh (Zi e hld0),Zh hb,Zh (Zi e hlr)];exact e
abbrev T2:Stmt:=Z5 (top 23) 1
theorem X4:#[r,["self","rows","at","home","guest","grade","referee"],["self","rows"],T2]:=fnS
theorem Jk(F:#[l,"write","Ledger.write",T2])(T:#[o]):FnOk P w K mg base #[k] 1 f fd ["self","rows"] (As a.zno):=by
 refine #[p,X4];obtain⟨p,lr,ld,Rs,b,ts,rs,rfl,LA,hb,nb,tl,hl,hl2,h⟩:=h;have hu:=Xu hr;refine⟨_,(Zb (Y3 #[ad,Zu,0] (Ys (Hr (K:=K) rfl) (by rfl) T.zse PyProof.Rows.boot_tuple (Za (pv 1) Zc)))
 (Zb (pS 2 X4.nd (Zm (cL K) (by rfl) T.znu PySem.boot_len (Za (Zu (K:=K) rfl (pv 0) rfl) Zc)))
 (Zf (Xc PassesOwn.leaving rfl (Yh (K:=K) rfl (pv 1)) (Xm (K:=K) (n:=4) rfl rfl (Zv (pN 3 X4.nd) (Zv (pN 4 X4.nd) (Zv (pN 5 X4.nd) (Zv (pN 6 X4.nd) Xl)))))
  (Zf (Zy (Zp Tg (pv 6) Y8 (Zr _))
   (Zb (Yy hu (Zu (K:=K) rfl (pv 0) rfl) (Z9 (Za (pv 6) (Za (pv 3) Zc))) (pv 2) rfl)
   (Zf (Yy hu (Zu (K:=K) rfl (pv 0) rfl) (Z9 (Za (pv 6) (Za (pv 4) Zc))) (pv 2) rfl)))
   Zq)))))),?_⟩
 obtain⟨⟨dx,hp⟩,⟨rr,hlr,rl⟩,⟨kvs,hd,mt,kl⟩⟩:=LA;have hlen:ts.length=rs.length:=by rw[tl.length,zwm]
 have nrd:lr≠ld:=#[ak,Yu,hlr,hd];have nrp:p≠lr:=#[ak,Yu,hp,hlr];have npd:p≠ld:=#[ak,Yu,hp,hd];have nbd:b≠ld:=#[ak,Yu,hb,hd];refine⟨_,rfl,p,a.zno,dx,_,_,rfl,hp,T.zn9,T.zpt,Ru,lr,rr,rfl,hlr,_,rfl,b,ts,rfl,#[T,SqL.of hb,fun t ht=>⟨rr,(by rw[Zh (Zi hlr ht)];exact hlr),Rt (by rw[rl.length];omega),?_⟩]⟩;have ntr:t≠lr:=Ne.symm (Zi hlr ht);have k1:∀ x o,H x=#[d]->x≠lr->upd (upd H t (.tup ts)) lr (.lst (rr++[.ref t])) x=#[d]:=fun x o e n=>by rw[Zh n,Zh (Zi e ht)];exact e
 have t1:∀ x xs,H x=#[E,xs]->upd (upd H t (.tup ts)) lr (.lst (rr++[.ref t])) x=#[E,xs]:=fun x xs e=>k1 x _ e #[ak,Yu,e,hlr];have r1:upd (upd H t (.tup ts)) lr (.lst (rr++[.ref t])) lr=#[b,.lst,rr++[.ref t]]:=Zd;have rl1:Qb (upd (upd H t (.tup ts)) lr (.lst (rr++[.ref t]))) (rr++[.ref t]) (Rs++[rs]):=(rl.mono t1).snoc (by rw[Zh ntr,Zd]) (tl.mono t1);have tl1:=tl.mono t1;generalize upd (upd H t (.tup ts)) lr (.lst (rr++[.ref t]))=H1 at k1 t1 r1 rl1 tl1;have hp1:=k1 _ _ hp nrp;have hb1:=k1 _ _ hb nb;have hd1:=k1 _ _ hd (Ne.symm nrd);refine⟨_,rfl,p,a.zno,dx,_,_,rfl,hp1,T.zn9,T.zpt,Ru,lr,_,rfl,#[C,r1],?_⟩;have hN:(((rr++[V.ref t]).length:Nat):Int)=((Rs.length+1:Nat):Int):=by rw[zwp,rl.length];rfl
 rw[hN];refine⟨_,rfl,b,rfl,⟨_,SqL.of hb1⟩,Wy (K:=K) (a:=b) (xs:=ts) (fun i σ H'=>(∃ v1 v2 v3 v4,σ=[#[e,p],#[e,b],#[q,((Rs.length+1:Nat):Int)],v1,v2,v3,v4])/\(∀ x o,H1 x=#[d]->x≠ld->H' x=#[d]) /\
  ∃ kvs',H' ld=#[b,.dT,kvs']/\Ah kvs' (L7 Rs rs i)/\kvs'.length<=2*(tot Rs+i)) ⟨⟨_,_,_,_,rfl⟩,fun _ _ e _=>e,kvs,hd1,by rw[zd3];exact mt,by omega⟩ (fun i σ H' _ ⟨_,k,_⟩=>SqL.of (k _ _ hb1 nbd)) ?_ ?_⟩
 ·rintro i x σ H' hx ⟨⟨v1,v2,v3,v4,rfl⟩,k2,kvs',hd2,mt2,kl2⟩;obtain⟨tr,r,rfl,hr3,htr⟩:=zki tl1 hx;have hi:i<rs.length:=(zwo.mp hr3).1;have htr2:=k2 _ _ htr #[ak,Yu,htr,hd1];refine⟨tr,_,rfl,#[n,htr2],rfl,_,_,rfl,_,_,rfl,_,_,rfl,_,_,rfl,rfl,?_⟩;refine⟨_,rfl,rfl,_,rfl,?_⟩;cases hw:r.w with
  | none =>
    refine iteF ?_;exact⟨⟨_,_,_,_,rfl⟩,k2,kvs',hd2,by rw[zd4 hr3 hw];exact mt2,by omega⟩
  | some w =>
    refine iteT ?_;have hp2:=k2 _ _ hp1 npd;refine⟨_,rfl,_,rfl,p,a.zno,dx,_,_,rfl,hp2,T.zn9,T.zpr,Ph,_,rfl,_,rfl,sz2,fun t2 ht2=>⟨ld,_,rfl,DPut.t (k:=[inl w,inl r.h]) (by rw[Zh (Zi hd2 ht2)];exact hd2) Zd ((Nat.lt_trans (zx5 (show _<=200000 by omega) ⋯) Tv)),?_⟩⟩;have k3:∀ x o,H1 x=#[d]->x≠ld->upd (upd H' t2 (.tup [oV (some w),.int r.h])) ld (.dT (putK kvs' [inl w,inl r.h] (.int ((Rs.length+1:Nat):Int)))) x=#[d]:=fun x o e n=>by
     have:=k2 x o e n;rw[Zh n,Zh (Zi this ht2)];exact this
    have hd3:upd (upd H' t2 (.tup [oV (some w),.int r.h])) ld (.dT (putK kvs' [inl w,inl r.h] (.int ((Rs.length+1:Nat):Int)))) ld=#[b,.dT,putK kvs' [inl w,inl r.h] (.int ((Rs.length+1:Nat):Int))]:=Zd;have l3:=Xr kvs' ([inl w,inl r.h]:List Key) (.int ((Rs.length+1:Nat):Int));generalize upd (upd H' t2 (.tup [oV (some w),.int r.h])) ld (.dT (putK kvs' [inl w,inl r.h] (.int ((Rs.length+1:Nat):Int))))=H3 at k3 hd3;have hp3:=k3 _ _ hp1 npd;refine⟨_,rfl,_,rfl,p,a.zno,dx,_,_,rfl,hp3,T.zn9,T.zpr,Ph,_,rfl,_,rfl,sz2,fun t4 ht4=>⟨ld,_,rfl,DPut.t (k:=[inl w,inl r.g]) (by rw[Zh (Zi hd3 ht4)];exact hd3) Zd ((Nat.lt_trans (zx5 (show _<=200000 by omega) ⋯) Tv)),?_⟩⟩;refine⟨⟨_,_,_,_,rfl⟩,fun x o e n=>?_,_,Zd,?_,?_⟩
    ·have:=k3 x o e n;rw[Zh n,Zh (Zi this ht4)];exact this
    ·rw[<- zd5 hr3 hw];exact(mt2.put w r.h _ (Nat.succ_pos _)).put w r.g _ (Nat.succ_pos _)
    ·have:=Xr (putK kvs' ([inl w,inl r.h]:List Key) (.int ((Rs.length+1:Nat):Int))) ([inl w,inl r.g]:List Key) (.int ((Rs.length+1:Nat):Int));omega
 ·rintro σ H' ⟨⟨v1,v2,v3,v4,rfl⟩,k2,kvs',hd2,mt2,kl2⟩;rw[hlen] at mt2 kl2;rw[zga] at mt2;refine h H' ⟨⟨dx,k2 _ _ hp1 npd⟩,⟨_,k2 _ _ r1 nrd,rl1.mono fun x xs e=>k2 _ _ e #[ak,Yu,e,hd1]⟩,kvs',hd2,mt2,by rw[zf9];exact kl2⟩ fun x o e n1 n2=>k2 x o (k1 x o e n1) n2
abbrev S8:Stmt:=Z5 (top 23) 2
theorem G0:#[al,S8]:=fnS
theorem G1(F:#[l,"over","Ledger.over",S8])(T:#[o]):FnOk P w K mg base #[k] 1 f fd ["self"] (L6 a.zno):=by
 refine #[p,G0];obtain⟨p,lr,ld,Rs,rfl,LA,h⟩:=h;refine⟨_,Zf (Zl #[ah,Zm,cL K,T.znu,Za (Zu (K:=K) rfl (pv 0) rfl) Zc]),?_⟩;obtain⟨⟨dx,hp⟩,⟨rr,hlr,rl⟩,_⟩:=LA;refine⟨_,rfl,p,a.zno,dx,_,_,rfl,hp,T.zn9,T.zpt,Ru,lr,_,rfl,#[C,hlr],?_⟩;rw[rl.length];exact h
abbrev T3:Stmt:=Z5 (top 23) 3
theorem Jl:#[r,["self","at"],["self","at"],T3]:=fnS
theorem Jm(F:#[l,"facts","Ledger.facts",T3])(T:#[o]):FnOk P w K mg base #[k] 1 f fd ["self","at"] (zcw a.zno a.zod):=by
 refine #[p,Jl];obtain⟨p,lr,ld,Rs,i,rfl,LA,si,h1,h2⟩:=h;refine⟨_,(Zb (Zy (PW.pt (X3 (Zp Sn (pv 1) Zg (Zr _)) (Xt (Zp Ui (pv 1) #[ah,Zm,cL K,T.znu,Za (Zu (K:=K) rfl (pv 0) rfl) Zc] (Zr _)))))
  (Zf (Xj Xi rfl T.zrx rfl (Za (Vb (Z3 (Xv ⋯) (Z3 (Wz (pv 1)) (Z3 (Xv ⋯) Va))) ⋯) Zc)))
  Zq)
 (Zf (Zl (Ys (Xf (K:=K) rfl) (by rfl) T.zo0 PyProof.Rows.boot_list (Za (pI (iL K) (Zu (K:=K) rfl (pv 0) rfl) (Zs S6 (pv 1) Zg)) Zc))))),?_⟩
 obtain⟨⟨dx,hp⟩,⟨rr,hlr,rl⟩,_⟩:=LA;refine⟨_,rfl,_,_,rfl,rfl,_,rfl,?_⟩;refine itD (fun hc=>?_) fun hc=>?_
 ·refine iteT ?_;exact#[av,_,_,si,h1 (.inl hc)]
 refine⟨_,rfl,_,rfl,p,a.zno,dx,_,_,rfl,hp,T.zn9,T.zpt,Ru,lr,_,rfl,#[C,hlr],_,_,rfl,rfl,_,rfl,?_⟩;rw[rl.length];refine itD (fun hc2=>?_) fun hc2=>?_
 ·exact#[av,_,_,si,h1 (.inr hc2)]
 obtain⟨k,rfl⟩:∃ k:Nat,i=(k:Int)+1:=⟨(i-1).toNat,by omega⟩;have hk:k<Rs.length:=by omega
 obtain⟨t,xs,e1,e2,e3⟩:=rl.getR (zwn hk);refine⟨_,rfl,p,a.zno,dx,_,_,rfl,hp,T.zn9,T.zpt,Ru,_,rfl,_,_,rfl,rfl,lr,_,_,_,rfl,rfl,SqL.of hlr,(show atI rr ((k:Int)+1-1)=some (.ref t) by rw[show (k:Int)+1-1=(k:Int) by omega];exact Z7 e1),t,xs,rfl,.inr (SqT.of e2),fun l hl=>h2 k _ rfl (zwn hk) l xs hl e3⟩
abbrev Qh:Stmt:=Z5 (top 23) 4
theorem Ed:#[r,["self","number","club"],["self","number","club"],Qh]:=fnS
theorem Ee(F:#[l,"met","Ledger.met",Qh])(T:#[o]):FnOk P w K mg base #[k] 1 f fd ["self","number","club"] (zi8 a.zno):=by
 refine #[p,Ed];obtain⟨p,lr,ld,Rs,n,c,rfl,LA,h⟩:=h;have hu:=Xu hr;refine⟨_,Zf (Zl (zfs hu #[ad,Zu,0] (Z9 (Za (pv 1) (Za (pv 2) Zc))) Zg ⟨rfl,rfl,rfl,rfl⟩)),?_⟩;obtain⟨⟨dx,hp⟩,_,⟨kvs,hd,mt,kl⟩⟩:=LA;refine⟨_,rfl,p,a.zno,dx,_,_,rfl,hp,T.zn9,T.zpr,Ph,ld,rfl,.inr ⟨kvs,.inl hd⟩,_,rfl,_,rfl,sz2,fun t ht=>⟨_,DGet.t (k:=[inl n,inl c]) (by rw[Zh (Zi hd ht)];exact hd) Zd,?_⟩⟩;have e:((valV kvs ([inl n,inl c]:List Key)).getD (.int 0))=.int (metS Rs n c:Nat):=by
  rw[mt n c];split
  ·rename_i z;rw[z];rfl
  ·rfl
 rw[e];exact h _ (Ze ht)
abbrev S9:Stmt:=top 25
theorem G2:#[r,["value","least","most"],["value","least","most"],S9]:=fnS
theorem G3(F:#[l,"check_range","check_range",S9])(T:#[o]):FnOk P w K mg base #[k] 1 f fd ["value","least","most"] (Mu a.zn6):=by
 refine #[p,G2];obtain⟨v,lo,m,rfl,s1,s2,s3,h⟩:=h;refine⟨_,(Zf (Zy (PW.pt (X3 (Zp Sn (pv 0) (pv 1) (Zr _)) (Xt (Zp Ui (pv 0) (pv 2) (Zr _)))))
  (Zf (Xj Xi rfl T.ztk rfl (Za (Vb (Z3 (Wz (pv 0)) (Z3 (Xv ⋯) (Z3 (Wz (pv 1)) (Z3 (Xv ⋯) (Z3 (Wz (pv 2)) Va))))) ⋯) Zc)))
  Zq)),?_⟩
 walk_at "rd";refine itD (fun h1=>?_) fun h1=>?_
 ·rw[if_pos (Or.inl h1)] at h;refine iteT ?_;walk_at "rd";refine⟨.inl ⟨_,rfl,s1⟩,_,rfl,.inl ⟨_,rfl,s2⟩,_,rfl,.inl ⟨_,rfl,s3⟩,fun z=>⟨sz1,h⟩⟩
 ·walk_at "rd";refine itD (fun h2=>?_) fun h2=>?_
  ·rw[if_pos (Or.inr h2)] at h;walk_at "rd";refine⟨.inl ⟨_,rfl,s1⟩,_,rfl,.inl ⟨_,rfl,s2⟩,_,rfl,.inl ⟨_,rfl,s3⟩,fun z=>⟨sz1,h⟩⟩
  ·rw[#[c,fun z=>z.elim h1 h2]] at h;exact h
abbrev Ra:Stmt:=top 35
theorem Pr:#[r,["matches","count"],["matches"],Ra]:=fnS
theorem G4(F:#[l,"check_count","check_count",Ra])(T:#[o]):FnOk P w K mg base #[k] 1 f fd ["matches"] (Az K (ca a)):=by
 refine #[p,Pr];obtain⟨b,ts,rfl,hs,hl,h1,h2⟩:=h;refine⟨_,(Zb (pS 1 Pr.nd #[ah,Zm,cL K,T.znu,Za (pv 0) Zc])
 (Zf (Zy (Zp Ui (pv 1) (Ww rfl T.zph) (Zr _))
  (Zf (Xj Xi rfl T.zsh rfl (Za (Vb (Z3 (Wz (pv 1)) (Z3 (Xv ⋯) (Z3 (Wz (Ww rfl T.zph)) Va))) ⋯) Zc)))
  Zq))),?_⟩
 refine⟨_,rfl,b,_,rfl,.inl hs,?_⟩;walk_at "rd";refine itD (fun hc=>?_) fun hc=>?_
 ·walk_at "rd";exact⟨.inl ⟨_,rfl,Z0 ⋯ ⋯⟩,.inl ⟨_,rfl,Yk ⋯⟩,fun z=>⟨sz1,h1 ⋯⟩⟩
 ·exact h2 ⋯
abbrev T4:Stmt:=top 36
theorem Vk:#[r,["matches","home","guest","grade"],["matches"],T4]:=fnS
theorem Jn(F:#[l,"check_ranges","check_ranges",T4])(T:#[o])(zny:Z4 P w K mg base "check_range" 1 ["value","least","most"] (Mu a.zn6)):FnOk P w K mg base #[k] 2 f fd ["matches"] (Dw K (ca a)):=by
 refine #[p,Vk];obtain⟨b,ts,Ms,rfl,hs,tl,sm,h1,h2⟩:=h;refine⟨_,(Zf (Xc PassesOwn.leaving rfl (Yh (K:=K) rfl (pv 0)) (Xm (K:=K) (n:=3) rfl rfl (Zv (pN 1 Vk.nd) (Zv (pN 2 Vk.nd) (Zv (pN 3 Vk.nd) Xl))))
  (Zb (Yb (pF zny hr (Za (pv 1) (Za Zg (Za (Ww rfl T.zpw) Zc)))))
  (Zb (Yb (pF zny hr (Za (pv 2) (Za Zg (Za (Ww rfl T.zpw) Zc)))))
  (Zf (Yb (pF zny hr (Za (pv 3) (Za Zg (Za (Ww rfl T.zp6) Zc)))))))))),?_⟩
 have hlen:ts.length=Ms.length:=by rw[tl.length,zwm]
 let jv1:Nat->L2.St->Hp->Prop:=fun i σ H'=>H'=H/\(∃ v1 v2 v3,σ=[some (.ref b),v1,v2,v3])/\∀ m∈Ms.take i,¬ badM m
 refine⟨_,rfl,b,rfl,⟨_,hs⟩,Wy (K:=K) (a:=b) (xs:=ts) jv1 ⟨rfl,⟨_,_,_,rfl⟩,by simp⟩ (fun i σ H' _ ⟨e,_⟩=>e▸hs) ?_ ?_⟩
 ·rintro i x σ H' hx ⟨rfl,⟨v1,v2,v3,rfl⟩,hi⟩;obtain⟨t,m,rfl,hm,ht⟩:=Ot tl hx;have hmem:=zw0 hm;obtain⟨s1,s2,s3⟩:=sm m hmem;have bad:badM m->E (.ref a.zn6) none H':=fun hb=>h1 ⟨m,hmem,hb⟩;refine⟨t,_,rfl,#[n,ht],rfl,_,_,rfl,_,_,rfl,_,_,rfl,rfl,?_⟩;refine⟨_,rfl,_,1,99,rfl,s1,Yk ⋯,Yk ⋯,?_⟩;refine Cn (fun b1=>bad (by unfold badM;omega)) fun b1=>?_;refine⟨_,rfl,_,1,99,rfl,s2,Yk ⋯,Yk ⋯,?_⟩;refine Cn (fun b2=>bad (by unfold badM;omega)) fun b2=>?_;refine⟨_,rfl,_,1,9,rfl,s3,Yk ⋯,Yk ⋯,?_⟩;refine Cn (fun b3=>bad (by unfold badM;omega)) fun b3=>?_;exact⟨rfl,⟨_,_,_,rfl⟩,Dv hm hi (by unfold badM;omega)⟩
 ·rintro σ H' ⟨rfl,⟨v1,v2,v3,rfl⟩,hi⟩;rw[hlen,zw3] at hi;exact h2 fun ⟨m,hm,hb⟩=>hi m hm hb
abbrev Rb:Stmt:=top 37
theorem V5:#[r,["matches","home","guest","grade"],["matches"],Rb]:=fnS
theorem G5(F:#[l,"check_clubs","check_clubs",Rb])(T:#[o]):FnOk P w K mg base #[k] 1 f fd ["matches"] (A0 K (ca a)):=by
 refine #[p,V5];obtain⟨b,ts,Ms,rfl,hs,tl,sm,h1,h2⟩:=h;refine⟨_,(Zf (Xc PassesOwn.leaving rfl (Yh (K:=K) rfl (pv 0)) (Xm (K:=K) (n:=3) rfl rfl (Zv (pN 1 V5.nd) (Zv (pN 2 V5.nd) (Zv (pN 3 V5.nd) Xl))))
  (Zf (Zy (Zp Y6 (pv 1) (pv 2) (Zr _))
   (Zf (Xj Xi rfl T.ztz rfl (Za (Vb (Z3 (Xv ⋯) (Z3 (Wz (pv 1)) (Z3 (Xv ⋯) Va))) ⋯) Zc)))
   Zq)))),?_⟩
 have hlen:ts.length=Ms.length:=by rw[tl.length,zwm]
 let jv2:Nat->L2.St->Hp->Prop:=fun i σ H'=>H'=H/\(∃ v1 v2 v3,σ=[some (.ref b),v1,v2,v3])/\∀ m∈Ms.take i,¬ (m.1=m.2.1)
 refine⟨_,rfl,b,rfl,⟨_,hs⟩,Wy (K:=K) (a:=b) (xs:=ts) jv2 ⟨rfl,⟨_,_,_,rfl⟩,by simp⟩ (fun i σ H' _ ⟨e,_⟩=>e▸hs) ?_ ?_⟩
 ·rintro i x σ H' hx ⟨rfl,⟨v1,v2,v3,rfl⟩,hi⟩;obtain⟨t,m,rfl,hm,ht⟩:=Ot tl hx;have hmem:=zw0 hm;obtain⟨s1,s2,s3⟩:=sm m hmem;refine⟨t,_,rfl,#[n,ht],rfl,_,_,rfl,_,_,rfl,_,_,rfl,rfl,?_⟩;refine⟨_,rfl,_,rfl,rfl,_,rfl,?_⟩;refine itV (fun he=>?_) fun he=>?_
  ·exact#[av,_,_,s1,h1 ⟨m,hmem,he⟩]
  ·exact⟨rfl,⟨_,_,_,rfl⟩,Dv (p:=fun m=>m.1=m.2.1) hm hi he⟩
 ·rintro σ H' ⟨rfl,⟨v1,v2,v3,rfl⟩,hi⟩;rw[hlen,zw3] at hi;exact h2 fun ⟨m,hm,hb⟩=>hi m hm hb
abbrev Ki:Stmt:=top 38
theorem zb4:#[r,["matches"],["matches"],Ki]:=fnS
theorem zb5(F:#[l,"checked","checked",Ki])(T:#[o])(zq2:Z4 P w K mg base "check_count" 1 ["matches"] (Az K (ca a)))(zqp:Z4 P w K mg base "check_ranges" 2 ["matches"] (Dw K (ca a)))(zqx:Z4 P w K mg base "check_clubs" 1 ["matches"] (A0 K (ca a))):FnOk P w K mg base #[k] 3 f fd ["matches"] (Gi K (ca a)):=by
 refine #[p,zb4];obtain⟨b,ts,Ms,rfl,hs,tl,sm,hl,h1,h2,h3,h4⟩:=h;refine⟨_,(Zb (Yb (pF zq2 hr (Za (pv 0) Zc)))
 (Zb (Yb (pF zqp hr (Za (pv 0) Zc)))
 (Zb (Yb (pF zqx hr (Za (pv 0) Zc)))
 (Zf (Zl (Ys (Xf (K:=K) rfl) (by rfl) T.zo0 PyProof.Rows.boot_list (Za (pv 0) Zc))))))),?_⟩
 have hlen:ts.length=Ms.length:=by rw[tl.length,zwm]
 refine⟨_,rfl,b,ts,rfl,hs,by omega,fun hc=>h1 ⋯,fun hc=>?_⟩;refine⟨_,rfl,b,ts,Ms,rfl,hs,tl,sm,fun hb=>h2 ⋯ hb,fun hb=>?_⟩;refine⟨_,rfl,b,ts,Ms,rfl,hs,tl,sm,fun hb2=>h3 ⋯ hb hb2,fun hb2=>?_⟩;exact⟨_,rfl,b,ts,rfl,.inl hs,h4 ⋯ hb hb2⟩
abbrev V6:Stmt:=Z5 (top 40) 0
theorem N1:#[al,V6]:=fnS
theorem N2(F:#[l,"__init__","Roster.__init__",V6])(T:#[o]):FnOk P w K mg base #[k] 1 f fd ["self"] #[h,zc1]:=by
 refine #[p,N1];obtain⟨p,dx,rfl,hp,h⟩:=h;refine⟨_,Zf (Xg (K:=K) rfl (pv 0) Hl rfl),?_⟩;intro d hd;exact⟨_,rfl,p,a.znq,dx,[],rfl,(by rw[Zh (Zi hp hd)];exact hp),T.zn4,T.zow,⋯,h d hd⟩
abbrev Vr:Stmt:=Z5 (top 40) 1
theorem Ox:#[r,#[aq],#[aq],Vr]:=fnS
theorem Oy(F:#[l,"check_new","Roster.check_new",Vr])(T:#[o])(zny:Z4 P w K mg base "check_range" 1 ["value","least","most"] (Mu a.zn6)):FnOk P w K mg base #[k] 2 f fd #[aq] #[h,Nl]:=by
 refine #[p,Ox];obtain⟨p,d,R,n,g,c,rfl,RA,sm,h⟩:=h;have hu:=Xu hr;refine⟨_,(Zb (Yb (pF zny hr (Za (pv 1) (Za Zg (Za (Ww rfl T.zqw) Zc)))))
 (Zb (Yb (pF zny hr (Za (pv 2) (Za Zg (Za (Ww rfl T.zp6) Zc)))))
 (Zb (Yb (pF zny hr (Za (pv 3) (Za Zg (Za (Ww rfl T.zpw) Zc)))))
 (Zb (Zy (S4 (Pc hu (pv 1) (Zu (K:=K) rfl (pv 0) rfl)))
  (Zf (Xj Xi rfl T.zs5 rfl (Za (Vb (Z3 (Xv ⋯) (Z3 (Wz (pv 1)) (Z3 (Xv ⋯) Va))) ⋯) Zc)))
  Zq)
 (Zf (Zy (Zp zfg (Zm zdu (by rfl) T.znu PySem.boot_len (Za (Zu (K:=K) rfl (pv 0) rfl) Zc)) (Ww rfl T.zo8) (Zr _))
  (Zf (Xj Xi rfl T.zsc rfl (Za (Vb (Z3 (Xv ⋯) (Z3 (Wz (Ww rfl T.zo8)) (Z3 (Xv ⋯) Va))) ⋯) Zc)))
  Zq)))))),?_⟩
 obtain⟨sn,sg,sc⟩:=sm;obtain⟨⟨dx,kvs,hp,hd,en⟩,nd⟩:=id RA;have bad:∀ {A B:Prop},(badI n g c->(if badI n g c then A else B)->A):=fun hb z=>by rw[#[f,hb]] at z;exact z
 refine⟨_,rfl,n,1,999,rfl,sn,Yk ⋯,Yk ⋯,?_⟩;refine Cn (fun b1=>bad (by unfold badI;omega) h) fun b1=>?_;refine⟨_,rfl,g,1,9,rfl,sg,Yk ⋯,Yk ⋯,?_⟩;refine Cn (fun b2=>bad (by unfold badI;omega) h) fun b2=>?_;refine⟨_,rfl,c,1,99,rfl,sc,Yk ⋯,Yk ⋯,?_⟩;refine Cn (fun b3=>bad (by unfold badI;omega) h) fun b3=>?_;rw[#[c,(by unfold badI;omega)]] at h;refine⟨_,rfl,_,rfl,p,a.znq,dx,_,_,rfl,hp,T.zn4,T.zow,Vq,d,_,rfl,DGet.k (k:=inl n) hd,_,rfl,?_⟩;rw[en.isSome nd];refine itD (fun hn=>?_) fun hn=>?_
 ·rw[#[f,hn]] at h;exact#[av,_,_,sn,h]
 rw[#[c,hn]] at h;refine⟨_,rfl,p,a.znq,dx,_,_,rfl,hp,T.zn4,T.zow,Vq,d,_,rfl,hd,_,_,rfl,rfl,_,rfl,?_⟩;rw[en.length];refine itD (fun hz=>?_) fun hz=>?_
 ·rw[if_pos ⋯] at h;exact⟨.inl ⟨_,rfl,Yk ⋯⟩,fun z=>⟨sz1,h⟩⟩
 rw[if_neg ⋯] at h;exact h
abbrev W6:Stmt:=Z5 (top 40) 2
theorem Q0:#[r,#[Y],#[Y],W6]:=fnS
theorem Q4(F:#[l,"check_known","Roster.check_known",W6])(T:#[o]):FnOk P w K mg base #[k] 1 f fd #[Y] #[h,Tn]:=by
 refine #[p,Q0];obtain⟨p,d,R,n,rfl,RA,sn,h⟩:=h;have hu:=Xu hr;refine⟨_,(Zf (Zy (S4 (Ls hu (pv 1) #[ad,Zu,0]))
  (Zf (Xj Xi rfl T.zsj rfl (Za (Vb (Z3 (Xv ⋯) (Z3 (Wz (pv 1)) (Z3 (Xv ⋯) Va))) ⋯) Zc)))
  Zq)),?_⟩
 obtain⟨⟨dx,kvs,hp,hd,en⟩,nd⟩:=id RA;refine⟨_,rfl,_,rfl,p,a.znq,dx,_,_,rfl,hp,T.zn4,T.zow,Vq,d,_,rfl,DGet.k (k:=inl n) hd,_,rfl,?_⟩;rw[en.isSome nd];by_cases hn:n∈R.map (·.1)
 ·rw[zws hn];rw[#[f,hn]] at h;exact iteF h
 ·rw[zwx hn];rw[#[c,hn]] at h;exact iteT #[av,_,_,sn,h]
abbrev Qi:Stmt:=Z5 (top 40) 3
theorem Ef:#[r,#[aq],#[aq],Qi]:=fnS
theorem Eg(F:#[l,"add","Roster.add",Qi])(T:#[o])(zoc:Zw P w K mg base a.znq "check_new" 2 #[aq] #[h,Nl]):FnOk P w K mg base #[k] 3 f fd #[aq] #[h,zgt]:=by
 refine #[p,Ef];obtain⟨p,d,R,n,g,c,rfl,RA,sm,hl,h⟩:=h;have hu:=Xu hr;refine⟨_,(Zb (Yb (Y0 (pv 0) T.zn4 zoc (hr.mono ⋯) Zk (Za (pv 1) (Za (pv 2) (Za (pv 3) Zc)))))
 (Zf (Yy hu (Zu (K:=K) rfl (pv 0) rfl) (pv 1) (Z9 (Za (pv 2) (Za (pv 3) Zc))) rfl))),?_⟩
 obtain⟨⟨dx,kvs,hp,hd,en⟩,nd⟩:=id RA;refine⟨_,rfl,p,dx,_,rfl,hp,Xn.no ⋯,_,rfl,_,rfl,_,rfl,p,d,R,n,g,c,rfl,RA,sm,?_⟩;refine it2 h (fun _ z=>z) fun hb h=>it2 h (fun _ z=>z) fun hn h=>it2 h (fun _ z=>z) fun hz h=>?_;refine⟨_,rfl,_,rfl,sz2,fun t ht=>?_⟩;have ntp:p≠t:=Zi hp ht;have ntd:d≠t:=Zi hd ht;have npd:p≠d:=#[ak,Yu,hp,hd];refine⟨_,rfl,p,a.znq,dx,_,_,rfl,(by rw[Zh ntp];exact hp),T.zn4,T.zow,Vq,_,rfl,d,_,rfl,DPut.k (k:=inl n) (by rw[Zh ntd];exact hd) (Rt (by rw[en.length];exact hl)),?_⟩;rw[zeg (en.val_none hn)];refine h _ ⟨⟨dx,_,(by rw[Zh npd,Zh ntp];exact hp),Zd,?_⟩,?_⟩ fun b o e hb=>(by rw[Zh hb,Zh (Zi e ht)];exact e)
 ·refine Vp.snoc (by rw[Zh (Ne.symm ntd)];exact Zd) (en.mono fun b xs e=>?_);rw[Zh (Yu e hd (by intro z;cases z)),Zh (Zi e ht)];exact e
 ·rw[zwq];exact Co nd hn
abbrev U6:Stmt:=Z5 (top 40) 4
theorem Kj:#[r,#[Y],#[Y],U6]:=fnS
theorem Kk(F:#[l,"strike","Roster.strike",U6])(T:#[o]):FnOk P w K mg base #[k] 1 f fd #[Y] #[h,Ap]:=by
 refine #[p,Kj];obtain⟨p,d,R,n,g,c,rfl,RA,h⟩:=h;refine⟨_,Zf (Yb (zft #[ad,Zu,0] (pv 1) ⟨rfl,rfl,rfl,rfl⟩)),?_⟩;obtain⟨⟨dx,kvs,hp,hd,en⟩,nd⟩:=id RA;have npd:p≠d:=#[ak,Yu,hp,hd];obtain⟨t,e1,e2⟩:=en.val_some nd (show (n,g,c)∈R++[(n,g,c)] by simp);have hn:n∉R.map (·.1):=by
  rw[zwq,List.nodup_append] at nd;exact fun z=>nd.2.2 n z n (by simp) rfl
 refine⟨_,rfl,p,a.znq,dx,_,_,rfl,hp,T.zn4,T.zow,Vq,d,rfl,#[T,kvs,.inl hd],_,rfl,kvs,inl n,_,hd,rfl,e1,?_⟩;refine h _ ⟨⟨dx,_,(by rw[Zh npd];exact hp),Zd,(en.unsnoc hn).mono fun b xs e=>?_⟩,?_⟩ fun b o e hb=>(by rw[Zh hb];exact e)
 ·rw[Zh (Yu e hd (by intro z;cases z))];exact e
 ·rw[zwq,List.nodup_append] at nd;exact nd.1
abbrev Us:Stmt:=Z5 (top 40) 6
theorem Mz:#[al,Us]:=fnS
theorem M0(F:#[l,"numbers","Roster.numbers",Us])(T:#[o]):FnOk P w K mg base #[k] 1 f fd ["self"] #[h,Nm]:=by
 refine #[p,Mz];obtain⟨p,d,R,rfl,RA,h⟩:=h;refine⟨_,Zf (Zl (Ys (zbk rfl) (by rfl) T.zo0 PyProof.Rows.boot_list (Za (Zu (K:=K) rfl (pv 0) rfl) Zc))),?_⟩;obtain⟨⟨dx,kvs,hp,hd,en⟩,nd⟩:=id RA;refine⟨_,rfl,p,a.znq,dx,_,_,rfl,hp,T.zn4,T.zow,Vq,d,kvs,rfl,.inl hd,fun l hl=>?_⟩;rw[en.keys];exact h l hl
abbrev T5:Stmt:=Z5 (top 40) 7
theorem Jo:#[r,#[Y],#[Y],T5]:=fnS
theorem Jp(F:#[l,"entry","Roster.entry",T5])(T:#[o])(znt:Zw P w K mg base a.znq "check_known" 1 #[Y] #[h,Tn]):FnOk P w K mg base #[k] 2 f fd #[Y] #[h,Gb]:=by
 refine #[p,Jo];obtain⟨p,d,R,n,rfl,RA,sn,h1,h2⟩:=h;have hu:=Xu hr;refine⟨_,(Zb (Yb (Y0 (pv 0) T.zn4 znt (hr.mono ⋯) Zk (Za (pv 1) Zc)))
 (Zf (Zl (pD hu (Zu (K:=K) rfl (pv 0) rfl) (pv 1))))),?_⟩
 obtain⟨⟨dx,kvs,hp,hd,en⟩,nd⟩:=id RA;refine⟨_,rfl,p,dx,_,rfl,hp,Xn.no ⋯,_,rfl,p,d,R,n,rfl,RA,sn,?_⟩;refine Cn (fun hn=>?_) fun hn=>h1 hn;obtain⟨⟨m,g,c⟩,q,rfl⟩:=zwv.mp hn;obtain⟨t,e1,e2⟩:=en.val_some nd q;exact⟨_,rfl,p,a.znq,dx,_,_,rfl,hp,T.zn4,T.zow,Vq,_,rfl,d,_,rfl,(by rw[<- e1];exact DGet.k (k:=inl m) hd),h2 g c t q e2⟩
abbrev U7:Stmt:=Z5 (top 40) 10
theorem Kl:#[r,#[Y],#[Y],U7]:=fnS
theorem Km(F:#[l,"person","Roster.person",U7])(T:#[o])(zoq:Zw P w K mg base a.znq "entry" 2 #[Y] #[h,Gb]):FnOk P w K mg base #[k] 3 f fd #[Y] #[h,Aq]:=by
 refine #[p,Kl];obtain⟨p,d,R,n,rfl,RA,sn,h1,h2⟩:=h;refine⟨_,Zf (Zl (Zs (Ar (K:=K) rfl) (Z9 (Za (pv 1) Zc)) (Y0 (pv 0) T.zn4 zoq (hr.mono ⋯) Zk (Za (pv 1) Zc)))),?_⟩;obtain⟨⟨dx,kvs,hp,hd,en⟩,nd⟩:=id RA;refine⟨_,rfl,sz1,fun t1 ht1=>?_⟩;have s1:=Ze (o:=.tup [.int n]) ht1;have q1:upd H t1 (.tup [.int n]) t1=#[b,.tup,[.int n]]:=Zd;generalize upd H t1 (.tup [.int n])=H1 at s1 q1;refine⟨_,rfl,p,dx,_,rfl,s1 _ _ hp,Xn.no ⋯,_,rfl,p,d,R,n,rfl,RA.same s1,sn,fun hn=>h1 hn H1 s1,fun g c t q ht=>?_⟩;refine⟨t1,t,_,_,rfl,rfl,#[n,q1],#[n,ht],by simp,by show 1+2<=sizeLine;exact sz3,fun z=>absurd z (by simp),fun _ t2 ht2=>?_⟩;exact h2 g c t2 _ q Zd (s1.trans (Ze ht2)) (s1.free ht2)
abbrev G6:Stmt:=top 4
theorem ze2:#[r,["people","match","out","ledger","rest"],["people","match","out","ledger","rest"],G6]:=fnS
theorem ze3(F:#[l,"takers","takers",G6])(T:#[o])(zsm:Z4 P w K mg base "reasons" 3 ["referee","match","out","ledger","rest"] (Dh K a.zno)):FnOk P w K mg base #[k] 4 f fd ["people","match","out","ledger","rest"] (Ak K a.zno):=by
 refine #[p,ze2];obtain⟨lp,lo,tm,p,lr,ld,Rs,ts,Ms,os,h,gu,d,rest,rfl,hp,tl,ho,hoo,ht,LA,hl,hq⟩:=h;refine⟨_,Zf (Zl (X7 rfl (cT ["match","ledger","rest","out"] [1,3,4,2]) (Yh (K:=K) rfl (pv 0)) (fun _ _ _ _ _=>Ir (Xa (De (K:=K) rfl (Af zsm (hr.mono ⋯) Ae rfl (Za (pv 0) (Za (pv 1) (Za (W9 (Ng (K:=K) rfl) (pI (iU K) (pv 0) Zg) (pv 4) (by with_unfolding_all rfl)) (Za (pv 2) (Za (pv 3) Zc)))))) fun _=>rfl))) fun _ _ _ _ _=>(pI (iU K) (pv 0) Zg))),?_⟩;have hlen:ts.length=Ms.length:=by rw[tl.length,zwm]
 refine⟨_,rfl,lp,rfl,⟨_,SqL.of hp⟩,?_⟩;refine Wf (K:=K) (a:=lp) (xs:=ts) (fun i ys H'=>#[v]/\ys=((Ms.take i).filter (Pj Rs h gu d os rest)).map fun m=>V.int m.1) #[y,Same.refl _] (fun i ys H' _ ⟨s,_⟩=>#[Q,s,hp]) (by rw[hlen];exact szN hl) (fun i ys H' ⟨_,e⟩=>by rw[e,zwm];exact zw6 (zxw _ _) (zxv _ _)) ?_ ?_
 ·rintro i x ys H' hx ⟨sm,rfl⟩;obtain⟨t,m,rfl,hm,htt⟩:=Ot tl hx;have htt':=sm _ _ htt;refine⟨_,rfl,_,rfl,_,rfl,t,_,_,_,rfl,rfl,#[n,htt'],show atI (pV m) 0=some _ from rfl,_,rfl,lo,os,rfl,#[C,sm _ _ ho],rfl,zyo.mpr fun y hy=>zgc (hoo y hy),_,rfl,_,rfl,t,tm,p,lr,ld,Rs,m.1,m.2.1,m.2.2,h,gu,d,rest,inV (.int m.1) os,rfl,htt',sm _ _ ht,LA.same sm,fun l H2 hl2 s2 _=>?_⟩;refine⟨_,.inl ⟨_,SqL.of hl2,rfl⟩,?_⟩;have e:((whyS Rs m.1 m.2.1 m.2.2 h gu d (inV (.int m.1) os) rest).map V.str).isEmpty=Pj Rs h gu d os rest m:=by unfold Pj;rw[List.isEmpty_map]
  have hys:∀ ys',((Ms.take (i+1)).filter (Pj Rs h gu d os rest)).map (fun m=>V.int m.1)=((Ms.take i).filter (Pj Rs h gu d os rest)).map (fun m=>V.int m.1)++ys'↔ys'=if Pj Rs h gu d os rest m then [V.int m.1] else []:=fun ys'=>by
   rw[zxy,hm,zyx,zwq,List.append_cancel_left_eq];cases q:Pj Rs h gu d os rest m<;>simp[q,eq_comm]
  dsimp only;rw[e];refine itB (fun hb=>?_) fun hb=>?_
  ·rw[Bool.not_not] at hb;refine⟨_,rfl,t,_,_,_,rfl,rfl,SqT.of (s2 _ _ htt'),show atI (pV m) 0=some _ from rfl,sm.trans s2,?_⟩;exact((hys [V.int m.1]).mpr (by rw[hb];rfl)).symm
  ·rw[Bool.not_not] at hb;refine⟨sm.trans s2,?_⟩;have:=(hys []).mpr (by rw[hb];rfl);rw[zyv] at this;exact this.symm
 ·rintro ys H' ⟨sm,rfl⟩ l hl';rw[hlen,zw3];exact hq l _ Zd (sm.trans (Ze hl')) (sm.free hl')
abbrev T6:Stmt:=top 42
theorem Vl:#[r,["given","taken","place","number"],["given"],T6]:=fnS
theorem Jq(F:#[l,"places_taken","places_taken",T6])(T:#[o]):FnOk P w K mg base #[k] 1 f fd ["given"] (zcz K):=by
 refine #[p,Vl];obtain⟨b,gs,rfl,hb,ho,hinj,hl,h⟩:=h;have hu:=Xu hr;refine⟨_,(Zb (pS 1 Vl.nd Hl)
 (Zb (Xc PassesOwn.leaving rfl (zcy (K:=K) rfl rfl T.zqr (Za (pv 0) Zc)) (Xm (K:=K) (n:=2) rfl rfl (Zv (pN 2 Vl.nd) (Zv (pN 3 Vl.nd) Xl)))
  (Zf (Zy (Zp Tg (pv 3) Y8 (Zr _))
   (Zf (Yy hu (pv 1) (pv 3) (pv 2) rfl))
   Zq)))
 (Zf (Zl (pv 1))))),?_⟩
 have line:100<sizeLine:=by rw[sizeLine_eq];decide
 intro d hd
 let jv1:Nat->L2.St->Hp->Prop:=fun i σ' H'=>(∃ u v,σ'=[some (.ref b),some (.ref d),u,v])/\#[v]/\∃ kvs,H' d=#[b,.dK,kvs]/\kvs.length<=i/\(∀ (n:Int) (j:Nat),j<i->gs[j]?=some (.int n)->valV kvs (inl n:Key)=some (.int (j:Nat)))/\(∀ n:Int,(∀ j:Nat,j<i->gs[j]?≠some (.int n))->valV kvs (inl n:Key)=none)
 refine⟨_,rfl,b,rfl,⟨gs,SqL.of (Ze hd _ _ hb)⟩,Am (xs:=gs) jv1
  ⟨⟨none,none,rfl⟩,Ze hd,[],Zd,zww _,fun n j hj=>absurd hj (zyj _),fun n _=>rfl⟩ (fun i σ' H' hi p=>#[Q,p.2.1,hb]) (fun i x t σ' H' hx p htn=>?_) (fun σ' H' p=>?_)⟩
 ·obtain⟨⟨u,v,rfl⟩,hs,kvs,hk,hkl,h1,h2⟩:=p;have s2:=hs.trans (Ze (o:=.tup [.int (i:Nat),x]) htn);have hk2:=Ze (o:=.tup [.int (i:Nat),x]) htn _ _ hk;refine⟨t,_,rfl,#[n,Zd],rfl,_,_,rfl,_,_,rfl,rfl,?_⟩;generalize upd H' t (.tup [.int (i:Nat),x])=H2 at s2 hk2;have hi:i<gs.length:=(zwo.mp hx).1;refine Y1 (b:=!decide (x=.non)) (fun Q k=>⟨_,rfl,rfl,_,rfl,k⟩) ?_;rcases ho x (zw0 hx) with rfl|⟨n,rfl⟩
  ·refine iteF (Zt ⟨⟨_,_,rfl⟩,s2,kvs,hk2,by omega,fun n j hj hg=>?_,fun n hn=>h2 n fun j hj=>hn j ⋯⟩);by_cases e:j=i
   ·subst e;rw[hx] at hg;cases hg
   ·exact h1 n j ⋯ hg
  ·refine iteT ⟨_,rfl,_,rfl,_,rfl,d,_,rfl,DPut.k (k:=inl n) hk2 ⋯,⟨_,_,rfl⟩,?_,_,Zd,?_,fun m j hj hg=>?_,fun m hm=>?_⟩
   ·exact Yg hd s2
   ·exact zw6 (Xr kvs _ _) ⋯
   ·rw[Vz];by_cases e:j=i
    ·subst e;rw[hx] at hg;cases hg;rw[#[f,rfl]]
    ·have hne:¬ ((inl m:Key)=inl n):=fun z=>by
      rw[inl.inj z] at hg;exact e (hinj j i n hg hx)
     rw[#[c,hne]];exact h1 m j ⋯ hg
   ·have hne:¬ ((inl m:Key)=inl n):=fun z=>by
     rw[inl.inj z] at hm;exact hm i ⋯ hx
    rw[Vz,#[c,hne]];exact h2 m fun j hj=>hm j ⋯
 ·obtain⟨⟨u,v,rfl⟩,hs,kvs,hk,hkl,h1,h2⟩:=p;exact#[w,_,h d kvs H' hk ⟨fun n j hj=>h1 n j (zwo.mp hj).1 hj,fun n hn=>h2 n fun j _=>hn j⟩ hs hd]
abbrev Qj:Stmt:=top 43
theorem Wa:#[r,["may","taken","start","into","waiting","done","place","number"],["may","taken","start"],Qj]:=fnS
theorem Eh(F:#[l,"steps_into","steps_into",Qj])(T:#[o]):FnOk P w K mg base #[k] 1 f fd ["may","taken","start"] (zgp K):=by
 refine #[p,Wa];obtain⟨l,d,ls,rows,kvs,gs,p,rfl,hl,il,hrl,hd,tk,FP,hp,h⟩:=h;have hu:=Xu hr;refine⟨_,(Zb (pS 3 Wa.nd (zcj (Tr (pv 2) Y8 zci) rfl rfl (by simp) ⋯))
 (Zb (pS 4 Wa.nd (Z2 (Za (pv 2) Zc)))
 (Zb (pS 5 Wa.nd Zg)
 (Zb (Bt PassesOwn.leaving (Zp Sn (pv 5) (Zm (cL K) (by rfl) T.znu PySem.boot_len (Za (pv 4) Zc)) (Zr _))
  (Zb (pS 6 Wa.nd (pI (iL K) (pv 4) (pv 5)))
  (Zb (pS 5 Wa.nd (Zs Yo (pv 5) Zg))
  (Zf (Xc PassesOwn.leaving rfl (Yh (K:=K) rfl (pI (iL K) (pv 0) (pv 6))) (pN 7 Wa.nd)
   (Zf (Zy (PW.pt (Hf (S4 (Pc hu (pv 7) (pv 1))) (Mg (S4 (Ls hu (pD hu (pv 1) (pv 7)) (pv 3))))))
    (Zb (Yy hu (pv 3) (pD hu (pv 1) (pv 7)) (Z9 (Za (pv 6) (Za (pv 7) Zc))) rfl)
    (Zf (Y3 (pv 4) (pD hu (pv 1) (pv 7)))))
    Zq)))))))
 (Zf (Zl (pv 3))))))),?_⟩
 show let y1:TS:=_;let y2:TS:=Z1 _ y1;let y3:TS:=_;let y4:TS:=Z1 (zfc _ (Z1 _ y2)) y3;let y5:TS:=Z1 _ y4;let y6:TS:=Z1 _ y5;Z1 _ y6 _ _ _;intro y1 y2 y3 y4 y5 y6;have line0:200<sizeLine:=by rw[sizeLine_eq];decide
 intro ld hld;refine⟨_,rfl,Zd,[(inl (p:Int),.non)],rfl,(by show 1<=15;decide),?_⟩;have s0:Same H (upd (upd H ld (.dK [])) ld (.dK (R9 [] [(inl (p:Int),.non)]))):=Yg hld (Ze hld);have q0:upd (upd H ld (.dK [])) ld (.dK (R9 [] [(inl (p:Int),.non)])) ld=#[b,.dK,[((inl (p:Int):Key),V.non)]]:=Zd;generalize upd (upd H ld (.dK [])) ld (.dK (R9 [] [(inl (p:Int),.non)]))=H1 at s0 q0;refine⟨_,rfl,sz1,fun ln hln=>?_⟩;have s1:=Ze (o:=.lst [.int p]) hln;have e1:upd H1 ln (.lst [.int p]) ln=some #[i,Qt,[p]]:=Zd;have q1:=s1 _ _ q0;have s01:=s0.trans s1;have nln:ld≠ln:=Zi q0 hln;have fln:H ln=none:=s0.free hln;generalize upd H1 ln (.lst [.int p])=H2 at s1 e1 q1 s01;have hbound:∀ line:List Nat,line.Nodup->(∀ c∈line,c<rows.length)->line.length<=rows.length:=fun line nd hc=>by
  have:=nd.length_le_of_subset (l₂:=List.range rows.length) fun c hcc=>zxs.mpr (hc c hcc);rw[zxx] at this;exact this
 refine⟨fun m σ' H'=>∃ (line:List Nat) (dep:Nat->Nat) (fr:Nat->Option (Nat×Int)) (into:#[W]) (dn:Nat) (v6 v7:Option V),m=rows.length-dn/\dn<=line.length/\σ'=[#[e,l],#[e,d],#[q,p],#[e,ld],#[e,ln],#[q,(dn:Nat)],v6,v7]/\#[v]/\H' ld=#[b,.dK,into]/\H' ln=some #[i,Qt,line]/\X9 H' into line fr/\Bfs rows gs p line dep/\Done rows gs line dep dn/\Tu rows gs p line dep fr/\(∀ q∈line,q<rows.length)/\∀ here,line[dn]?=some here->∀ x∈line,dep x<=dep here+1,
  ⟨_,[p],fun _=>0,fun _=>none,_,0,_,_,rfl,zxh _,rfl,s01,q1,e1,zbp _ _,zeb rows gs p,fun i q hi=>absurd hi (zyj _),zbq,by simpa using hp,fun here _ x _=>zxh _⟩,?_⟩
 rintro m σ Ha ⟨line,dep,fr,into,dn,v6,v7,rfl,hdn,rfl,sa,hda,hna,io,B,Dn,fo,hlt,near⟩;have hll:=hbound _ B.nodup hlt;have hnl:(Qt line).length=line.length:=by unfold Qt;rw[zwm]
 refine⟨_,rfl,_,rfl,ln,_,rfl,#[C,hna],_,_,rfl,rfl,_,rfl,?_⟩;rw[hnl];by_cases hlt2:dn<line.length
 ·rw[zws (show ((dn:Nat):Int)<(line.length:Nat) by omega)];refine iteT ?_;obtain⟨here,hh⟩:∃ here,line[dn]?=some here:=⟨_,zwn hlt2⟩;have hhm:=zw0 hh;have hhere:=hlt here hhm;have hhv:(Qt line)[dn]?=#[q,(here:Nat)]:=by unfold Qt;rw[zwu,hh];rfl
  refine⟨fun σ' H'=>∃ (line:List Nat) (dep:Nat->Nat) (fr:Nat->Option (Nat×Int)) (into:#[W]) (v6 v7:Option V),dn+1<=line.length/\σ'=[#[e,l],#[e,d],#[q,p],#[e,ld],#[e,ln],#[q,((dn+1:Nat):Int)],v6,v7]/\#[v]/\H' ld=#[b,.dK,into]/\H' ln=some #[i,Qt,line]/\X9 H' into line fr/\Bfs rows gs p line dep/\Done rows gs line dep (dn+1)/\Tu rows gs p line dep fr/\(∀ q∈line,q<rows.length)/\∀ here,line[dn+1]?=some here->∀ x∈line,dep x<=dep here+1,
   fun σ' H' ⟨line,dep,fr,into,v6,v7,a1,a2,a3,a4,a5,a6,a7,a8,a9,a10,a11⟩=>⟨rows.length-(dn+1),by omega,line,dep,fr,into,dn+1,v6,v7,rfl,a1,a2,a3,a4,a5,a6,a7,a8,a9,a10,a11⟩,?_⟩
  have hr':rows[here]?=some (rows[here]'hhere):=zwn hhere;generalize (rows[here]'hhere)=r at hr';obtain⟨lr,e2,e3⟩:=il.getR hr';have hl':(ls.map V.ref)[here]?=#[e,lr]:=by rw[zwu,e2];rfl
  refine⟨_,rfl,_,rfl,ln,_,_,_,rfl,rfl,SqL.of hna,Z7 hhv,?_⟩;refine⟨_,rfl,_,_,rfl,rfl,?_⟩;refine⟨_,rfl,_,rfl,l,_,_,_,rfl,rfl,#[Q,sa,hl],Z7 hl',lr,rfl,⟨_,SqL.of (sa _ _ e3)⟩,?_⟩
  let jv2:Nat->L2.St->Hp->Prop:=fun j σ' H'=>∃ (line:List Nat) (dep:Nat->Nat) (fr:Nat->Option (Nat×Int)) (into:#[W]) (v7:Option V),σ'=[#[e,l],#[e,d],#[q,p],#[e,ld],#[e,ln],#[q,((dn+1:Nat):Int)],#[q,(here:Nat)],v7]/\#[v]/\H' ld=#[b,.dK,into]/\H' ln=some #[i,Qt,line]/\X9 H' into line fr/\Bfs rows gs p line dep/\Done rows gs line dep dn/\Tu rows gs p line dep fr/\(∀ q∈line,q<rows.length)/\line[dn]?=some here/\(∀ x∈line,dep x<=dep here+1)/\∀ n∈r.take j,∀ q':Nat,gs[q']?=#[q,n]->q'∈line
  refine Wy (K:=K) (a:=lr) (xs:=r.map V.int) jv2
   ⟨line,dep,fr,into,_,rfl,sa,hda,hna,io,B,Dn,fo,hlt,hh,near here hh,by simp⟩ (fun j σ' H' _ ⟨_,_,_,_,_,_,z,_⟩=>#[Q,z,e3]) ?_ ?_
  ·rintro j y σ' Hx hy ⟨line,dep,fr,into,w7,rfl,sx,hdx,hnx,io,B,Dn,fo,hlt,hh,near,pr⟩;have hj:j<r.length:=by have:=(zwo.mp hy).1;rw[zwm] at this;exact this
   have hhm:=zw0 hh;have hrj:r[j]?=some (r[j]'hj):=zwn hj;have etk:r.take (j+1)=r.take j++[r[j]'hj]:=zxk hj;generalize (r[j]'hj)=n at hrj etk;have ey:y=.int n:=by rw[zwu,hrj] at hy;exact(Option.some.inj hy).symm
   subst ey;have hnr:=zw0 hrj;have hll:=hbound _ B.nodup hlt;have prev:(∀ q':Nat,gs[q']?=#[q,n]->q'∈line)->∀ m∈r.take (j+1),∀ q':Nat,gs[q']?=#[q,m]->q'∈line:=fun k m hm=>by
    rw[etk] at hm;rcases zwy.mp hm with z|z
    ·exact pr m z
    ·rw[zwt.mp z];exact k
   rcases tk.iff n with ⟨q',hq',hv⟩|⟨hno,hv⟩
   ·by_cases hin:q'∈line
    ·refine Y1 (b:=false) (fun Q k=>?_) (iteF (Zt ⟨line,dep,fr,into,_,rfl,sx,hdx,hnx,io,B,Dn,fo,hlt,hh,near,prev fun q2 h2=>by rw[FP.inj q2 q' n h2 hq'];exact hin⟩));refine⟨_,rfl,_,rfl,d,_,rfl,DGet.k (k:=inl n) (sx _ _ hd),_,rfl,?_⟩;rw[hv];refine iteT ⟨_,rfl,_,rfl,d,_,rfl,hv▸DGet.k (k:=inl n) (sx _ _ hd),_,rfl,ld,_,rfl,DGet.k (k:=inl (q':Int)) hdx,_,rfl,?_⟩;rw[(io.has q').mpr hin];exact k
    ·have hnin:(valV into (inl (q':Int):Key)).isSome=false:=by
      rw[Bool.eq_false_iff];exact fun z=>hin ((io.has q').mp z)
     have hq'l:q' < rows.length:=by
      have:=(zwo.mp hq').1;rw[FP.len] at this;exact this
     have ha:adjN rows gs here n q':=⟨⟨r,hr',hnr⟩,hq'⟩;obtain⟨B',old,all⟩:=B.app (dn:=dn) hh near ha hin;refine Y1 (b:=true) (fun Q k=>?_) (iteT ?_)
     ·refine⟨_,rfl,_,rfl,d,_,rfl,DGet.k (k:=inl n) (sx _ _ hd),_,rfl,?_⟩;rw[hv];refine iteT ⟨_,rfl,_,rfl,d,_,rfl,hv▸DGet.k (k:=inl n) (sx _ _ hd),_,rfl,ld,_,rfl,DGet.k (k:=inl (q':Int)) hdx,_,rfl,?_⟩;rw[hnin];exact k
     ·refine⟨_,rfl,_,rfl,sz2,fun t ht=>?_⟩;have t1:=Ze (o:=.tup [.int (here:Nat),.int n]) ht;have st:=sx.trans t1;have hdt:=t1 _ _ hdx;have hnt:=t1 _ _ hnx;have et:upd Hx t (.tup #[M,(here:Nat),n]) t=#[b,.tup,#[M,(here:Nat),n]]:=Zd;have iot:=io.same t1;generalize upd Hx t (.tup [.int (here:Nat),.int n])=Ht at t1 st hdt hnt et iot;refine⟨_,rfl,_,rfl,_,rfl,d,_,rfl,hv▸DGet.k (k:=inl n) (st _ _ hd),ld,_,rfl,DPut.k (k:=inl (q':Int)) hdt ?_,?_⟩
      ·have:=io.len;omega
      have sd:Same H (upd Ht ld (.dK (putK into (inl (q':Int)) (.ref t)))):=Yg hld st;have ed:upd Ht ld (.dK (putK into (inl (q':Int)) (.ref t))) ld=#[b,.dK,putK into (inl (q':Int)) (.ref t)]:=Zd;have en:upd Ht ld (.dK (putK into (inl (q':Int)) (.ref t))) ln=some #[i,Qt,line]:=by rw[Zh (Ne.symm nln)];exact hnt
      have iod:X9 (upd Ht ld (.dK (putK into (inl (q':Int)) (.ref t)))) (putK into (inl (q':Int)) (.ref t)) (line++[q']) (K9 fr q' (here,n)) :=
       (iot.app hin et).mono fun c xs e=>by rw[Zh (Yu e hdt (fun z=>nomatch z))];exact e
      generalize upd Ht ld (.dK (putK into (inl (q':Int)) (.ref t)))=Hd at sd ed en iod;have hsz:(Qt line).length<sizeLine:=by unfold Qt;rw[zwm];omega
      refine⟨_,rfl,ln,_,rfl,en,_,rfl,_,rfl,d,_,rfl,hv▸DGet.k (k:=inl n) (sd _ _ hd),_,en,hsz,line++[q'],V0 dep q' (dep here+1),K9 fr q' (here,n),putK into (inl (q':Int)) (.ref t),_,rfl,Yg fln sd,?_,?_,?_,B',Dn.app ?_ #[y,_] old,fo.app hin B.memp hhm ha,?_,?_,?_,?_⟩
      ·rw[Zh nln];exact ed
      ·rw[Zd];unfold Qt;rw[zwq];rfl
      ·exact iod.mono fun c xs e=>by rw[Zh (Yu e en (fun z=>nomatch z))];exact e
      ·have:=(zwo.mp hh).1;omega
      ·intro q hq;rcases zwy.mp hq with z|z
       ·exact hlt q z
       ·rw[zwt.mp z];exact hq'l
      ·rw[zxl (zwo.mp hh).1];exact hh
      ·intro x hx;rw[old here hhm];exact all x hx
      ·intro m hm q2 h2;rw[etk] at hm;rcases zwy.mp hm with z|z
       ·exact zxb _ (pr m z q2 h2)
       ·rw[zwt.mp z] at h2;rw[FP.inj q2 q' n h2 hq'];exact zw8 _ (zwt.mpr rfl)
   ·refine Y1 (b:=false) (fun Q k=>?_) (iteF (Zt ⟨line,dep,fr,into,_,rfl,sx,hdx,hnx,io,B,Dn,fo,hlt,hh,near,prev fun q2 h2=>absurd h2 (hno q2)⟩));refine⟨_,rfl,_,rfl,d,_,rfl,DGet.k (k:=inl n) (sx _ _ hd),_,rfl,?_⟩;rw[hv];exact iteF k
  ·rintro σ' Hx ⟨line,dep,fr,into,w7,rfl,sx,hdx,hnx,io,B,Dn,fo,hlt,hh,near,pr⟩;rw[zwm,zw3] at pr;have hlt3:=(zwo.mp hh).1;refine⟨line,dep,fr,into,_,_,by omega,rfl,sx,hdx,hnx,io,B,fun i q hi hq n q' ha=>?_,fo,hlt,fun here2 hh2 x hx=>?_⟩
   ·by_cases e:i=dn
    ·rw[e,hh] at hq;cases hq;obtain⟨⟨r2,h1,h2⟩,h3⟩:=ha;rw[hr'] at h1;cases h1;have hm:=pr n h2 q' h3;exact⟨hm,near q' hm⟩
    ·exact Dn i q ⋯ hq n q' ha
   ·have:=B.sorted dn (dn+1) here here2 ⋯ hh hh2;have:=near x hx;omega
 ·rw[zwx (show ¬ (((dn:Nat):Int)<(line.length:Nat)) by omega)];refine iteF ⟨_,rfl,?_⟩;have e:dn=line.length:=by omega
  subst e;exact h ld into line dep fr Ha hda io B Dn fo hlt sa hld
abbrev T7:Stmt:=top 44
theorem Qv:#[r,["numbers","taken","number"],["numbers","taken"],T7]:=fnS
theorem Jr(F:#[l,"free_referee","free_referee",T7])(T:#[o]):FnOk P w K mg base #[k] 1 f fd ["numbers","taken"] (Dm K):=by
 refine #[p,Qv];obtain⟨l,d,r,kvs,rfl,hl,hd,h⟩:=h;have hu:=Xu hr;refine⟨_,(Zb (Xc PassesOwn.leaving rfl (Yh (K:=K) rfl (pv 0)) (pN 2 Qv.nd)
  (Zf (Zy (S4 (Ls hu (pv 2) (pv 1)))
   (Zf (Zl (pv 2)))
   Zq)))
 (Zf (Zl Y8))),?_⟩
 let jv3:Nat->L2.St->Hp->Prop:=fun i σ' H'=>(∃ u,σ'=[some (.ref l),some (.ref d),u])/\H'=H/\∀ n∈r.take i,(valV kvs (inl n:Key)).isSome=true
 refine⟨_,rfl,l,rfl,⟨_,SqL.of hl⟩,Wy (xs:=r.map V.int) jv3
  ⟨⟨none,rfl⟩,rfl,by simp⟩ (fun i σ' H' hi p=>by rw[p.2.1];exact SqL.of hl) (fun i x σ' H' hx p=>?_) (fun σ' H' p=>?_)⟩
 ·obtain⟨⟨u,rfl⟩,rfl,hp⟩:=p;have hi:i<r.length:=by have:=(zwo.mp hx).1;rw[zwm] at this;exact this
  have e:x=.int (r[i]'hi):=by
   rw[zwu,zwn hi] at hx;exact(Option.some.inj hx).symm
  subst e;refine Y1 (b:=!(valV kvs (inl (r[i]'hi):Key)).isSome) (fun Q k=>⟨_,rfl,_,rfl,d,_,rfl,DGet.k (k:=inl (r[i]'hi)) hd,_,rfl,k⟩) ?_;cases hv:valV kvs (inl (r[i]'hi):Key) with
  | none=>exact iteT ⟨_,rfl,h (some (r[i]'hi)) (fun n hn=>by cases hn;exact⟨zxg hi,hv⟩) (fun z=>nomatch z)⟩
  | some y =>
    refine iteF (Zt #[w,#[y,_],fun n hn=>?_]);rw[zxk hi] at hn;rcases zwy.mp hn with z|z
    ·exact hp n z
    ·rw[zwt.mp z,hv];rfl
 ·obtain⟨⟨u,rfl⟩,rfl,hp⟩:=p;rw[zwm,zw3] at hp;exact h none (fun n z=>nomatch z) fun _=>hp
abbrev G7:Stmt:=top 45
theorem Oo:#[r,["into","place","number","steps","step"],["into","place","number"],G7]:=fnS
theorem ze4(F:#[l,"traced","traced",G7])(T:#[o]):FnOk P w K mg base #[k] 1 f fd ["into","place","number"] (An K):=by
 refine #[p,Oo];obtain⟨t,q,p,w,rows,gs,into,line,dep,fr,rfl,ht,io,fo,d0,hp,hq,hdq,h⟩:=h;have hu:=Xu hr;refine⟨_,(Zb (pS 3 Oo.nd (Z2 (Za (Z9 (Za (pv 1) (Za (pv 2) Zc))) Zc)))
 (Zb (pS 4 Oo.nd (pD hu (pv 0) (pv 1)))
 (Zb (Bt PassesOwn.leaving (Zp Tg (pv 4) Y8 (Zr _))
  (Zb (Y3 (pv 3) (pv 4))
  (Zf (pS 4 Oo.nd (pD hu (pv 0) (pI (iU K) (pv 4) Zg))))))
 (Zb (Yb (zfw PySem.F.plainAttrs_list PySem.F.slot_list_reverse PySem.F.type_list_reverse zbi (pv 3)))
 (Zf (Zl (pv 3))))))),?_⟩
 have line0:200<sizeLine:=by rw[sizeLine_eq];decide
 have get:∀ {H':Hp},#[v]->∀ k:Nat,DGet H' t (.int (k:Nat)) (valV into (inl (k:Int):Key)):=fun {H'} hs k=>.inl ⟨into,inl (k:Int),ht.imp (hs _ _) fun ⟨o,e⟩=>⟨o,hs _ _ e⟩,rfl,rfl⟩;have fr0:∀ c∈line,fr c=none->c=p:=fun c hc hf=>by
  by_cases e:c=p
  ·exact e
  ·obtain⟨par,n,h1,_⟩:=fo.2 c hc e;rw[hf] at h1;cases h1
 have some_of:∀ c∈line,∃ v,valV into (inl (c:Int):Key)=some v:=fun c hc=>zx4.mp ((io.has c).mpr hc);refine⟨_,rfl,_,rfl,sz2,fun m hm=>⟨sz1,fun lt hlt=>?_⟩⟩;have s1:=Ze (o:=.tup [.int (q:Nat),oV w]) hm;have e1:upd H m (.tup [.int (q:Nat),oV w]) m=some (.tup (Uk (q,w))):=Zd;generalize upd H m (.tup [.int (q:Nat),oV w])=H1 at s1 e1 hlt;have s2:=Ze (o:=.lst [V.ref m]) hlt;have e2:upd H1 lt (.lst [V.ref m]) lt=#[b,.lst,[V.ref m]]:=Zd;have e3:=s2 _ _ e1;have s3:=s1.trans s2;have hltn:H lt=none:=s1.free hlt;generalize upd H1 lt (.lst [V.ref m])=H2 at s2 e2 e3 s3;obtain⟨v0,hv0⟩:=some_of q hq;refine⟨_,rfl,_,rfl,t,v0,rfl,hv0▸get s3 q,?_⟩;refine⟨fun mm σ' H'=>∃ (cur:Nat) (st:#[K]) (ts:#[a]) (v:V),mm=dep cur/\cur∈line/\valV into (inl (cur:Int):Key)=some v/\σ'=[#[e,t],#[q,(q:Nat)],#[b,oV,w],#[e,lt],some v]/\#[v]/\H' lt=#[x,ts]/\#[L,H',st.reverse.map,Uk]/\Ch rows gs cur st q w/\st.length+dep cur=dep q+1,
  ⟨_,q,[(q,w)],_,v0,rfl,hq,hv0,rfl,s3,e2,.cons e3 .nil,.one q w,by show 1+dep q=_;omega⟩,?_⟩
 rintro mm σ' Ha ⟨cur,st,ts,v,rfl,hc,hv,rfl,sa,hta,htl,hch,hlen⟩;have htsl:ts.length=st.length:=by have:=htl.length;rw[zwm,List.length_reverse] at this;exact this
 refine⟨_,rfl,rfl,_,rfl,?_⟩;cases hf:fr cur with
 | none =>
   have hcp:=fr0 cur hc hf;subst hcp;have hvn:=io.none cur hc hf;rw[hv] at hvn;cases hvn;refine iteF ?_;refine⟨_,rfl,.inl ⟨rfl,_,SqL.of hta⟩,lt,ts,rfl,rfl,hta,_,rfl,?_⟩;refine h lt ts.reverse st _ Zd ?_ hch ⋯ (Yg hltn sa) hltn;have hr:=htl.reverse;rw[<- List.map_reverse,List.reverse_reverse] at hr;exact hr.mono fun c xs e=>by rw[Zh (Yu e hta (fun z=>nomatch z))];exact e
 | some x =>
   obtain⟨par,n⟩:=x;obtain⟨tt,h1,h2⟩:=io.some cur hc par n hf;rw[hv] at h1;cases h1;have hcp:cur≠p:=fun z=>by rw[z,fo.1] at hf;cases hf
   obtain⟨par',n',h3,h4,h5,h6⟩:=fo.2 cur hc hcp;rw[hf] at h3;cases h3;obtain⟨v',hv'⟩:=some_of par h4;refine iteT ?_;refine⟨fun σ' H'=>∃ (st:#[K]) (ts:#[a]),σ'=[#[e,t],#[q,(q:Nat)],#[b,oV,w],#[e,lt],some v']/\#[v]/\H' lt=#[x,ts]/\#[L,H',st.reverse.map,Uk]/\Ch rows gs par st q w/\st.length+dep par=dep q+1,
    fun σ' H' ⟨st,ts,a1,a2,a3,a4,a5,a6⟩=>⟨dep par,by omega,par,st,ts,v',rfl,h4,hv',a1,a2,a3,a4,a5,a6⟩,?_⟩
   have s4:Same H (upd Ha lt (.lst (ts++[V.ref tt]))):=Yg hltn sa;refine⟨_,rfl,lt,_,rfl,hta,_,rfl,_,hta,by omega,?_⟩;refine⟨_,rfl,_,rfl,tt,_,_,_,rfl,rfl,SqT.of (s4 _ _ h2),rfl,t,v',rfl,hv'▸get s4 par,(par,some n) :: st,ts++[V.ref tt],rfl,s4,Zd,?_,.step h5 hch,?_⟩
   ·rw[zyl,zwq];exact(htl.mono fun c xs e=>by rw[Zh (Yu e hta (fun z=>nomatch z))];exact e).snoc (s4 _ _ h2)
   ·rw[zw9];omega
abbrev Bg:Stmt:=top 46
theorem Pt:#[r,["may","given","place","taken","into","reached","number"],["may","given","place"],Bg]:=fnS
theorem zhk(F:#[l,"chain","chain",Bg])(T:#[o])(zqn:Z4 P w K mg base "places_taken" 1 ["given"] (zcz K))(zra:Z4 P w K mg base "steps_into" 1 ["may","taken","start"] (zgp K))(zql:Z4 P w K mg base "free_referee" 1 ["numbers","taken"] (Dm K))(zr9:Z4 P w K mg base "traced" 1 ["into","place","number"] (An K)):FnOk P w K mg base #[k] 2 f fd ["may","given","place"] (Cw K):=by
 refine #[p,Pt];obtain⟨l,lg,ls,rows,nu,gs,p,rfl,hl,il,mo,hg,FP,hp,hgp,h⟩:=h;refine⟨_,(Zb (pS 3 Pt.nd (pF zqn hr (Za (pv 1) Zc)))
 (Zb (pS 4 Pt.nd (pF zra hr (Za (pv 0) (Za (pv 3) (Za (pv 2) Zc)))))
 (Zb (Xc PassesOwn.leaving rfl (zig (pv 4)) (pN 5 Pt.nd)
  (Zb (pS 6 Pt.nd (pF zql hr (Za (pI (iL K) (pv 0) (pv 5)) (Za (pv 3) Zc))))
  (Zf (Zy (Zp Tg (pv 6) Y8 (Zr _))
   (Zf (Zl (pF zr9 hr (Za (pv 4) (Za (pv 5) (Za (pv 6) Zc))))))
   Zq))))
 (Zf (Zl (pF zr9 hr (Za (pv 4) (Za (Zm (zee rfl) (by rfl) T.zsw PyProof.Rows.boot_max (Za (pv 4) Zc)) (Za Y8 Zc))))))))),?_⟩
 have hrl:rows.length<=100:=zw6 mo.few ⋯;refine⟨_,rfl,lg,gs,rfl,hg,FP.one,FP.inj,by rw[FP.len];exact hrl,fun d kvs H1 hd1 tk s1 hdn=>?_⟩;refine⟨_,rfl,_,rfl,_,rfl,l,d,ls,rows,kvs,gs,p,rfl,s1 _ _ hl,il.same s1,hrl,hd1,tk,FP,hp,fun t into line dep fr H2 ht io B Dn fo hlt s2 htn=>?_⟩;have hbound:line.length<=rows.length:=by
  have:=B.nodup.length_le_of_subset (l₂:=List.range rows.length) fun c hcc=>zxs.mpr (hlt c hcc);rw[zxx] at this;exact this
 have hd2:=s2 _ _ hd1;have s02:=s1.trans s2;have hfree:∀ q n,(∃ r,rows[q]?=some r/\n∈r)->valV kvs (inl n:Key)=none->Nh rows gs q n:=fun q n hr hv=>⟨hr,fun j hj=>by rw[tk.has n j hj] at hv;cases hv⟩
 have hdep:∀ q∈line,dep q<=100:=fun q hq=>by
  obtain⟨pre,hc,hlp⟩:=fo.back B.d0 (dep q) q q none [(q,none)] rfl hq (.one q none);have nd:=hc.nodup fun k hk=>by
   rw[zwp,hlp];have:=(B.full Dn hk).2;show dep q+1<=k+1;omega
  have hlt':=hc.lt FP hp;have:=nd.length_le_of_subset (l₂:=List.range rows.length) fun x hx=>by
   obtain⟨s,hs,rfl⟩:=zwv.mp hx;exact zxs.mpr (hlt' s hs)
  rw[zwm,zxx,zwp,hlp] at this;omega
 have htH:H t=none:=s1.free htn;refine⟨_,rfl,t,into,rfl,ht,fun o=>?_⟩;have e0:upd H2 t (.frz o (.dK into)) t=some (.frz o (.dK into)):=Zd;have s3:Same H (upd H2 t (.frz o (.dK into))):=Yg htH s02;have hd3:upd H2 t (.frz o (.dK into)) d=#[b,.dK,kvs]:=by rw[Zh (Zi hd1 htn)];exact hd2
 have io3:X9 (upd H2 t (.frz o (.dK into))) into line fr:=io.mono fun c xs e=>by rw[Zh (Yu e ht (fun z=>nomatch z))];exact e
 generalize upd H2 t (.frz o (.dK into))=H3 at e0 s3 hd3 io3;have hil:into.length=line.length:=io.len;have key:∀ (i:Nat) (k:Key) (v:V),into[i]?=some (k,v)->∃ q:Nat,line[i]?=some q/\k=inl (q:Int):=fun i k v e=>by
  have:=congrArg (·[i]?) io.keys;simp only[zwu,e,zxu] at this;cases hq:line[i]? with
  | none=>rw[hq] at this;cases this
  | some q=>rw[hq] at this;exact#[w,q,Option.some.inj this]
 let jv4:Nat->L2.St->Hp->Prop:=fun i σ' H'=>(∃ u v,σ'=[some (.ref l),some (.ref lg),some (.int p),some (.ref d),some (.ref t),u,v])/\H'=H3/\∀ (j q:Nat),j<i->line[j]?=some q->¬ Th rows gs q
 refine zgm (a:=t) (o:=o) (kvs:=into) jv4 #[w,⟨none,none,rfl⟩,fun j q hj=>absurd hj (zyj _)] (fun i σ' H' _ p=>by rw[p.2.1];exact e0) (fun i k v σ' H' hk hP=>?_) fun σ' H' hP=>?_
 ·obtain⟨⟨u,v',rfl⟩,rfl,hno⟩:=hP;obtain⟨q,hq,rfl⟩:=key i k v hk;have hqm:=zw0 hq;have hqr:rows[q]?=some (rows[q]'(hlt q hqm)):=zwn (hlt q hqm);generalize (rows[q]'(hlt q hqm))=r at hqr;obtain⟨lr,e2,e3⟩:=il.getR hqr;have hl':(ls.map V.ref)[q]?=#[e,lr]:=by rw[zwu,e2];rfl
  refine⟨_,rfl,_,rfl,l,_,_,_,rfl,rfl,#[Q,s3,hl],Z7 hl',_,rfl,lr,d,r,kvs,rfl,s3 _ _ e3,hd3,fun w hw1 hw2=>?_⟩;walk_at "if";refine Y1 (b:=!decide (oV w=.non)) (fun Q k=>⟨_,rfl,rfl,_,rfl,k⟩) ?_;cases w with
  | none =>
    refine iteF (Zt #[w,⟨_,_,rfl⟩,fun j q2 hj hq2=>?_]);by_cases e:j=i
    ·rw[e,hq] at hq2;cases hq2;rintro⟨n,⟨r2,h1,h2⟩,h3⟩;rw[hqr] at h1;cases h1;have:=hw2 rfl n h2;rw[tk.not n h3] at this;cases this
    ·exact hno j q2 ⋯ hq2
  | some n =>
    obtain⟨hn1,hn2⟩:=hw1 n rfl;refine iteT ⟨_,rfl,_,rfl,_,rfl,t,q,p,some n,rows,gs,into,line,dep,fr,rfl,.inr ⟨o,e0⟩,io3,fo,B.d0,B.memp,hqm,hdep q hqm,fun lt ts st H4 h1 h2 h3 h4 s4 hltn=>?_⟩;have hf:=hfree q n ⟨r,hqr,hn1⟩ hn2;have Di:Done rows gs line dep i:=fun j x hj=>Dn j x (Nat.lt_trans hj (zwo.mp hq).1);exact h lt ts st q (some n) H4 h1 h2 (zbm B Di hq hno hf h3 h4) (s3.trans s4) (s3.free hltn)
 ·obtain⟨⟨u,v',rfl⟩,rfl,hno⟩:=hP;have hpos:0<line.length:=List.length_pos_of_mem B.memp;refine#[w,_,⟨_,rfl,t,into,line.map fun q:Nat=>(q:Int),rfl,.inr ⟨o,e0⟩,by rw[io.keys,zyd];rfl,by rw[zwm];exact hpos,fun M hM hmax=>?_⟩];obtain⟨e,he,rfl⟩:=zwv.mp hM;refine⟨t,e,p,none,rows,gs,into,line,dep,fr,rfl,.inr ⟨o,e0⟩,io3,fo,B.d0,B.memp,he,hdep e he,fun lt ts st H4 h1 h2 h3 h4 s4 hltn=>?_⟩;refine h lt ts st e none H4 h1 h2 (zbn B Dn (fun q hq=>?_) (fun q hq=>?_) h3 h4) (s3.trans s4) (s3.free hltn)
  ·obtain⟨j,hj,e2⟩:=zxr hq;exact hno j q ⋯ (by rw[zwn hj,e2])
  ·have:=hmax _ (zwv.mpr ⟨q,hq,rfl⟩);omega
abbrev Kn:Stmt:=top 47
theorem Qk:#[r,["given","steps","behind","place","number"],["given","steps"],Kn]:=fnS
theorem zb6(F:#[l,"stepped","stepped",Kn])(T:#[o]):FnOk P w K mg base #[k] 1 f fd ["given","steps"] (L9 K):=by
 refine #[p,Qk];obtain⟨b,c,xs,ts,st,rfl,hb,hc,ht,hst,ho,hl,hls,h⟩:=h;refine⟨_,(Zb (pS 2 Qk.nd (Ys (Xf (K:=K) rfl) (by rfl) T.zo0 PyProof.Rows.boot_list (Za (pv 0) Zc)))
 (Zb (Xc PassesOwn.leaving rfl (Yh (K:=K) rfl (pv 1)) (Xm (K:=K) (n:=2) rfl rfl (Zv (pN 3 Qk.nd) (Zv (pN 4 Qk.nd) Xl)))
  (Zf (S5 (pv 4) (zfb (pv 2) (pv 3) B6))))
 (Zf (Zl (pv 2))))),?_⟩
 have htl:ts.length=st.length:=by have:=ht.length;rw[zwm] at this;exact this
 refine⟨_,rfl,b,_,rfl,#[C,hb],fun l hln=>?_⟩
 let jv5:Nat->L2.St->Hp->Prop:=fun i σ' H'=>(∃ u v,σ'=[some (.ref b),some (.ref c),some (.ref l),u,v])/\H' l=#[x,Yv (st.take i) xs]/\(∀ a o,H a=some o->H' a=some o)
 refine⟨_,rfl,c,rfl,⟨ts,SqL.of (Ze hln _ _ hc)⟩,Wy (xs:=ts) jv5 ⟨⟨none,none,rfl⟩,Zd,Ze hln⟩ (fun i σ' H' hi p=>#[Q,p.2.2,hc]) (fun i x σ' H' hx p=>?_) fun σ' H' p=>?_⟩
 ·obtain⟨⟨u,v,rfl⟩,hl2,hs⟩:=p;have hi:i<st.length:=by rw[<- htl];exact(zwo.mp hx).1
  obtain⟨t,e1,e2⟩:=zl3 ht (zwn hi);rw[hx] at e1;cases e1;refine⟨t,_,rfl,SqT.of (hs _ _ e2),rfl,_,_,rfl,_,_,rfl,rfl,?_⟩;have hlen:(Yv (st.take i) xs).length=xs.length:=Wm _ _;have hp:(st[i]'hi).1<xs.length:=hst _ (zxg hi);have e3:Yv (st.take (i+1)) xs=(Yv (st.take i) xs).set (st[i]'hi).1 (oV (st[i]'hi).2):=by
   rw[zxk hi,Dl];rfl
  refine⟨_,rfl,_,rfl,_,rfl,l,_,_,(st[i]'hi).1,rfl,rfl,hl2,(show ixN _ (((st[i]'hi).1:Nat):Int)=some _ by unfold ixN;rw[if_pos ⋯,if_pos ⋯,zw2]),⟨_,_,rfl⟩,?_,fun a o q=>?_⟩
  ·rw[e3];exact Zd
  ·rw[Zh (Zi q hln)];exact hs a o q
 ·obtain⟨⟨u,v,rfl⟩,hl2,hs⟩:=p;rw[htl,zw3] at hl2;exact#[w,_,h l H' hl2 hs hln]
abbrev zb7:Stmt:=top 49
theorem Hb:#[r,["may","given","place"],["may"],zb7]:=fnS
theorem zi1(F:#[l,"fill","fill",zb7])(T:#[o])(zpk:Z4 P w K mg base "stepped" 1 ["given","steps"] (L9 K))(zrs:Z4 P w K mg base "chain" 2 ["may","given","place"] (Cw K)):FnOk P w K mg base #[k] 3 f fd ["may"] (zge K):=by
 refine #[p,Hb];obtain⟨l,ls,rows,nu,rfl,hl,il,mo,h⟩:=h;refine⟨_,(Zb (Sw (i:=1) Hb.nd rfl rfl rfl (cT [] []) (Yh (K:=K) rfl (pv 0)) (fun _ _ _ _ _=>X5) fun _ _ _ _ _=>Y8)
 (Zb (Xc PassesOwn.leaving rfl (Xb rfl T.zog (Za (Zm (cL K) (by rfl) T.znu PySem.boot_len (Za (pv 0) Zc)) Zc)) (pN 2 Hb.nd)
  (Zf (pS 1 Hb.nd (pF zpk hr (Za (pv 1) (Za (pF zrs hr (Za (pv 0) (Za (pv 1) (Za (pv 2) Zc)))) Zc))))))
 (Zf (Zl (pv 1))))),?_⟩
 have hlen:=il.length;have hrl:rows.length<=100:=zw6 mo.few ⋯;refine⟨_,rfl,l,rfl,⟨_,SqL.of hl⟩,?_⟩;refine Wf (K:=K) (a:=l) (xs:=ls.map V.ref) (fun i ys H'=>H'=H/\ys=(rows.take i).map fun _=>V.non) ⟨rfl,by simp⟩ (fun i ys H' _ z=>by rw[z.1];exact SqL.of hl) (szN (by rw[zwm];omega)) (fun i ys H' z=>by rw[z.2,zwm,zx6];omega) ?_ ?_
 ·rintro i x ys H' hx ⟨rfl,rfl⟩;have hi:i<rows.length:=by
   have:=(zwo.mp hx).1;rw[zwm] at this;omega
  unfold tYes;dsimp only;rw[#[f,rfl]];refine⟨rfl,?_⟩;rw[zxk hi,zwq];rfl
 ·rintro ys H' ⟨rfl,rfl⟩ lg hlg;rw[zwm,hlen,zw3];have s1:=Ze (o:=.lst (rows.map fun _=>V.non)) hlg;have e1:upd H' lg #[i,rows.map,fun _=>V.non] lg=some #[i,rows.map,fun _=>V.non]:=Zd;generalize upd H' lg (.lst (rows.map fun _=>V.non))=H1 at s1 e1;refine⟨_,rfl,l,_,rfl,#[C,s1 _ _ hl],_,rfl,by omega,by rw[zwm];omega,?_⟩;rw[zwm,hlen,zw2]
  let jv6:Nat->L2.St->Hp->Prop:=fun i σ' Hx=>∃ (lg:Addr) (gs:List V) (v2:Option V),σ'=[#[e,l],#[e,lg],v2]/\Same H' Hx/\Hx lg=#[x,gs]/\Ti rows gs i/\H' lg=none
  refine Xs jv6 ⟨lg,_,_,rfl,s1,e1,Ea rows,hlg⟩ ?_ ?_
  ·rintro i σ' Hx hi ⟨lg,gs,v2,rfl,sx,hgx,F,hn⟩;rw[zxt];refine#[w,_,⟨_,rfl,_,rfl,_,rfl,l,lg,ls,rows,nu,gs,i,rfl,sx _ _ hl,il.same sx,mo,hgx,F.fill,hi,F.non (zww _) hi,fun lt ts st e w H2 h1 h2 c s2 hltn=>?_⟩];refine⟨lg,lt,gs,ts,st,rfl,s2 _ _ hgx,h1,h2,fun s hs=>?_,F.fill.one,by rw[F.fill.len];omega,?_,fun l' H3 h3 s3 hl'=>?_⟩
   ·rw[F.fill.len];exact c.ch.lt F.fill hi s hs
   ·have:=c.len F.fill hi;omega
   ·exact⟨l',_,_,rfl,(sx.trans s2).trans s3,h3,F.step hi c,(sx.trans s2).free hl'⟩
  ·rintro σ' Hx ⟨lg,gs,v2,rfl,sx,hgx,F,hn⟩;exact#[w,_,h lg gs Hx hgx F.fill F.last sx hn]
abbrev N3:Stmt:=top 50
theorem zar:#[r,["given","number"],["given","number"],N3]:=fnS
theorem zas(F:#[l,"place_of","place_of",N3])(T:#[o]):FnOk P w K mg base #[k] 1 f fd ["given","number"] (Dj K):=by
 refine #[p,zar];obtain⟨b,xs,n,rfl,hb,ho,hl,h⟩:=h;refine⟨_,Zf (Zl (Br (Zp (Ng (K:=K) rfl) (pv 1) (pv 0) (by with_unfolding_all rfl)) (zi6 PySem.F.plainAttrs_list PySem.F.slot_list_index PySem.F.type_list_index zgh (pv 0) (Za (pv 1) Zc)) Y8)),?_⟩;have fl:xs.all So=true:=zyo.mpr fun x hx=>by rcases ho x hx with rfl|⟨_,rfl⟩<;>rfl
 refine⟨_,rfl,_,rfl,b,xs,rfl,#[C,hb],rfl,fl,_,rfl,?_⟩;have key:=@zgi xs n ho;show if inV (V.int n) xs=true then _ else _
 cases hp:W0 xs n with
 | none =>
   rw[hp] at h;have hno:¬ inV (V.int n) xs=true:=fun z=>by
    obtain⟨j,hj⟩:=key.mp z;have:=List.find?_eq_none.mp hp j (zxs.mpr (zwo.mp hj).1);exact this (zws hj)
   rw[#[c,hno]];exact h H (Same.refl H)
 | some j =>
   rw[hp] at h;obtain⟨h1,h2,h3⟩:=List.find?_range_eq_some.mp hp;have hj:xs[j]?=#[q,n]:=of_decide_eq_true h1;rw[if_pos (key.mpr ⟨j,hj⟩)];refine⟨_,rfl,?_,_,rfl,b,xs,.int n,j,rfl,rfl,hb,rfl,fl,⟨_,hj,(Iv (.inr ⟨_,rfl⟩)).mpr rfl⟩,fun m z hm hz=>?_,h H (Same.refl H)⟩
   ·exact .inl ⟨rfl,xs,SqL.of hb⟩
   ·have:=h3 m hm;have hne:¬ z=.int n:=fun q=>by
     rw[q] at hz;rw[zws hz] at this;cases this
    cases hb2:eqV z (.int n) with
    | false=>rfl
    | true=>exact absurd ((Iv (ho z (zw0 hz))).mp hb2) hne
abbrev Ut:Stmt:=Z5 (top 52) 0
theorem M3:#[r,["self","listed","lists","given","gaps"],["self","listed","lists","given","gaps"],Ut]:=fnS
theorem M4(F:#[l,"__init__","Sheet.__init__",Ut])(T:#[o]):FnOk P w K mg base #[k] 1 f fd ["self","listed","lists","given","gaps"] #[h,Mv]:=by
 refine #[p,M3];obtain⟨q,dx,l1,l2,l3,l4,rfl,hq,h⟩:=h;refine⟨_,(Zb (Xg (K:=K) rfl (pv 0) (pv 1) rfl)
 (Zb (Xg (K:=K) rfl (pv 0) (pv 2) rfl)
 (Zb (Xg (K:=K) rfl (pv 0) (pv 3) rfl)
 (Zf (Xg (K:=K) rfl (pv 0) (pv 4) rfl))))),?_⟩
 refine⟨_,rfl,_,rfl,q,a.znp,dx,[],rfl,hq,T.znz,T.zpv,⋯,?_⟩;refine⟨_,rfl,_,rfl,q,a.znp,dx,[("listed",.ref l1)],rfl,Zd,T.znz,T.zss,(by show 1<1000;decide),?_⟩;rw[zmx];refine⟨_,rfl,_,rfl,q,a.znp,dx,_,rfl,Zd,T.znz,T.zqs,(by show 2<1000;decide),?_⟩;rw[zmy];refine⟨_,rfl,_,rfl,q,a.znp,dx,_,rfl,Zd,T.znz,T.zsi,(by show 3<1000;decide),?_⟩;rw[zmz];refine h _ ?_;rw[Im,Im,Im];rfl
abbrev T8:Stmt:=Z5 (top 52) 1
theorem Js:#[r,["self","lists"],["self","lists"],T8]:=fnS
theorem Jt(F:#[l,"barred","Sheet.barred",T8])(T:#[o])(zp7:Tt P w K mg base "Sheet" a.znp 1 ["self","listed","lists","given","gaps"] #[h,Mv]):FnOk P w K mg base #[k] 3 f fd ["self","lists"] #[h,Au]:=by
 refine #[p,Js];obtain⟨ok,q,l2,ls,rows,s,rfl,SA,hl2,il,ok2,okl,no,h⟩:=h;refine⟨_,Zf (Zl (Cr zp7 (hr.mono ⋯) Zk rfl (Za (Zu (K:=K) rfl (pv 0) rfl) (Za (pv 1) (Za #[ad,Zu,0] (Za #[ad,Zu,0] Zc)))))),?_⟩;obtain⟨dx,m1,m2,m3,m4,ts,ms,gts,a1,a2,a3,a4,a5,a6,a7,a8,o1,o2,o3,o4,o5,o6⟩:=id SA;refine⟨_,rfl,q,a.znp,dx,_,_,rfl,a1,T.znz,T.zpv,Rv,_,rfl,_,rfl,q,a.znp,dx,_,_,rfl,a1,T.znz,T.zqs,Pl,_,rfl,q,a.znp,dx,_,_,rfl,a1,T.znz,T.zsi,Cz,?_⟩;intro q' dx' hq' hdx' ne;refine⟨q',dx',m1,l2,m3,m4,rfl,Zd,fun H' e=>⟨rfl,?_⟩⟩;obtain⟨s1,q1⟩:=Nn (C:=a.znp) (l1:=m1) (l2:=l2) (l3:=m3) (l4:=m4) hq' hdx' ne;rw[<- e] at s1 q1;exact h q' H' ⟨dx',m1,l2,m3,m4,ts,ls,gts,q1,s1 _ _ a2,a3.same s1,s1 _ _ hl2,il.same s1,s1 _ _ a6,s1 _ _ a7,a8.keep (fun _ _ _ z=>s1 _ _ z) fun _ _ z=>s1 _ _ z,no _ hq',o2,ok2,o4,o5,okl⟩ s1 hq'
abbrev Vs:Stmt:=Z5 (top 52) 2
theorem Wc:#[r,["self","number","lists","place","gap","steps"],["self","number","lists"],Vs]:=fnS
theorem Oz(F:#[l,"fallen_out","Sheet.fallen_out",Vs])(T:#[o])(zoy:Zw P w K mg base a.znp "where" 2 #[Y] #[h,Ka])(zpk:Z4 P w K mg base "stepped" 1 ["given","steps"] (L9 K))(zrs:Z4 P w K mg base "chain" 2 ["may","given","place"] (Cw K))(zp7:Tt P w K mg base "Sheet" a.znp 1 ["self","listed","lists","given","gaps"] #[h,Mv]):FnOk P w K mg base #[k] 3 f fd ["self","number","lists"] #[h,Av]:=by
 refine #[p,Wc];obtain⟨ok,q,l2,ls,rows,nu,s,n,p,rfl,SA,hl2,il,ok2,okl,no,mo,ho,hgp,hun,FP,hgz,h⟩:=h;refine⟨_,(Zb (pS 3 Wc.nd (Y0 (pv 0) T.znz zoy (hr.mono ⋯) Zk (Za (pv 1) Zc)))
 (Zb (pS 4 Wc.nd (pF zpk hr (Za (Zu (K:=K) rfl (pv 0) rfl) (Za (Z2 (Za (Z9 (Za (pv 3) (Za Y8 Zc))) Zc)) Zc))))
 (Zb (pS 5 Wc.nd (pF zrs hr (Za (pv 2) (Za (pv 4) (Za (pv 3) Zc)))))
 (Zf (Zl (Cr zp7 (hr.mono ⋯) Zk rfl (Za (Zu (K:=K) rfl (pv 0) rfl) (Za (pv 2) (Za (pF zpk hr (Za (pv 4) (Za (pv 5) Zc))) (Za (Zs Vo (Zu (K:=K) rfl (pv 0) rfl) (Z2 (Za (Z9 (Za (pv 1) (Za (pv 5) Zc))) Zc))) Zc)))))))))),?_⟩
 obtain⟨dx,m1,m2,m3,m4,ts,ms,gts,a1,a2,a3,a4,a5,a6,a7,a8,o1,o2,o3,o4,o5,o6⟩:=id SA;have hrl:rows.length<=100:=zw6 mo.few ⋯;have hgl:s.gv.length<=100:=by have:=FP.len;rw[zx3] at this;omega
 have hpl:p<s.gv.length:=(zwo.mp hgp).1;have hpr:p<rows.length:=by have:=FP.len;rw[zx3] at this;omega
 have hplace:W0 s.gv n=some p:=by
  unfold W0;rw[List.find?_eq_some_iff_getElem];refine⟨zws hgp,p,by rw[zxx];exact hpl,by rw[List.getElem_range],fun j hj=>?_⟩;rw[List.getElem_range,Bool.not_eq_true',decide_eq_false_iff_not];exact fun z=>absurd (hun j z) ⋯
 refine⟨_,rfl,q,dx,_,rfl,a1,U5 ⋯ ⋯ ⋯ ⋯,_,rfl,ok,q,s,n,rfl,SA,ho,hgl,fun H1 s1=>?_⟩;rw[hplace,show oN (some p)=V.int (p:Nat) from rfl];have SA1:=SA.same s1;refine⟨_,rfl,q,a.znp,dx,_,_,rfl,s1 _ _ a1,T.znz,T.zqs,Pl,_,rfl,sz2,fun t1 ht1=>⟨sz1,fun lx hlx=>?_⟩⟩;have s2:=Ze (o:=.tup [.int (p:Nat),.non]) ht1;have q2:upd H1 t1 (.tup [.int (p:Nat),.non]) t1=some (.tup (Uk (p,none))):=Zd;generalize upd H1 t1 (.tup [.int (p:Nat),.non])=H2 at s2 q2 hlx;have s3:=Ze (o:=.lst [V.ref t1]) hlx;have q3:upd H2 lx (.lst [V.ref t1]) lx=#[b,.lst,[V.ref t1]]:=Zd;have q23:=s3 _ _ q2;generalize upd H2 lx (.lst [V.ref t1])=H3 at s3 q3 q23;have s13:=s1.trans (s2.trans s3);refine⟨m3,lx,s.gv,[V.ref t1],[(p,none)],rfl,s13 _ _ a6,q3,.cons q23 .nil,fun st hst=>by rw[zwt.mp hst];exact hpl,ho,hgl,by show 1<=100;decide,fun lg H4 hg4 s4 f4=>?_⟩;have s14:=s13.trans s4;have hg4:#[A,H4,lg,s.gv.set p .non]:=hg4;refine⟨_,rfl,_,rfl,_,rfl,l2,lg,ls,rows,nu,s.gv.set p .non,p,rfl,s14 _ _ hl2,il.same s14,mo,hg4,FP,hpr,by rw[zxp hpl],fun lt us st e w H5 hlt tl CR s5 f5=>?_⟩;have s15:=s14.trans s5;have hst100:st.length<=100:=zw6 (CR.len FP hpr) hrl;refine⟨_,rfl,q,a.znp,dx,_,_,rfl,s15 _ _ a1,T.znz,T.zpv,Rv,_,rfl,_,rfl,_,rfl,lg,lt,s.gv.set p .non,us,st,rfl,s5 _ _ hg4,hlt,tl,fun x hx=>?_,FP.one,by rw[FP.len];exact hrl,hst100,fun l3 H6 h6 s6 f6=>?_⟩
 ·rw[FP.len];exact CR.ch.lt FP hpr x hx
 have s16:=s15.trans s6;refine⟨_,rfl,q,a.znp,dx,_,_,rfl,s16 _ _ a1,T.znz,T.zsi,Cz,_,rfl,_,rfl,sz2,fun t2 ht2=>⟨sz1,fun ly hly=>?_⟩⟩;have s7:=Ze (o:=.tup [.int n,.ref lt]) ht2;have q7:upd H6 t2 (.tup [.int n,.ref lt]) t2=#[b,.tup,[.int n,.ref lt]]:=Zd;generalize upd H6 t2 (.tup [.int n,.ref lt])=H7 at s7 q7 hly;have s8:=Ze (o:=.lst [V.ref t2]) hly;have q8:upd H7 ly (.lst [V.ref t2]) ly=#[b,.lst,[V.ref t2]]:=Zd;have q78:=s8 _ _ q7;generalize upd H7 ly (.lst [V.ref t2])=H8 at s8 q8 q78;have s18:=s16.trans (s7.trans s8);refine⟨m4,ly,gts,[V.ref t2],rfl,rfl,s18 _ _ a7,q8,by have:=a8.length;show gts.length+1<=sizeLine;have:=Tv;omega,fun l4 hl4=>?_⟩;have s9:=Ze (o:=.lst (gts++[V.ref t2])) hl4;have q9:upd H8 l4 (.lst (gts++[V.ref t2])) l4=#[b,.lst,gts++[V.ref t2]]:=Zd;generalize upd H8 l4 (.lst (gts++[V.ref t2]))=H9 at s9 q9;have s19:=s18.trans s9;intro q' dx' hq' hdx' ne;refine⟨q',dx',m1,l2,l3,l4,rfl,Zd,fun H' e'=>⟨rfl,?_⟩⟩;obtain⟨s10,q10⟩:=Nn (C:=a.znp) (l1:=m1) (l2:=l2) (l3:=l3) (l4:=l4) hq' hdx' ne;rw[<- e'] at s10 q10;have s:=s19.trans s10;have s6x:=s7.trans (s8.trans (s9.trans s10));have s5x:=s6.trans s6x;refine h q' st e w H' ⟨dx',m1,l2,l3,l4,ts,ls,gts++[V.ref t2],q10,s _ _ a2,a3.same s,s _ _ hl2,il.same s,s6x _ _ h6,s10 _ _ q9,?_,no _ (s19.free hq'),o2,ok2,no _ (s15.free f6),no _ (s18.free hl4),okl⟩ CR s (s19.free hq');exact(a8.keep (fun _ _ _ z=>s _ _ z) (fun _ _ z=>s _ _ z)).snoc ((s9.trans s10) _ _ q78) (s5x _ _ hlt) (tl.same s5x) (no _ (s14.free f5))
abbrev U8:Stmt:=Z5 (top 52) 3
theorem Ko:#[al,U8]:=fnS
theorem Kp(F:#[l,"matches","Sheet.matches",U8])(T:#[o]):FnOk P w K mg base #[k] 1 f fd ["self"] #[h,Pm]:=by
 refine #[p,Ko];obtain⟨ok,q,s,rfl,SA,h⟩:=h;refine⟨_,Zf (Zl (Ys (Xf (K:=K) rfl) (by rfl) T.zo0 PyProof.Rows.boot_list (Za (Zu (K:=K) rfl (pv 0) rfl) Zc))),?_⟩;obtain⟨dx,m1,m2,m3,m4,ts,ms,gts,a1,a2,a3,a4,a5,a6,a7,a8,o1,o2,o3,o4,o5,o6⟩:=id SA;refine⟨_,rfl,q,a.znp,dx,_,_,rfl,a1,T.znz,T.zpv,Rv,m1,_,rfl,#[C,a2],fun l hl=>?_⟩;exact h l ts _ Zd (a3.same (Ze hl)) (Ze hl) hl
abbrev Pu:Stmt:=Z5 (top 52) 5
theorem Bh:#[r,["self","place"],["self","place"],Pu]:=fnS
theorem Bi(F:#[l,"may","Sheet.may",Pu])(T:#[o])(zo6:Zw P w K mg base a.znp "check_place" 1 ["self","place"] #[h,Dq]):FnOk P w K mg base #[k] 2 f fd ["self","place"] #[h,zc4]:=by
 refine #[p,Bh];obtain⟨ok,q,s,i,rfl,SA,si,hml,h1,h2⟩:=h;refine⟨_,(Zb (Yb (Y0 (pv 0) T.znz zo6 (hr.mono ⋯) Zk (Za (pv 1) Zc)))
 (Zf (Zl (Ys (Xf (K:=K) rfl) (by rfl) T.zo0 PyProof.Rows.boot_list (Za (pI (iL K) (Zu (K:=K) rfl (pv 0) rfl) (pv 1)) Zc))))),?_⟩
 obtain⟨dx,m1,m2,m3,m4,ts,ms,gts,a1,a2,a3,a4,a5,a6,a7,a8,o1,o2,o3,o4,o5,o6⟩:=id SA;refine⟨_,rfl,q,dx,_,rfl,a1,U5 ⋯ ⋯ ⋯ ⋯,_,rfl,ok,q,s,i,rfl,SA,si,?_⟩;refine Cn (fun hc=>h1 hc) fun hc=>?_;obtain⟨k,rfl⟩:∃ k:Nat,i=k:=⟨i.toNat,by omega⟩;have hk:k<s.may.length:=by omega
 have hr':s.may[k]?=some (s.may[k]'hk):=zwn hk;obtain⟨lr,e2,e3⟩:=a5.getR hr';have hl':(ms.map V.ref)[k]?=#[e,lr]:=by rw[zwu,e2];rfl
 exact⟨_,rfl,q,a.znp,dx,_,_,rfl,a1,T.znz,T.zss,zgu,_,rfl,m2,_,_,_,rfl,rfl,SqL.of a4,Z7 hl',lr,_,rfl,#[C,e3],fun l hl=>h2 k _ rfl hr' l _ Zd (Ze hl) hl⟩
abbrev Vg:Stmt:=Z5 (top 52) 6
theorem Pw:#[r,["self","place"],["self","place"],Vg]:=fnS
theorem Px(F:#[l,"check_place","Sheet.check_place",Vg])(T:#[o]):FnOk P w K mg base #[k] 1 f fd ["self","place"] #[h,Dq]:=by
 refine #[p,Pw];obtain⟨ok,q,s,i,rfl,SA,si,h⟩:=h;refine⟨_,(Zf (Zy (PW.pt (X3 (Zp Sn (pv 1) Zg (Zr _)) (Xt (Zp zfg (pv 1) #[ah,Zm,cL K,T.znu,Za (Zu (K:=K) rfl (pv 0) rfl) Zc] (Zr _)))))
  (Zf (Xj Xi rfl T.ztc rfl (Za (Vb (Z3 (Xv ⋯) (Z3 (Wz (pv 1)) Va)) ⋯) Zc)))
  Zq)),?_⟩
 obtain⟨dx,m1,m2,m3,m4,ts,ms,gts,a1,a2,a3,a4,a5,a6,a7,a8,o1,o2,o3,o4,o5,o6⟩:=id SA;have hts:ts.length=s.ms.length:=by rw[a3.length,zwm]
 refine⟨_,rfl,_,_,rfl,rfl,_,rfl,?_⟩;refine itD (fun hc=>?_) fun hc=>?_
 ·rw[if_pos (.inl hc)] at h;refine iteT ?_;exact#[av,_,_,si,h]
 refine⟨_,rfl,_,rfl,q,a.znp,dx,_,_,rfl,a1,T.znz,T.zpv,Rv,m1,_,rfl,#[C,a2],_,_,rfl,rfl,_,rfl,?_⟩;rw[hts];refine itD (fun hc2=>?_) fun hc2=>?_
 ·rw[if_pos (.inr hc2)] at h;exact#[av,_,_,si,h]
 ·rw[#[c,fun z=>z.elim hc hc2]] at h;exact h
abbrev Ql:Stmt:=Z5 (top 52) 7
theorem Ei:#[al,Ql]:=fnS
theorem Ej(F:#[l,"goes","Sheet.goes",Ql])(T:#[o]):FnOk P w K mg base #[k] 1 f fd ["self"] #[h,Gd]:=by
 refine #[p,Ei];obtain⟨ok,q,s,rfl,SA,h⟩:=h;refine⟨_,Zf (Zl (Ys (Xf (K:=K) rfl) (by rfl) T.zo0 PyProof.Rows.boot_list (Za (Zu (K:=K) rfl (pv 0) rfl) Zc))),?_⟩;obtain⟨dx,m1,m2,m3,m4,ts,ms,gts,a1,a2,a3,a4,a5,a6,a7,a8,o1,o2,o3,o4,o5,o6⟩:=id SA;refine⟨_,rfl,q,a.znp,dx,_,_,rfl,a1,T.znz,T.zqs,Pl,m3,_,rfl,#[C,a6],fun l hl=>?_⟩;exact h l _ Zd (Ze hl) hl
abbrev Rc:Stmt:=Z5 (top 52) 8
theorem G8:#[r,#[Y],#[Y],Rc]:=fnS
theorem G9(F:#[l,"where","Sheet.where",Rc])(T:#[o])(zr1:Z4 P w K mg base "place_of" 1 ["given","number"] (Dj K)):FnOk P w K mg base #[k] 2 f fd #[Y] #[h,Ka]:=by
 refine #[p,G8];obtain⟨ok,q,s,n,rfl,SA,ho,hgl,h⟩:=h;refine⟨_,Zf (Zl (pF zr1 hr (Za (Zu (K:=K) rfl (pv 0) rfl) (Za (pv 1) Zc)))),?_⟩;obtain⟨dx,m1,m2,m3,m4,ts,ms,gts,a1,a2,a3,a4,a5,a6,a7,a8,o1,o2,o3,o4,o5,o6⟩:=id SA;exact⟨_,rfl,q,a.znp,dx,_,_,rfl,a1,T.znz,T.zqs,Pl,_,rfl,m3,s.gv,n,rfl,a6,ho,hgl,fun H' s'=>h H' s'⟩
abbrev T9:Stmt:=Z5 (top 52) 11
theorem Ju:#[al,T9]:=fnS
theorem Jv(F:#[l,"chains","Sheet.chains",T9])(T:#[o]):FnOk P w K mg base #[k] 1 f fd ["self"] #[h,Gf]:=by
 refine #[p,Ju];obtain⟨ok,q,s,rfl,SA,hgz,h⟩:=h;refine#[aF,_,Zl,Ga,rfl,Mq.mk (xo:=["number","steps"]) (ys:=[]) (js:=[]) rfl rfl,rfl,Yh (K:=K) rfl #[ad,Zu,0],fun _ _ _ _ _=>(Xm (K:=K) (n:=2) rfl rfl (Zv (Tf (i:=0) (show List.Nodup [("number":Str),("steps":Str)] by decide +kernel) rfl (by first|exact Or.inl rfl|exact Or.inr rfl)) (Zv (Tf (i:=1) (show List.Nodup [("number":Str),("steps":Str)] by decide +kernel) rfl (by first|exact Or.inl rfl|exact Or.inr rfl)) Xl))),Z9 (Za (pv 0) (Za (Ys (Xf (K:=K) rfl) (by rfl) T.zo0 PyProof.Rows.boot_list (Za (pv 1) Zc)) Zc))];obtain⟨dx,m1,m2,m3,m4,ts,ms,gts,a1,a2,a3,a4,a5,a6,a7,a8,o1,o2,o3,o4,o5,o6⟩:=id SA;have hgts:=a8.length;refine⟨_,rfl,q,a.znp,dx,_,_,rfl,a1,T.znz,T.zsi,Cz,m4,rfl,⟨_,SqL.of a7⟩,?_⟩;refine Gg (K:=K) (xs:=gts) (fun i ys H'=>#[v]/\Wx (fun x=>H x=none) H' ys (s.gaps.take i)/\ys.length=i) ⟨Same.refl _,.nil,rfl⟩ (fun i ys H' _ ⟨s',_⟩=>#[Q,s',a7]) (szN ⋯) (fun i ys H' ⟨_,_,e⟩=>by omega) ?_ ?_
 ·rintro i x ys H' hx ⟨s1,gl,hyl⟩;obtain⟨t,l,n,us,st,rfl,hgi,ht,hl,tl,_⟩:=a8.get hx;have ht1:=s1 _ _ ht;have hl1:=s1 _ _ hl;refine⟨t,_,rfl,#[n,ht1],rfl,_,_,rfl,_,_,rfl,rfl,#[w,[#[q,n],#[e,l]],rfl],?_⟩;unfold tYes;dsimp only;rw[#[f,rfl]];refine⟨_,rfl,_,rfl,l,_,rfl,#[C,hl1],fun l2 hl2=>?_⟩;have s2:=Ze (o:=.lst us) hl2;have q2:upd H' l2 (.lst us) l2=#[b,.lst,us]:=Zd;have f2:H l2=none:=s1.free hl2;generalize upd H' l2 (.lst us)=H2 at s2 q2;refine⟨sz2,fun t2 ht2=>?_⟩;have s3:=Ze (o:=.tup [.int n,.ref l2]) ht2;have s23:=s2.trans s3;refine⟨s1.trans s23,?_,by rw[zwp,hyl];rfl⟩;have e:s.gaps.take (i+1)=s.gaps.take i++[(n,st)]:=by rw[zxy,hgi];rfl
  rw[e];exact(gl.keep (fun _ _ _ z=>s23 _ _ z) (fun _ _ z=>s23 _ _ z)).snoc Zd (s3 _ _ q2) (tl.same (s1.trans s23)) f2
 ·rintro ys H' ⟨s1,gl,hyl⟩ l hl;rw[hgts,zw3] at gl;refine h l ys _ Zd ?_ (s1.trans (Ze hl)) (s1.free hl);exact(gl.imp (ok':=fun x=>H x=none/\x≠l) fun x ⟨o,e⟩ z=>⟨z,Zi e hl⟩).keep (fun _ _ _ z=>Ze hl _ _ z) fun _ _ z=>Ze hl _ _ z
abbrev Qm:Stmt:=Z5 (top 52) 12
theorem Ek:#[al,Qm]:=fnS
theorem El(F:#[l,"rows","Sheet.rows",Qm])(T:#[o]):FnOk P w K mg base #[k] 1 f fd ["self"] #[h,Aw]:=by
 refine #[p,Ek];obtain⟨ok,q,s,rfl,SA,ho,hgl,hml,h⟩:=h;refine#[aF,_,Zl,Ga,rfl,Mq.mk (xo:=["match","number"]) (ys:=[]) (js:=[]) rfl rfl,rfl,zkm (K:=K) rfl rfl T.zt3 (Za #[ad,Zu,0] (Za #[ad,Zu,0] Zc)),fun _ _ _ _ _=>(Xm (K:=K) (n:=2) rfl rfl (Zv (Tf (i:=0) (show List.Nodup [("match":Str),("number":Str)] by decide +kernel) rfl (by first|exact Or.inl rfl|exact Or.inr rfl)) (Zv (Tf (i:=1) (show List.Nodup [("match":Str),("number":Str)] by decide +kernel) rfl (by first|exact Or.inl rfl|exact Or.inr rfl)) Xl))),Zs (Ar (K:=K) rfl) (pv 0) (Z9 (Za (pv 1) Zc))];obtain⟨dx,m1,m2,m3,m4,ts,ms,gts,a1,a2,a3,a4,a5,a6,a7,a8,o1,o2,o3,o4,o5,o6⟩:=id SA;have hts:ts.length=s.ms.length:=by rw[a3.length,zwm]
 refine⟨_,rfl,q,a.znp,dx,_,_,rfl,a1,T.znz,T.zpv,Rv,_,rfl,q,a.znp,dx,_,_,rfl,a1,T.znz,T.zqs,Pl,m1,m3,rfl,⟨_,SqL.of a2⟩,⟨_,SqL.of a6⟩,?_⟩;refine zeh (K:=K) (xs:=ts) (zs:=s.gv) (fun i ys H'=>#[v]/\TupL H' ys (((Ya s).take i).map row4)/\ys.length=i) ⟨Same.refl _,.nil,rfl⟩ ⋯ (fun i ys H' _ ⟨s',_⟩=>⟨#[Q,s',a2],SqL.of (s' _ _ a6)⟩) (szN ⋯) (fun i ys H' ⟨_,_,e⟩=>by omega) ?_ ?_
 ·rintro i x z t ys H' hx hz ⟨s1,tl,hyl⟩ ht;obtain⟨tm,m,rfl,hm,htm⟩:=Ot a3 hx;have oz:=ho z (zw0 hz);have s2:=s1.trans (Ze (o:=.tup [.ref tm,z]) ht);have tl2:=tl.same (Ze (o:=.tup [.ref tm,z]) ht);have q2:upd H' t (.tup [.ref tm,z]) t=#[b,.tup,[.ref tm,z]]:=Zd;generalize upd H' t (.tup [.ref tm,z])=H2 at s2 tl2 q2;refine⟨t,_,rfl,#[n,q2],rfl,_,_,rfl,_,_,rfl,rfl,#[w,[#[e,tm],some z],rfl],?_⟩;unfold tYes;dsimp only;rw[#[f,rfl]];refine⟨_,rfl,_,rfl,sz1,fun t1 ht1=>?_⟩;have s3:=Ze (o:=.tup [z]) ht1;have q3:upd H2 t1 (.tup [z]) t1=#[b,.tup,[z]]:=Zd;generalize upd H2 t1 (.tup [z])=H3 at s3 q3;refine⟨tm,t1,_,_,rfl,rfl,SqT.of ((s2.trans s3) _ _ htm),#[n,q3],by unfold pV;simp,by show 3+1<=sizeLine;exact sz4,fun z=>absurd z (by simp),fun _ t2 ht2=>?_⟩;have s4:=Ze (o:=.tup (pV m++[z])) ht2;refine⟨s2.trans (s3.trans s4),?_,by rw[zwp,hyl];rfl⟩;rw[zei hm hz,zwq];refine((tl2.same s3).same s4).snoc ?_;rw[Zd,zkr m oz];rfl
 ·rintro ys H' ⟨s1,tl,hyl⟩ l hl;rw[hts,<- Ax hgl,zw3] at tl;exact h l ys _ Zd (tl.same (Ze hl)) (s1.trans (Ze hl)) (s1.free hl)
abbrev Rf:Stmt:=top 53
theorem Fb:#[r,["listed","lists"],["listed","lists"],Rf]:=fnS
theorem Fc(F:#[l,"drawn_sheet","drawn_sheet",Rf])(T:#[o])(zp7:Tt P w K mg base "Sheet" a.znp 1 ["self","listed","lists","given","gaps"] #[h,Mv])(zty:Z4 P w K mg base "fill" 3 ["may"] (zge K)):FnOk P w K mg base #[k] 4 f fd ["listed","lists"] #[h,zc3]:=by
 refine #[p,Fb];obtain⟨ok,l1,l2,ts,ls,ms,rows,nu,rfl,hl1,tl,hl2,il,ok1,ok2,okl,no,mo,h⟩:=h;refine⟨_,Zf (Zl (Cr zp7 (hr.mono ⋯) Zk rfl (Za (pv 0) (Za (pv 1) (Za (pF zty hr (Za (pv 1) Zc)) (Za (Z2 Zc) Zc)))))),?_⟩;refine⟨_,rfl,_,rfl,_,rfl,l2,ls,rows,nu,rfl,hl2,il,mo,fun l3 gv H1 h3 FP SP s1 f3=>?_⟩;refine#[ap,fun l4 hl4=>?_];have s2:=Ze (o:=.lst []) hl4;have q2:upd H1 l4 (.lst []) l4=#[b,.lst,[]]:=Zd;generalize upd H1 l4 (.lst [])=H2 at s2 q2;have s12:=s1.trans s2;intro q dx hq hdx ne;refine⟨q,dx,l1,l2,l3,l4,rfl,Zd,fun H' e=>⟨rfl,?_⟩⟩;obtain⟨s3,q3⟩:=Nn (C:=a.znp) (l1:=l1) (l2:=l2) (l3:=l3) (l4:=l4) hq hdx ne;rw[<- e] at s3 q3;have s:=s12.trans s3;exact h q gv H' ⟨dx,l1,l2,l3,l4,ts,ls,[],q3,s _ _ hl1,tl.same s,s _ _ hl2,il.same s,s3 _ _ (s2 _ _ h3),s3 _ _ q2,.nil,no _ (s12.free hq),ok1,ok2,no _ f3,no _ (s1.free hl4),okl⟩ FP SP s (s12.free hq)
abbrev V7:Stmt:=Z5 (top 55) 0
theorem N4:#[r,["self","rounds","rest"],["self","rounds","rest"],V7]:=fnS
theorem N5(F:#[l,"__init__","Season.__init__",V7])(T:#[o])(zny:Z4 P w K mg base "check_range" 1 ["value","least","most"] (Mu a.zn6))(zsy:Tt P w K mg base "Roster" a.znq 1 ["self"] #[h,zc1])(zs7:Tt P w K mg base "Ledger" a.zno 1 ["self"] (zcv a.zno)):FnOk P w K mg base #[k] 3 f fd ["self","rounds","rest"] #[h,zc6]:=by
 refine #[p,N4];obtain⟨p,dx,r,q,rfl,hp,sr,sq,h⟩:=h;refine⟨_,(Zb (Yb (pF zny hr (Za (pv 1) (Za Zg (Za (Ww rfl T.zqy) Zc)))))
 (Zb (Yb (pF zny hr (Za (pv 2) (Za Zg (Za (Ww rfl T.zri) Zc)))))
 (Zb (Xg (K:=K) rfl (pv 0) (pv 1) rfl)
 (Zb (Xg (K:=K) rfl (pv 0) (pv 2) rfl)
 (Zb (Xg (K:=K) rfl (pv 0) (zcq zsy (hr.mono ⋯) Zk rfl) rfl)
 (Zb (Xg (K:=K) rfl (pv 0) (zcq zs7 (hr.mono ⋯) Zk rfl) rfl)
 (Zb (Xg (K:=K) rfl (pv 0) Hm rfl)
 (Zb (Xg (K:=K) rfl (pv 0) (Z2 Zc) rfl)
 (Zb (Xg (K:=K) rfl (pv 0) Y8 rfl)
 (Zf (Xg (K:=K) rfl (pv 0) (Z2 Zc) rfl))))))))))),?_⟩
 show let y1:TS:=_;let y2:TS:=Z1 _ y1;let y3:TS:=Z1 _ y2;let y4:TS:=Z1 _ y3;let y5:TS:=Z1 _ y4;let y6:TS:=Z1 _ y5;let y7:TS:=Z1 _ y6;let y8:TS:=Z1 _ y7;let y9:TS:=Z1 _ y8;Z1 _ y9 _ _ _;intro y1 y2 y3 y4 y5 y6 y7 y8 y9;refine⟨_,rfl,r,0,60,rfl,sr,Yk ⋯,Yk ⋯,?_⟩;refine it2 h (fun _ z=>z) fun h1 h=>?_;refine⟨_,rfl,q,0,10,rfl,sq,Yk ⋯,Yk ⋯,?_⟩;refine it2 h (fun _ z=>z) fun h2 hF=>?_;have er:r=((r.toNat:Nat):Int):=by omega
 have eq':q=((q.toNat:Nat):Int):=by omega
 generalize r.toNat=rn at hF er;generalize q.toNat=qn at hF eq';subst er eq';refine⟨_,rfl,_,rfl,p,a.znk,dx,_,rfl,hp,T.znl,T.zrm,(by show 0<1000;decide),?_⟩;rw[pF1];refine⟨_,rfl,_,rfl,p,a.znk,dx,_,rfl,Zd,T.znl,T.ztn,(by show 1<1000;decide),?_⟩;rw[pF2,Im];have b1:V3 p H (upd H p (.ins a.znk dx (sF2 (.int rn) (.int qn)))):=.put;have q1:upd H p (.ins a.znk dx (sF2 (.int rn) (.int qn))) p=some (.ins a.znk dx (sF2 (.int rn) (.int qn))):=Zd;generalize upd H p (.ins a.znk dx (sF2 (.int rn) (.int qn)))=H1 at b1 q1;intro pr dxr hpr hdxr ne;refine⟨pr,dxr,rfl,Zd,fun dr hdr=>⟨rfl,?_⟩⟩;have ndp:dr≠pr:=fun z=>by rw[z,Zd] at hdr;cases hdr
 have ndx:dr≠dxr:=fun z=>by rw[z,Zh ne,Zd] at hdr;cases hdr
 have hdr1:H1 dr=none:=by rw[Zh ndp,Zh ndx] at hdr;exact hdr
 have s2:Same H1 (upd (upd (upd (upd H1 dxr (.own pr)) pr (.ins a.znq dxr [])) dr (.dK [])) pr (.ins a.znq dxr [("entries",.ref dr)])):=fun b o e=>by
  rw[Zh (Zi e hpr),Zh (Zi e hdr1),Zh (Zi e hpr),Zh (Zi e hdxr)];exact e
 have R2:Xn a.znq (upd (upd (upd (upd H1 dxr (.own pr)) pr (.ins a.znq dxr [])) dr (.dK [])) pr (.ins a.znq dxr [("entries",.ref dr)])) pr dr []:=⟨⟨dxr,[],Zd,by rw[Zh ndp,Zd],.nil⟩,List.nodup_nil⟩;generalize upd (upd (upd (upd H1 dxr (.own pr)) pr (.ins a.znq dxr [])) dr (.dK [])) pr (.ins a.znq dxr [("entries",.ref dr)])=H2 at s2 R2;refine⟨_,rfl,p,a.znk,dx,_,rfl,s2 _ _ q1,T.znl,T.zor,(by show 2<1000;decide),?_⟩;rw[pF3];have np2:pr≠p/\dr≠p:=⟨Ne.symm (Zi q1 hpr),Ne.symm (Zi q1 hdr1)⟩;have b3:V3 p H (upd H2 p (.ins a.znk dx (sF3 (.int rn) (.int qn) (.ref pr)))):=b1.trans ((V3.of s2).trans .put);have q3:upd H2 p (.ins a.znk dx (sF3 (.int rn) (.int qn) (.ref pr))) p=some (.ins a.znk dx (sF3 (.int rn) (.int qn) (.ref pr))):=Zd;have kt3:∀ t xs,H2 t=#[E,xs]->upd H2 p (.ins a.znk dx (sF3 (.int rn) (.int qn) (.ref pr))) t=#[E,xs]:=fun t xs e=>by rw[Zh (Yu e (s2 _ _ q1) (fun z=>nomatch z))];exact e
 have R3:=R2.keep (H':=upd H2 p (.ins a.znk dx (sF3 (.int rn) (.int qn) (.ref pr)))) (fun o e=>by rw[Zh np2.1];exact e) (fun o e=>by rw[Zh np2.2];exact e) kt3;have fdr:H dr=none:=V3.free b1 ⟨_,q1⟩ hdr1;have hr2:H2 dr=#[b,.dK,[]]/\∃ o,H2 pr=#[d]:=by
  obtain⟨⟨x,kv,z1,z2,z3⟩,_⟩:=R2;cases z3;exact⟨z2,_,z1⟩
 generalize upd H2 p (.ins a.znk dx (sF3 (.int rn) (.int qn) (.ref pr)))=H3 at b3 q3 R3;intro pl dxl hpl hdxl nel;refine⟨pl,dxl,rfl,Zd,fun lr ld H4 L0 k0 f0 g0 n0=>⟨rfl,?_⟩⟩;obtain⟨s4,fr0,fd0⟩:=zgb hpl hdxl nel k0 f0 g0;refine⟨_,rfl,p,a.znk,dx,_,rfl,s4 _ _ q3,T.znl,T.zo7,(by show 3<1000;decide),?_⟩;rw[pF4];have q4:=s4 _ _ q3;have np4:pl≠p/\lr≠p/\ld≠p:=⟨Ne.symm (Zi q3 hpl),Ne.symm (Zi q3 fr0),Ne.symm (Zi q3 fd0)⟩;have b5:V3 p H (upd H4 p (.ins a.znk dx (sF4 (.int rn) (.int qn) (.ref pr) (.ref pl)))):=b3.trans ((V3.of s4).trans .put);have q5:upd H4 p (.ins a.znk dx (sF4 (.int rn) (.int qn) (.ref pr) (.ref pl))) p=some (.ins a.znk dx (sF4 (.int rn) (.int qn) (.ref pr) (.ref pl))):=Zd;have kt5:∀ t xs,H4 t=#[E,xs]->upd H4 p (.ins a.znk dx (sF4 (.int rn) (.int qn) (.ref pr) (.ref pl))) t=#[E,xs]:=fun t xs e=>by rw[Zh (Yu e q4 (fun z=>nomatch z))];exact e
 have R5:=(R3.same s4).keep (H':=upd H4 p (.ins a.znk dx (sF4 (.int rn) (.int qn) (.ref pr) (.ref pl)))) (fun o e=>by rw[Zh np2.1];exact e) (fun o e=>by rw[Zh np2.2];exact e) kt5;have L5:=L0.keep (H':=upd H4 p (.ins a.znk dx (sF4 (.int rn) (.int qn) (.ref pr) (.ref pl)))) (fun o e=>by rw[Zh np4.1];exact e) (fun o e=>by rw[Zh np4.2.1];exact e) (fun o e=>by rw[Zh np4.2.2];exact e) kt5;have flr:H lr=none:=V3.free b3 ⟨_,q3⟩ fr0;have fld:H ld=none:=V3.free b3 ⟨_,q3⟩ fd0;have nrp:pr≠pl/\dr≠pl/\pr≠lr/\dr≠lr/\pr≠ld/\dr≠ld:=by
  obtain⟨⟨x,kv,z1,z2,_⟩,_⟩:=R3;exact⟨Zi z1 hpl,Zi z2 hpl,Zi z1 fr0,Zi z2 fr0,Zi z1 fd0,Zi z2 fd0⟩
 generalize upd H4 p (.ins a.znk dx (sF4 (.int rn) (.int qn) (.ref pr) (.ref pl)))=H5 at b5 q5 R5 L5;intro da hda;have npa:da≠p:=Ne.symm (Zi q5 hda);refine⟨_,rfl,p,a.znk,dx,_,rfl,Ze (o:=.dT []) hda _ _ q5,T.znl,T.zpx,(by show 4<1000;decide),?_⟩;rw[pF5];have b7:V3 p H5 (upd (upd H5 da (.dT [])) p (.ins a.znk dx (sF5 (.int rn) (.int qn) (.ref pr) (.ref pl) (.ref da)))):=(V3.of (Ze hda)).trans .put;have q7:upd (upd H5 da (.dT [])) p (.ins a.znk dx (sF5 (.int rn) (.int qn) (.ref pr) (.ref pl) (.ref da))) p=some (.ins a.znk dx (sF5 (.int rn) (.int qn) (.ref pr) (.ref pl) (.ref da))):=Zd;have d7:upd (upd H5 da (.dT [])) p (.ins a.znk dx (sF5 (.int rn) (.int qn) (.ref pr) (.ref pl) (.ref da))) da=#[b,.dT,[]]:=by rw[Zh npa,Zd]
 generalize upd (upd H5 da (.dT [])) p (.ins a.znk dx (sF5 (.int rn) (.int qn) (.ref pr) (.ref pl) (.ref da)))=H7 at b7 q7 d7;refine#[ap,fun ls hls=>?_];have nps:ls≠p:=Ne.symm (Zi q7 hls);refine⟨_,rfl,p,a.znk,dx,_,rfl,Ze (o:=.lst []) hls _ _ q7,T.znl,T.zrq,(by show 5<1000;decide),?_⟩;rw[pF6];have b9:V3 p H7 (upd (upd H7 ls (.lst [])) p (.ins a.znk dx (sF6 (.int rn) (.int qn) (.ref pr) (.ref pl) (.ref da) (.ref ls)))):=(V3.of (Ze hls)).trans .put;have q9:upd (upd H7 ls (.lst [])) p (.ins a.znk dx (sF6 (.int rn) (.int qn) (.ref pr) (.ref pl) (.ref da) (.ref ls))) p=some (.ins a.znk dx (sF6 (.int rn) (.int qn) (.ref pr) (.ref pl) (.ref da) (.ref ls))):=Zd;have l9:upd (upd H7 ls (.lst [])) p (.ins a.znk dx (sF6 (.int rn) (.int qn) (.ref pr) (.ref pl) (.ref da) (.ref ls))) ls=#[b,.lst,[]]:=by rw[Zh nps,Zd]
 generalize upd (upd H7 ls (.lst [])) p (.ins a.znk dx (sF6 (.int rn) (.int qn) (.ref pr) (.ref pl) (.ref da) (.ref ls)))=H9 at b9 q9 l9;refine⟨_,rfl,p,a.znk,dx,_,rfl,q9,T.znl,T.zoh,(by show 6<1000;decide),?_⟩;rw[pF7];have b10:V3 p H9 (upd H9 p (.ins a.znk dx (sF7 (.int rn) (.int qn) (.ref pr) (.ref pl) (.ref da) (.ref ls) .non))):=.put;have q10:upd H9 p (.ins a.znk dx (sF7 (.int rn) (.int qn) (.ref pr) (.ref pl) (.ref da) (.ref ls) .non)) p=some (.ins a.znk dx (sF7 (.int rn) (.int qn) (.ref pr) (.ref pl) (.ref da) (.ref ls) .non)):=Zd;generalize upd H9 p (.ins a.znk dx (sF7 (.int rn) (.int qn) (.ref pr) (.ref pl) (.ref da) (.ref ls) .non))=H10 at b10 q10;refine#[ap,fun lt hlt=>?_];have npt:lt≠p:=Ne.symm (Zi q10 hlt);refine⟨_,rfl,p,a.znk,dx,_,rfl,Ze (o:=.lst []) hlt _ _ q10,T.znl,T.zot,(by show 7<1000;decide),?_⟩;rw[pF8];have b12:V3 p H10 (upd (upd H10 lt (.lst [])) p (.ins a.znk dx (sF8 (.int rn) (.int qn) (.ref pr) (.ref pl) (.ref da) (.ref ls) .non (.ref lt)))):=(V3.of (Ze hlt)).trans .put;have q12:upd (upd H10 lt (.lst [])) p (.ins a.znk dx (sF8 (.int rn) (.int qn) (.ref pr) (.ref pl) (.ref da) (.ref ls) .non (.ref lt))) p=some (.ins a.znk dx (sF8 (.int rn) (.int qn) (.ref pr) (.ref pl) (.ref da) (.ref ls) .non (.ref lt))):=Zd;have l12:upd (upd H10 lt (.lst [])) p (.ins a.znk dx (sF8 (.int rn) (.int qn) (.ref pr) (.ref pl) (.ref da) (.ref ls) .non (.ref lt))) lt=#[b,.lst,[]]:=by rw[Zh npt,Zd]
 generalize upd (upd H10 lt (.lst [])) p (.ins a.znk dx (sF8 (.int rn) (.int qn) (.ref pr) (.ref pl) (.ref da) (.ref ls) .non (.ref lt)))=H12 at b12 q12 l12;have b912:=b10.trans b12;have b712:=b9.trans b912;have b512:=b7.trans b712;have bb:=b5.trans b512;have kt:∀ t xs,H5 t=#[E,xs]->H12 t=#[E,xs]:=fun t xs e=>b512 t _ e (Yu e q5 (fun z=>nomatch z));have R12:=R5.keep (fun o e=>b512 _ o e np2.1) (fun o e=>b512 _ o e np2.2) kt;have L12:=L5.keep (fun o e=>b512 _ o e np4.1) (fun o e=>b512 _ o e np4.2.1) (fun o e=>b512 _ o e np4.2.2) kt;have d12:=b712 _ _ d7 npa;have l912:=b912 _ _ l9 nps;have fda:H da=none:=V3.free b5 ⟨_,q5⟩ hda;have fls:H ls=none:=V3.free (b5.trans b7) ⟨_,q7⟩ hls;have flt:H lt=none:=V3.free (b5.trans (b7.trans (b9.trans b10))) ⟨_,q10⟩ hlt;have ex5:(∃ o,H5 pr=some o)/\(∃ o,H5 dr=some o)/\(∃ o,H5 pl=some o)/\(∃ o,H5 lr=some o)/\(∃ o,H5 ld=some o):=by
  obtain⟨⟨x,kv,z1,z2,_⟩,_⟩:=id R5;obtain⟨⟨y,w1⟩,⟨rs,w2,_⟩,⟨ks,w3,_⟩⟩:=id L5;exact⟨⟨_,z1⟩,⟨_,z2⟩,⟨_,w1⟩,⟨_,w2⟩,⟨_,w3⟩⟩
 have n5:∀ {x y:Addr},(∃ o,H5 x=some o)->H5 y=none->x≠y:=fun ⟨o,e⟩ hy=>Zi e hy;have fls5:H5 ls=none:=V3.free b7 ⟨_,q7⟩ hls;have flt5:H5 lt=none:=V3.free (b7.trans (b9.trans b10)) ⟨_,q10⟩ hlt;have ndas:da≠ls:=Zi d7 hls;have ndat:da≠lt:=Zi (b10 _ _ (b9 _ _ d7 npa) npa) hlt;have nst:ls≠lt:=Zi (b10 _ _ l9 nps) hlt;obtain⟨e1,e2,e3,e4,e5⟩:=ex5;have nrl:lr≠ld:=n0;refine hF ⟨p,pr,dr,pl,lr,ld,da,ls,lt⟩ H12 rfl ⟨⟨dx,.non,q12,rfl⟩,R12,L12,⟨[],d12,fun i n=>rfl,zww _⟩,⟨[],l912,.nil⟩,⟨[],l12,.nil⟩,?_,?_⟩ bb ?_
 ·show [p,dr,lr,ld,da,ls,lt].Nodup;simp only[zxe,zwr,zxf,or_false,not_or];exact⟨⟨Ne.symm np2.2,Ne.symm np4.2.1,Ne.symm np4.2.2,Ne.symm npa,Ne.symm nps,Ne.symm npt⟩,⟨nrp.2.2.2.1,nrp.2.2.2.2.2,n5 e2 hda,n5 e2 fls5,n5 e2 flt5⟩,⟨nrl,n5 e4 hda,n5 e4 fls5,n5 e4 flt5⟩,⟨n5 e5 hda,n5 e5 fls5,n5 e5 flt5⟩,⟨ndas,ndat⟩,nst,by simp,List.nodup_nil⟩
 ·have hpr5:∃ x fs,H5 pr=some (.ins a.znq x fs):=by obtain⟨⟨x,kv,z1,_⟩,_⟩:=R5;exact⟨_,_,z1⟩
  have hdr5:∃ kv,H5 dr=#[b,.dK,kv]:=by obtain⟨⟨x,kv,_,z2,_⟩,_⟩:=R5;exact⟨_,z2⟩
  have hpl5:∃ x fs,H5 pl=some (.ins a.zno x fs):=by obtain⟨⟨y,w1⟩,_⟩:=L5;exact⟨_,_,w1⟩
  obtain⟨x1,y1,z1⟩:=hpr5;obtain⟨y2,z2⟩:=hdr5;obtain⟨x3,y3,z3⟩:=hpl5;obtain⟨_,⟨rs,w2,_⟩,⟨ks,w3,_⟩⟩:=id L5;have nm:∀ m,m∈([p,dr,lr,ld,da,ls,lt]:List Addr)↔m=p\/m=dr\/m=lr\/m=ld\/m=da\/m=ls\/m=lt:=fun m=>by simp
  refine⟨fun hm=>?_,fun hm=>?_⟩
  ·rcases(nm _).mp hm with q|q|q|q|q|q|q
   ·exact np2.1 q
   ·exact Yu z1 z2 (fun z=>nomatch z) q
   ·exact nrp.2.2.1 q
   ·exact nrp.2.2.2.2.1 q
   ·exact n5 e1 hda q
   ·exact n5 e1 fls5 q
   ·exact n5 e1 flt5 q
  ·rcases(nm _).mp hm with q|q|q|q|q|q|q
   ·exact np4.1 q
   ·exact nrp.2.1 q.symm
   ·exact Yu z3 w2 (fun z=>nomatch z) q
   ·exact Yu z3 w3 (fun z=>nomatch z) q
   ·exact n5 e3 hda q
   ·exact n5 e3 fls5 q
   ·exact n5 e3 flt5 q
 ·intro x hx hxp;simp only[SAd.fp,zwr,zxf,or_false] at hx;rcases hx with q|q|q|q|q|q|q
  ·exact absurd q hxp
  ·rw[q];exact fdr
  ·rw[q];exact flr
  ·rw[q];exact fld
  ·rw[q];exact fda
  ·rw[q];exact fls
  ·rw[q];exact flt
abbrev Wh:Stmt:=Z5 (top 55) 1
theorem Rg:#[al,Wh]:=fnS
theorem Rh(F:#[l,"check_not_over","Season.check_not_over",Wh])(T:#[o])(znm:Zw P w K mg base a.znk "at_hand" 2 ["self"] #[h,V1]):FnOk P w K mg base #[k] 3 f fd ["self"] #[h,Kb]:=by
 refine #[p,Rg];obtain⟨A',S,rfl,SA,h⟩:=h;refine⟨_,(Zf (Zy (Zp Ui (Ym (pv 0) T.znl znm (hr.mono ⋯) Zk) #[ad,Zu,0] (Zr _))
  (Zf (Xj Xi rfl T.ztp rfl (Za Zn Zc)))
  Zq)),?_⟩
 obtain⟨⟨dx,v,a1,a2⟩,b,c,_⟩:=id SA;refine⟨_,rfl,A'.p,dx,_,rfl,a1,Yd ⋯,A',S,rfl,SA,_,rfl,A'.p,a.znk,dx,_,_,rfl,a1,T.znl,T.zrm,Dr,_,_,rfl,rfl,_,rfl,?_⟩;refine itD (fun hc=>?_) fun hc=>?_
 ·rw[#[f,(by unfold atV at hc;omega)]] at h;exact⟨sz1,h⟩
 ·rw[#[c,(by unfold atV at hc;omega)]] at h;exact h
abbrev Wo:Stmt:=Z5 (top 55) 2
theorem R0:#[al,Wo]:=fnS
theorem R1(F:#[l,"check_undrawn","Season.check_undrawn",Wo])(T:#[o])(zn0:Zw P w K mg base a.znk "check_not_over" 3 ["self"] #[h,Kb]):FnOk P w K mg base #[k] 4 f fd ["self"] #[h,Kc]:=by
 refine #[p,R0];obtain⟨A',S,rfl,SA,h⟩:=h;refine⟨_,(Zb (Yb (Ym (pv 0) T.znl zn0 (hr.mono ⋯) Zk))
 (Zf (Zy (Zp Tg (Zu (K:=K) rfl (pv 0) rfl) Y8 (Zr _))
  (Zf (Xj Xi rfl T.zt0 rfl (Za Zn Zc)))
  Zq))),?_⟩
 obtain⟨⟨dx,v,a1,a2⟩,b,c,_⟩:=id SA;refine⟨_,rfl,A'.p,dx,_,rfl,a1,Yd ⋯,A',S,rfl,SA,?_⟩;refine it2 h (fun _ z=>z) fun hn h=>?_;refine⟨_,rfl,A'.p,a.znk,dx,_,_,rfl,a1,T.znl,T.zoh,W4,rfl,_,rfl,?_⟩;cases hc:S.cur with
 | none =>
   rw[hc] at a2 h;have a2:v=.non:=a2;rw[a2];exact iteF h
 | some s =>
   rw[hc] at a2 h;obtain⟨q,rfl,_⟩:=a2;exact iteT ⟨sz1,h⟩
abbrev W7:Stmt:=Z5 (top 55) 3
theorem Q5:#[r,["self","at"],["self","at"],W7]:=fnS
theorem Q6(F:#[l,"check_round","Season.check_round",W7])(T:#[o]):FnOk P w K mg base #[k] 1 f fd ["self","at"] #[h,Iy]:=by
 refine #[p,Q5];obtain⟨A',S,i,rfl,SA,si,h⟩:=h;refine⟨_,(Zf (Zy (PW.pt (X3 (Zp Sn (pv 1) Zg (Zr _)) (Xt (Zp Ui (pv 1) #[ad,Zu,0] (Zr _)))))
  (Zf (Xj Xi rfl T.zrx rfl (Za (Vb (Z3 (Wz (pv 1)) (Z3 (Xv ⋯) Va)) ⋯) Zc)))
  Zq)),?_⟩
 obtain⟨⟨dx,v,a1,a2⟩,b,c,_⟩:=id SA;refine⟨_,rfl,_,_,rfl,rfl,_,rfl,?_⟩;refine itD (fun hc=>?_) fun hc=>?_
 ·rw[if_pos (.inl hc)] at h;refine iteT ?_;exact#[av,_,_,si,h]
 refine⟨_,rfl,_,rfl,A'.p,a.znk,dx,_,_,rfl,a1,T.znl,T.zrm,Dr,_,_,rfl,rfl,_,rfl,?_⟩;refine itD (fun hc2=>?_) fun hc2=>?_
 ·rw[if_pos (.inr hc2)] at h;exact#[av,_,_,si,h]
 ·rw[#[c,fun z=>z.elim hc hc2]] at h;exact h
abbrev Vh:Stmt:=Z5 (top 55) 4
theorem Py:#[al,Vh]:=fnS
theorem P4(F:#[l,"check_room","Season.check_room",Vh])(T:#[o]):FnOk P w K mg base #[k] 1 f fd ["self"] #[h,C0]:=by
 refine #[p,Py];obtain⟨A',S,rfl,SA,h⟩:=h;refine⟨_,(Zf (Zy (Zp zfg #[ah,Zm,cL K,T.znu,Za (Zu (K:=K) rfl (pv 0) rfl) Zc] (Ww rfl T.zp5) (Zr _))
  (Zf (Xj Xi rfl T.zs8 rfl (Za (Vb (Z3 (Wz (Ww rfl T.zp5)) (Z3 (Xv ⋯) Va)) ⋯) Zc)))
  Zq)),?_⟩
 obtain⟨⟨dx,v,a1,a2⟩,b,c,d,f,⟨us,g1,g2⟩,nd,np⟩:=id SA;refine⟨_,rfl,A'.p,a.znk,dx,_,_,rfl,a1,T.znl,T.zot,U3,A'.lt,_,rfl,#[C,g1],_,_,rfl,rfl,_,rfl,?_⟩;rw[g2.length];refine itD (fun hc=>?_) fun hc=>?_
 ·rw[if_pos ⋯] at h;exact⟨.inl ⟨_,rfl,Yk ⋯⟩,fun z=>⟨sz1,h⟩⟩
 ·rw[if_neg ⋯] at h;exact h
abbrev Ri:Stmt:=Z5 (top 55) 5
theorem Fd:#[r,["self","word","number","at"],["self","word","number","at"],Ri]:=fnS
theorem Fe(F:#[l,"note","Season.note",Ri])(T:#[o]):FnOk P w K mg base #[k] 1 f fd ["self","word","number","at"] #[h,C2]:=by
 refine #[p,Fd];obtain⟨A',S,w',n,i,rfl,SA,hz,h⟩:=h;refine⟨_,Zf (Y3 #[ad,Zu,0] (Z9 (Za (Z9 (Za (pv 1) (Za (pv 2) (Za (pv 3) Zc)))) (Za (Zu (K:=K) rfl (pv 0) rfl) Zc)))),?_⟩;obtain⟨⟨dx,v,a1,a2⟩,b,c,⟨kvs,d1,d2⟩,⟨vs,f1,f2⟩,⟨us,g1,g2⟩,nd,np⟩:=id SA;refine⟨_,rfl,A'.p,a.znk,dx,_,_,rfl,a1,T.znl,T.zot,U3,A'.lt,us,rfl,g1,?_⟩;refine⟨_,rfl,_,rfl,_,rfl,sz3,fun t1 ht1=>?_⟩;have s1:=Ze (o:=.tup [.str w',.int n,.int i]) ht1;have q1:upd H t1 (.tup [.str w',.int n,.int i]) t1=some (.tup (W3 (w',n,i))):=Zd;generalize upd H t1 (.tup [.str w',.int n,.int i])=H1 at s1 q1;refine⟨_,rfl,A'.p,a.znk,dx,_,_,rfl,s1 _ _ a1,T.znl,T.zoh,W4,sz2,fun t2 ht2=>?_⟩;have s2:=Ze (o:=.tup [.ref t1,v]) ht2;have q2:upd H1 t2 (.tup [.ref t1,v]) t2=#[b,.tup,[.ref t1,v]]:=Zd;have q12:=s2 _ _ q1;have s12:=s1.trans s2;generalize upd H1 t2 (.tup [.ref t1,v])=H2 at s2 q2 q12 s12;refine⟨us,s12 _ _ g1,by have:=g2.length;have:=Tv;omega,?_⟩;have fr:FrS A' H (upd H2 A'.lt (.lst (us++[.ref t2]))):=fun b o e hb=>by
  rw[Zh #[as,hb]];exact s12 _ _ e
 have kt:=SA.tups fr;have kp:∀ x o,x≠A'.lt->H x=#[d]->upd H2 A'.lt (.lst (us++[.ref t2])) x=#[d]:=fun x o hx e=>by rw[Zh hx];exact s12 _ _ e
 have kt2:∀ t xs,H2 t=#[E,xs]->upd H2 A'.lt (.lst (us++[.ref t2])) t=#[E,xs]:=fun t xs e=>by
  rw[Zh (Yu e (s12 _ _ g1) (fun z=>nomatch z))];exact e
 have ko:∀ x o,x∉A'.fp->H x=#[d]->upd H2 A'.lt (.lst (us++[.ref t2])) x=#[d]:=fun x o hx e=>fr x o e hx;have nd':=nd;simp only[SAd.fp,zxe,zwr,zxf,or_false,not_or] at nd';obtain⟨⟨n1,n2,n3,n4,n5,n6⟩,⟨n7,n8,n9,n10,n11⟩,⟨n12,n13,n14,n15⟩,⟨n16,n17,n18⟩,⟨n19,n20⟩,n21,_⟩:=nd';have npt:A'.pr≠A'.lt/\A'.pl≠A'.lt:=⟨#[as,np.1],#[as,np.2]⟩;refine h _ ⟨⟨dx,v,kp _ _ n6 a1,a2.keep ko kt⟩,b.keep (fun o e=>kp _ o npt.1 e) (fun o e=>kp _ o n11 e) kt,c.keep (fun o e=>kp _ o npt.2 e) (fun o e=>kp _ o n15 e) (fun o e=>kp _ o n18 e) kt,⟨kvs,kp _ _ n20 d1,d2⟩,⟨vs,kp _ _ n21 f1,f2.keep ko kt⟩,⟨us++[.ref t2],Zd,?_⟩,nd,np⟩ fr;exact(g2.keep ko kt).snoc (kt2 _ _ q2) (kt2 _ _ q12) (a2.keep ko kt)
abbrev Wq:Stmt:=Z5 (top 55) 6
theorem R4:#[al,Wq]:=fnS
theorem R6(F:#[l,"sheet_at_hand","Season.sheet_at_hand",Wq])(T:#[o]):FnOk P w K mg base #[k] 1 f fd ["self"] #[h,Qc]:=by
 refine #[p,R4];obtain⟨A',S,rfl,SA,h1,h2⟩:=h;refine⟨_,(Zb (Zy (Zp Pa #[ad,Zu,0] Y8 (Zr _))
  (Zf (Xj Xi rfl T.zsx rfl (Za Zn Zc)))
  Zq)
 (Zf (Zl (Zu (K:=K) rfl (pv 0) rfl)))),?_⟩
 obtain⟨⟨dx,v,a1,a2⟩,b,c,_⟩:=id SA;refine⟨_,rfl,A'.p,a.znk,dx,_,_,rfl,a1,T.znl,T.zoh,W4,rfl,_,rfl,?_⟩;cases hc:S.cur with
 | none =>
   rw[hc] at a2;have a2:v=.non:=a2;rw[a2];exact iteT ⟨sz1,h1 hc⟩
 | some s =>
   rw[hc] at a2;obtain⟨q,rfl,hs⟩:=a2;refine iteF ?_;exact⟨_,rfl,A'.p,a.znk,dx,_,_,rfl,a1,T.znl,T.zoh,W4,h2 s q hc hs⟩
abbrev V8:Stmt:=Z5 (top 55) 7
theorem N6:#[r,["self","at"],["self","at"],V8]:=fnS
theorem N7(F:#[l,"sheet_of","Season.sheet_of",V8])(T:#[o])(zns:Zw P w K mg base a.znk "check_round" 1 ["self","at"] #[h,Iy])(znv:Zw P w K mg base a.zno "over" 1 ["self"] (L6 a.zno))(znm:Zw P w K mg base a.znk "at_hand" 2 ["self"] #[h,V1])(znr:Zw P w K mg base a.znk "sheet_at_hand" 1 ["self"] #[h,Qc]):FnOk P w K mg base #[k] 3 f fd ["self","at"] #[h,Kd]:=by
 refine #[p,N6];obtain⟨A',S,i,rfl,SA,si,hol,h⟩:=h;refine⟨_,(Zb (Yb (Y0 (pv 0) T.znl zns (hr.mono ⋯) Zk (Za (pv 1) Zc)))
 (Zb (Zy (Zp zff (pv 1) (Ym (Zu (K:=K) rfl (pv 0) rfl) T.zn9 znv (hr.mono ⋯) Zk) (Zr _))
  (Zf (Zl (pI (iL K) (Zu (K:=K) rfl (pv 0) rfl) (Zs S6 (pv 1) Zg))))
  Zq)
 (Zb (Zy (Zp Ui (pv 1) (Ym (pv 0) T.znl znm (hr.mono ⋯) Zk) (Zr _))
  (Zf (Xj Xi rfl T.zsx rfl (Za (Vb (Z3 (Xv ⋯) (Z3 (Wz (pv 1)) (Z3 (Xv ⋯) Va))) ⋯) Zc)))
  Zq)
 (Zf (Zl (Ym (pv 0) T.znl znr (hr.mono ⋯) Zk)))))),?_⟩
 obtain⟨⟨dx,v,a1,a2⟩,b,c,d,⟨vs,f1,f2⟩,_⟩:=id SA;obtain⟨⟨dxl,hpl⟩,_⟩:=id c;refine⟨_,rfl,A'.p,dx,_,rfl,a1,Yd ⋯,_,rfl,A',S,i,rfl,SA,si,?_⟩;refine it2 h (fun _ z=>z) fun hn h=>?_;refine⟨_,rfl,_,rfl,A'.p,a.znk,dx,_,_,rfl,a1,T.znl,T.zo7,Uo,A'.pl,dxl,_,rfl,hpl,K6 ⋯ ⋯,A'.pl,A'.lr,A'.ld,S.led,rfl,c,_,_,rfl,rfl,_,rfl,?_⟩;refine itD (fun hc=>?_) fun hc=>?_
 ·have hk:(i-1).toNat<S.old.length:=by omega
  have hs:V2 S i=some (S.old[(i-1).toNat]'hk):=by unfold V2;rw[#[f,hc]];exact zwn hk
  obtain⟨q,e1,e2⟩:=f2.getR (zwn hk);exact⟨_,rfl,A'.p,a.znk,dx,_,_,rfl,a1,T.znl,T.zrq,Du,_,rfl,_,_,rfl,rfl,A'.ls,_,_,_,rfl,rfl,SqL.of f1,(show atI vs (i-1)=some (.ref q) by rw[show i-1=(((i-1).toNat:Nat):Int) by omega];exact Z7 e1),h.2 _ q hs e2⟩
 ·refine Zt ?_;refine⟨_,rfl,_,rfl,A'.p,dx,_,rfl,a1,Yd ⋯,A',S,rfl,SA,_,_,rfl,rfl,_,rfl,?_⟩;refine itD (fun hc2=>?_) fun hc2=>?_
  ·exact#[av,_,_,si,h.1 (by unfold V2;rw[#[c,hc],#[f,(by unfold atV at hc2;omega)]])]
  ·have hs:V2 S i=S.cur:=by unfold V2;rw[#[c,hc],#[c,(by unfold atV at hc2;omega)]]
   exact⟨_,rfl,A'.p,dx,_,rfl,a1,Yd ⋯,A',S,rfl,SA,fun hz=>h.1 (by rw[hs];exact hz),fun s q hz hq=>h.2 s q (by rw[hs];exact hz) hq⟩
abbrev Vt:Stmt:=Z5 (top 55) 8
theorem Wd:#[r,["self","listed","people","at","out"],["self","listed"],Vt]:=fnS
theorem O0(F:#[l,"takers_of","Season.takers_of",Vt])(T:#[o])(zoa:Zw P w K mg base a.znq "numbers" 1 ["self"] #[h,Nm])(zpy:Zw P w K mg base a.znq "person" 3 #[Y] #[h,Aq])(znm:Zw P w K mg base a.znk "at_hand" 2 ["self"] #[h,V1])(zs4:Z4 P w K mg base "takers" 4 ["people","match","out","ledger","rest"] (Ak K a.zno)):FnOk P w K mg base #[k] 5 f fd ["self","listed"] #[h,Np]:=by
 refine #[p,Wd];obtain⟨A',S,l,ts,ms,rfl,SA,hl,tl,hml,hpl,hsm,h⟩:=h;have hu:=Xu hr;refine⟨_,(Zb (pS 2 Wd.nd (X7 rfl (cT ["self"] [0]) (Yh (K:=K) rfl (Ym #[ad,Zu,0] T.zn4 zoa (hr.mono ⋯) Zk)) (fun _ _ _ _ _=>X5) fun _ _ _ _ _=>(Y0 #[ad,Zu,1] T.zn4 zpy (hr.mono ⋯) Ae (Za (pv 0) Zc))))
 (Zb (pS 3 Wd.nd (Ym (pv 0) T.znl znm (hr.mono ⋯) Zk))
 (Zb (pS 4 Wd.nd (X7 rfl (cT ["at","self"] [3,0]) (Yh (K:=K) rfl (Ym (Zu (K:=K) rfl (pv 0) rfl) T.zn4 zoa (hr.mono ⋯) Zk)) (fun _ _ _ _ _=>Ir (S4 (Pc hu (Z9 (Za (pv 1) (Za (pv 0) Zc))) #[ad,Zu,2]))) (fun _ _ _ _ _=>(pv 0))))
 (Zf (Zl (X7 rfl (cT ["people","out","self"] [2,4,0]) (Yh (K:=K) rfl (pv 1)) (fun _ _ _ _ _=>X5) (fun _ _ _ _ _=>(Af zs4 (hr.mono ⋯) Ae rfl (Za (pv 1) (Za (pv 0) (Za (pv 2) (Za #[ad,Zu,3] (Za #[ad,Zu,3] Zc))))))))))))),?_⟩
 obtain⟨⟨dx,v,a1,a2⟩,b,c,⟨kvs,d1,d2⟩,_⟩:=id SA;obtain⟨⟨dxr,kvr,hpr,hdr,en⟩,ndr⟩:=id b;refine⟨_,rfl,A'.p,a.znk,dx,_,_,rfl,a1,T.znl,T.zor,Wv,A'.pr,dxr,_,rfl,hpr,Xn.no ⋯,A'.pr,A'.dr,S.ppl,rfl,b,fun ln hln=>?_⟩;have s1:=Ze (o:=.lst (S.ppl.map fun x=>V.int x.1)) hln;have q1:upd H ln #[i,S.ppl.map,fun x=>V.int x.1] ln=some #[i,S.ppl.map,fun x=>V.int x.1]:=Zd;generalize upd H ln (.lst (S.ppl.map fun x=>V.int x.1))=H1 at s1 q1;have hnl:(S.ppl.map fun x=>V.int x.1).length=S.ppl.length:=by rw[zwm]
 refine⟨ln,rfl,⟨_,SqL.of q1⟩,Wf (K:=K) (xs:=S.ppl.map fun x=>V.int x.1) (fun i ys H'=>#[v]/\Same H1 H'/\TupL H' ys ((S.ppl.take i).map pV)/\ys.length=i) ⟨s1,Same.refl _,.nil,rfl⟩ (fun i ys H' _ ⟨_,z,_⟩=>#[Q,z,q1]) (szN ⋯) (fun i ys H' ⟨_,_,_,e⟩=>by omega) ?_ ?_⟩
 ·rintro i x ys H' hx ⟨sh,s1',tl',hyl⟩;have hi:i<S.ppl.length:=by have:=(zwo.mp hx).1;omega
  have hpi:S.ppl[i]?=some (S.ppl[i]'hi):=zwn hi;have etk:S.ppl.take (i+1)=S.ppl.take i++[S.ppl[i]'hi]:=zxk hi;have hmem:S.ppl[i]'hi∈S.ppl:=zxg hi;have ex:x=.int (S.ppl[i]'hi).1:=by rw[zwu,hpi] at hx;exact(Option.some.inj hx).symm
  generalize (S.ppl[i]'hi)=pp at hpi etk hmem ex;subst ex;unfold tYes;dsimp only;rw[#[f,rfl]];refine⟨_,rfl,A'.p,a.znk,dx,_,_,rfl,sh _ _ a1,T.znl,T.zor,Wv,A'.pr,dxr,_,rfl,sh _ _ hpr,Xn.no ⋯,_,rfl,A'.pr,A'.dr,S.ppl,pp.1,rfl,b.same sh,hsm pp hmem,fun z=>absurd (zwv.mpr ⟨pp,hmem,rfl⟩) z,fun g c' t H2 hm ht s2 _=>?_⟩;have epp:=zc5 b.nd hm hmem rfl;rw[epp] at ht;refine⟨sh.trans s2,s1'.trans s2,?_,by rw[zwp,hyl];rfl⟩;rw[etk,zwq];exact(tl'.same s2).snoc ht
 rintro ys H2 ⟨sh2,s12,tl2,hyl⟩ lp hlp;rw[hnl,zw3] at tl2;have s3:=sh2.trans (Ze (o:=.lst ys) hlp);have q3:upd H2 lp (.lst ys) lp=#[b,.lst,ys]:=Zd;have tl3:=tl2.same (Ze (o:=.lst ys) hlp);generalize upd H2 lp (.lst ys)=H3 at s3 q3 tl3;have SA3:=SA.same s3;refine⟨_,rfl,A'.p,dx,_,rfl,s3 _ _ a1,Yd ⋯,A',S,rfl,SA3,?_⟩;refine⟨_,rfl,A'.p,a.znk,dx,_,_,rfl,s3 _ _ a1,T.znl,T.zor,Wv,A'.pr,dxr,_,rfl,s3 _ _ hpr,Xn.no ⋯,A'.pr,A'.dr,S.ppl,rfl,b.same s3,fun ln4 hln4=>?_⟩;have s4:=Ze (o:=.lst (S.ppl.map fun x=>V.int x.1)) hln4;have q4:upd H3 ln4 #[i,S.ppl.map,fun x=>V.int x.1] ln4=some #[i,S.ppl.map,fun x=>V.int x.1]:=Zd;generalize upd H3 ln4 (.lst (S.ppl.map fun x=>V.int x.1))=H4 at s4 q4;refine⟨ln4,rfl,⟨_,SqL.of q4⟩,Wf (K:=K) (xs:=S.ppl.map fun x=>V.int x.1) (fun i ys H'=>Same H4 H'/\ys=((S.ppl.take i).filter (pIn S.out (atV S))).map fun x=>V.int x.1) #[y,Same.refl _] (fun i ys H' _ ⟨z,_⟩=>#[Q,z,q4]) (szN ⋯) (fun i ys H' ⟨_,e⟩=>by rw[e,zwm];exact zw6 (zxw _ _) (zxv _ _)) ?_ ?_⟩
 ·rintro i x zs H' hx ⟨s4',rfl⟩;have hi:i<S.ppl.length:=by have:=(zwo.mp hx).1;omega
  have hpi:S.ppl[i]?=some (S.ppl[i]'hi):=zwn hi;have etk:S.ppl.take (i+1)=S.ppl.take i++[S.ppl[i]'hi]:=zxk hi;have ex:x=.int (S.ppl[i]'hi).1:=by rw[zwu,hpi] at hx;exact(Option.some.inj hx).symm
  generalize (S.ppl[i]'hi)=pp at hpi etk ex;subst ex;refine⟨_,rfl,_,rfl,sz2,fun t ht=>?_⟩;have s5:=Ze (o:=.tup [.int (atV S),.int pp.1]) ht;have q5:upd H' t (.tup [.int (atV S),.int pp.1]) t=some (.tup (([inl (atV S),inl pp.1]:List Key).map kV)):=Zd;generalize upd H' t (.tup [.int (atV S),.int pp.1])=H5 at s5 q5;have sh5:=s3.trans (s4.trans (s4'.trans s5));refine⟨_,rfl,A'.p,a.znk,dx,_,_,rfl,sh5 _ _ a1,T.znl,T.zpx,Rw,A'.da,_,rfl,DGet.t (k:=[inl (atV S),inl pp.1]) (sh5 _ _ d1) q5,_,rfl,?_⟩;rw[d2.isSome];have e2:∀ ws,((S.ppl.take (i+1)).filter (pIn S.out (atV S))).map (fun x=>V.int x.1)=((S.ppl.take i).filter (pIn S.out (atV S))).map (fun x=>V.int x.1)++ws↔ws=if pIn S.out (atV S) pp then [V.int pp.1] else []:=fun ws=>by
   rw[etk,zyx,zwq,List.append_cancel_left_eq];cases q:pIn S.out (atV S) pp<;>simp[q,eq_comm]
  refine itB (fun hb=>?_) fun hb=>?_
  ·exact⟨_,rfl,s4'.trans s5,((e2 [V.int pp.1]).mpr (by rw[show pIn S.out (atV S) pp=true from hb];rfl)).symm⟩
  ·refine⟨s4'.trans s5,?_⟩;have:=(e2 []).mpr (by rw[show pIn S.out (atV S) pp=false from hb];rfl);rw[zyv] at this;exact this.symm
 rintro zs H5 ⟨s45,rfl⟩ lo hlo;rw[hnl,zw3];have s6:=s45.trans (Ze (o:=.lst (outV S)) hlo);have q6:upd H5 lo #[i,outV,S] lo=some #[i,outV,S]:=Zd;show Ws 4 (V.ref lo) _ (upd H5 lo #[i,outV,S]) _;generalize upd H5 lo (.lst (outV S))=H6 at s6 q6;have s36:=s4.trans s6;have s06:=s3.trans s36;have hl6:=s06 _ _ hl;have hts:ts.length=ms.length:=by rw[tl.length,zwm]
 refine⟨_,rfl,l,rfl,⟨_,SqL.of hl6⟩,Wf (K:=K) (xs:=ts) (fun i ys H'=>Same H6 H'/\∃ ls,ys=ls.map V.ref/\ILs H' ls ((mayS S ms).take i)/\ls.length=i/\∀ x∈ls,H x=none) ⟨Same.refl _,[],rfl,.nil,rfl,by simp⟩ (fun i ys H' _ ⟨z,_⟩=>#[Q,z,hl6]) (szN ⋯) (fun i ys H' ⟨_,ls,e1,_,e2,_⟩=>by rw[e1,zwm];omega) ?_ ?_⟩
 ·rintro i x ys' H' hx ⟨s6',ls,rfl,il,hll,hfr⟩;obtain⟨tm,m,rfl,hm,htm⟩:=Ot tl hx;have s0:=s06.trans s6';unfold tYes;dsimp only;rw[#[f,rfl]];refine⟨_,rfl,_,rfl,_,rfl,_,rfl,A'.p,a.znk,dx,_,_,rfl,s0 _ _ a1,T.znl,T.zo7,Uo,_,rfl,A'.p,a.znk,dx,_,_,rfl,s0 _ _ a1,T.znl,T.ztn,zik,lp,lo,tm,A'.pl,A'.lr,A'.ld,S.led,ys,S.ppl,outV S,m.1,m.2.1,m.2.2,S.rest,rfl,(s36.trans s6') _ _ q3,tl3.same (s36.trans s6'),s6' _ _ q6,zgv S,s0 _ _ htm,c.same s0,by omega,fun l2 H2 hl2 s2 f2=>?_⟩;rw[zks] at hl2;refine⟨s6'.trans s2,ls++[l2],by rw[zwq];rfl,?_,by rw[zwp,hll];rfl,fun y hy=>?_⟩
  ·have e:(mayS S ms).take (i+1)=(mayS S ms).take i++[Gh S m]:=by
    unfold mayS;rw[zxy,zwu,hm];rfl
   rw[e];exact(il.same s2).snoc hl2
  ·rcases zwy.mp hy with z|z
   ·exact hfr y z
   ·rw[zwt.mp z];exact s0.free f2
 ·rintro ys' H' ⟨s6',ls,rfl,il,hll,hfr⟩ l' hl';have hmy:(mayS S ms).length=ms.length:=by unfold mayS;rw[zwm]
  rw[hts,<- hmy,zw3] at il;have s0:=s06.trans s6';exact h l' ls _ Zd (il.same (Ze hl')) (s0.trans (Ze hl')) (s0.free hl') hfr
abbrev Sa:Stmt:=Z5 (top 55) 9
theorem Jw:#[r,#[aq],#[aq],Sa]:=fnS
theorem Jx(F:#[l,"enrol","Season.enrol",Sa])(T:#[o])(zn2:Zw P w K mg base a.znk "check_undrawn" 4 ["self"] #[h,Kc])(zoc:Zw P w K mg base a.znq "check_new" 2 #[aq] #[h,Nl])(znx:Zw P w K mg base a.znk "check_room" 1 ["self"] #[h,C0])(zoe:Zw P w K mg base a.znk "note" 1 ["self","word","number","at"] #[h,C2])(znm:Zw P w K mg base a.znk "at_hand" 2 ["self"] #[h,V1])(zrd:Zw P w K mg base a.znq "add" 3 #[aq] #[h,zgt]):FnOk P w K mg base #[k] 5 f fd #[aq] #[h,zc7]:=by
 refine #[p,Jw];obtain⟨A',S,n,g,c0,rfl,SA,sm,hz,hz2,h⟩:=h;refine⟨_,(Zb (Yb (Ym (pv 0) T.znl zn2 (hr.mono ⋯) Zk))
 (Zb (Yb (Y0 (Zu (K:=K) rfl (pv 0) rfl) T.zn4 zoc (hr.mono ⋯) Zk (Za (pv 1) (Za (pv 2) (Za (pv 3) Zc)))))
 (Zb (Yb (Ym (pv 0) T.znl znx (hr.mono ⋯) Zk))
 (Zb (Yb (Y0 (pv 0) T.znl zoe (hr.mono ⋯) Zk (Za Zn (Za (pv 1) (Za (Ym (pv 0) T.znl znm (hr.mono ⋯) Zk) Zc)))))
 (Zf (Yb (Y0 (Zu (K:=K) rfl (pv 0) rfl) T.zn4 zrd (hr.mono ⋯) Zk (Za (pv 1) (Za (pv 2) (Za (pv 3) Zc)))))))))),?_⟩
 obtain⟨⟨dx,v,a1,a2⟩,b,c,_⟩:=id SA;obtain⟨⟨dxr,kvr,hpr,hdr,en⟩,ndr⟩:=id b;refine⟨_,rfl,A'.p,dx,_,rfl,a1,Yd ⋯,A',S,rfl,SA,?_⟩;refine it2 h (fun _ z=>z) fun h1 h=>it2 h (fun _ z=>z) fun h2 h=>?_;refine⟨_,rfl,A'.p,a.znk,dx,_,_,rfl,a1,T.znl,T.zor,Wv,A'.pr,dxr,_,rfl,hpr,Xn.no ⋯,_,rfl,_,rfl,_,rfl,A'.pr,A'.dr,S.ppl,n,g,c0,rfl,b,sm,?_⟩;refine it2 h (fun _ z=>z) fun h3 h=>it2 h (fun _ z=>z) fun h4 h=>it2 h (fun _ z=>z) fun h5 h=>?_;refine⟨_,rfl,A'.p,dx,_,rfl,a1,Yd ⋯,A',S,rfl,SA,?_⟩;refine it2 h (fun _ z=>z) fun h6 h=>?_;refine⟨_,rfl,A'.p,dx,_,rfl,a1,Yd ⋯,_,rfl,_,rfl,A'.p,dx,_,rfl,a1,Yd ⋯,A',S,rfl,SA,A',S,"enrol",n,atV S,rfl,SA,hz,fun H1 SA1 f1=>?_⟩;obtain⟨⟨dx1,v1,a11,a12⟩,b1,c1,_⟩:=id SA1;obtain⟨⟨dxr1,kvr1,hpr1,hdr1,en1⟩,ndr1⟩:=id b1;refine⟨_,rfl,A'.p,a.znk,dx1,_,_,rfl,a11,T.znl,T.zor,Wv,A'.pr,dxr1,_,rfl,hpr1,Xn.no ⋯,_,rfl,_,rfl,_,rfl,A'.pr,A'.dr,S.ppl,n,g,c0,rfl,b1,sm,hz2,?_⟩;rw[#[c,h3],#[c,h4],#[c,h5]];intro H2 R2 k2;obtain⟨SA2,f2⟩:=SA1.setRos R2 k2;exact h H2 SA2 (f1.trans f2)
abbrev Uu:Stmt:=Z5 (top 55) 10
theorem Sx:#[r,["self","matches","listed"],["self","matches"],Uu]:=fnS
theorem M5(F:#[l,"draw_up","Season.draw_up",Uu])(T:#[o])(zn2:Zw P w K mg base a.znk "check_undrawn" 4 ["self"] #[h,Kc])(zsg:Z4 P w K mg base "checked" 3 ["matches"] (Gi K (ca a)))(znx:Zw P w K mg base a.znk "check_room" 1 ["self"] #[h,C0])(zoe:Zw P w K mg base a.znk "note" 1 ["self","word","number","at"] #[h,C2])(znm:Zw P w K mg base a.znk "at_hand" 2 ["self"] #[h,V1])(zqt:Z4 P w K mg base "drawn_sheet" 4 ["listed","lists"] #[h,zc3])(zob:Zw P w K mg base a.znk "takers_of" 5 ["self","listed"] #[h,Np])(zo4:Zw P w K mg base a.znp "goes" 1 ["self"] #[h,Gd]):FnOk P w K mg base #[k] 6 f fd ["self","matches"] (A4 K (ca a)):=by
 refine #[p,Sx];obtain⟨A',S,b,ts,ms,rfl,SA,hs,tl,sm,hml,hz,po,h⟩:=h;refine⟨_,(Zb (Yb (Ym (pv 0) T.znl zn2 (hr.mono ⋯) Zk))
 (Zb (pS 2 Sx.nd (pF zsg hr (Za (pv 1) Zc)))
 (Zb (Yb (Ym (pv 0) T.znl znx (hr.mono ⋯) Zk))
 (Zb (Yb (Y0 (pv 0) T.znl zoe (hr.mono ⋯) Zk (Za Zn (Za (Zm (cL K) (by rfl) T.znu PySem.boot_len (Za (pv 2) Zc)) (Za (Ym (pv 0) T.znl znm (hr.mono ⋯) Zk) Zc)))))
 (Zb (Xg (K:=K) rfl (pv 0) (pF zqt hr (Za (pv 2) (Za (Y0 (pv 0) T.znl zob (hr.mono ⋯) Zk (Za (pv 2) Zc)) Zc))) rfl)
 (Zf (Zl (Ym (Zu (K:=K) rfl (pv 0) rfl) T.znz zo4 (hr.mono ⋯) Zk)))))))),?_⟩
 obtain⟨⟨dx,v,a1,a2⟩,br,cl,_⟩:=id SA;have hts:ts.length=ms.length:=by rw[tl.length,zwm]
 refine⟨_,rfl,A'.p,dx,_,rfl,a1,Yd ⋯,A',S,rfl,SA,?_⟩;refine it2 h (fun _ z=>z) fun h1 h=>it2 h (fun _ z=>z) fun h2 h=>?_;refine⟨_,rfl,b,ts,ms,rfl,hs,tl,sm,hml,h.1,h.2.1,h.2.2.1,fun g1 g2 g3 l1 hl1=>?_⟩;have h4:=h.2.2.2 g1 g2 g3;have s1:=Ze (o:=.lst ts) hl1;have q1:upd H l1 (.lst ts) l1=#[b,.lst,ts]:=Zd;generalize upd H l1 (.lst ts)=H1 at s1 q1;have SA1:=SA.same s1;have a11:=s1 _ _ a1;refine⟨_,rfl,A'.p,dx,_,rfl,a11,Yd ⋯,A',S,rfl,SA1,?_⟩;refine Cn (fun z=>h4.1 z H1 s1) fun hroom=>?_;refine⟨_,rfl,A'.p,dx,_,rfl,a11,Yd ⋯,_,rfl,l1,_,rfl,#[C,q1],_,rfl,A'.p,dx,_,rfl,a11,Yd ⋯,A',S,rfl,SA1,A',S,"draw up",(ts.length:Nat),atV S,rfl,SA1,hz,fun H2 SA2 f2=>?_⟩;rw[hts] at SA2;have ok1:l1∉A'.fp:=SA.newOk l1 hl1;have q12:=f2 _ _ q1 ok1;have tl2:=(tl.same s1).mono (SA1.tups f2);obtain⟨⟨dx2,v2,a21,a22⟩,br2,_⟩:=id SA2;refine⟨_,rfl,_,rfl,A'.p,dx2,_,rfl,a21,Yd ⋯,_,rfl,A',_,l1,ts,ms,rfl,SA2,q12,tl2,by omega,zw6 po.2 ⋯,po.small,fun l2 ls H3 h3 il3 s3 f3 fl3=>?_⟩;have SA3:=SA2.same s3;have mo:K7 (mayS S ms) (S.ppl.map (·.1)):=po.may br2.nd g1;refine⟨(·∉A'.fp),l1,l2,ts,ls,ms,mayS S ms,_,rfl,s3 _ _ q12,tl2.same s3,h3,il3,ok1,SA2.newOk l2 f3,fun x hx=>SA2.newOk x (fl3 x hx),SA3.newOk,mo,fun q gv H4 ShA FP SP s4 fq=>?_⟩;have SA4:=SA3.same s4;obtain⟨⟨dx4,v4,a41,a42⟩,_⟩:=id SA4;refine⟨_,rfl,A'.p,a.znk,dx4,_,rfl,a41,T.znl,T.zoh,(by show 8<1000;decide),?_⟩;obtain⟨SA5,f5,Sh5⟩:=SA4.newSheet a41 ShA;generalize upd H4 A'.p (.ins a.znk dx4 (putF "sheet" (.ref q) (seaF A' S.len S.rest v4)))=H5 at SA5 f5 Sh5;obtain⟨⟨dx5,v5,a51,a52⟩,_⟩:=id SA5;obtain⟨q',rfl,Sq⟩:=a52;obtain⟨dxq,m1,m2,m3,m4,hq'⟩:=ShAt.ins Sq;refine⟨_,rfl,A'.p,a.znk,dx5,_,_,rfl,a51,T.znl,T.zoh,W4,q',dxq,_,rfl,hq',U5 ⋯ ⋯ ⋯ ⋯,(·∉A'.fp),q',_,rfl,Sq,fun l H6 hl s6 fl=>?_⟩;have fr5:FrS A' H H5:=(FrS.of A' s1).trans (f2.trans ((FrS.of A' (s3.trans s4)).trans f5));exact h4.2 ⋯ l gv H6 hl (SA5.same s6) FP SP (fr5.trans (FrS.of A' s6)) (fr5.free SA5 fl)
abbrev Rj:Stmt:=Z5 (top 55) 11
theorem Ff:#[r,["self","at","number"],["self","at","number"],Rj]:=fnS
theorem Fg(F:#[l,"away","Season.away",Rj])(T:#[o])(zns:Zw P w K mg base a.znk "check_round" 1 ["self","at"] #[h,Iy])(znv:Zw P w K mg base a.zno "over" 1 ["self"] (L6 a.zno))(znt:Zw P w K mg base a.znq "check_known" 1 #[Y] #[h,Tn])(znx:Zw P w K mg base a.znk "check_room" 1 ["self"] #[h,C0])(zoe:Zw P w K mg base a.znk "note" 1 ["self","word","number","at"] #[h,C2])(znm:Zw P w K mg base a.znk "at_hand" 2 ["self"] #[h,V1])(zpm:Zw P w K mg base a.znk "step_in" 6 #[Y] #[h,A5]):FnOk P w K mg base #[k] 7 f fd ["self","at","number"] #[h,zgy]:=by
 refine #[p,Ff];obtain⟨A',S,i,n,rfl,SA,si,sn,hz,hoz,po,hcur,h⟩:=h;have hu:=Xu hr;refine⟨_,(Zb (Yb (Y0 (pv 0) T.znl zns (hr.mono ⋯) Zk (Za (pv 1) Zc)))
 (Zb (Zy (Zp zff (pv 1) (Ym (Zu (K:=K) rfl (pv 0) rfl) T.zn9 znv (hr.mono ⋯) Zk) (Zr _))
  (Zf (Xj Xi rfl T.ztr rfl (Za (Vb (Z3 (Xv ⋯) (Z3 (Wz (pv 1)) (Z3 (Xv ⋯) Va))) ⋯) Zc)))
  Zq)
 (Zb (Yb (Y0 (Zu (K:=K) rfl (pv 0) rfl) T.zn4 znt (hr.mono ⋯) Zk (Za (pv 2) Zc)))
 (Zb (Zy (S4 (Pc hu (Z9 (Za (pv 1) (Za (pv 2) Zc))) (Zu (K:=K) rfl (pv 0) rfl)))
  (Zf (Xj Xi rfl T.zta rfl (Za (Vb (Z3 (Xv ⋯) (Z3 (Wz (pv 2)) (Z3 (Xv ⋯) (Z3 (Wz (pv 1)) (Z3 (Xv ⋯) Va))))) ⋯) Zc)))
  Zq)
 (Zb (Yb (Ym (pv 0) T.znl znx (hr.mono ⋯) Zk))
 (Zb (Yb (Y0 (pv 0) T.znl zoe (hr.mono ⋯) Zk (Za Zn (Za (pv 2) (Za (pv 1) Zc)))))
 (Zb (Yy hu (Zu (K:=K) rfl (pv 0) rfl) (Z9 (Za (pv 1) (Za (pv 2) Zc))) Xe rfl)
 (Zb (Zy (PW.pt (X3 (Zp Ui (pv 1) (Ym (pv 0) T.znl znm (hr.mono ⋯) Zk) (Zr _)) (Xt (Zp Pa (Zu (K:=K) rfl (pv 0) rfl) Y8 (Zr _)))))
  (Zf (Zl (Z2 Zc)))
  Zq)
 (Zf (Zl (Y0 (pv 0) T.znl zpm (hr.mono ⋯) Zk (Za (pv 2) Zc)))))))))))),?_⟩
 show let y1:TS:=_;let y2:TS:=Z1 _ y1;let y3:TS:=Z1 _ y2;let y4:TS:=Z1 _ y3;let y5:TS:=Z1 _ y4;let y6:TS:=Z1 _ y5;let y7:TS:=Z1 _ y6;let y8:TS:=Z1 _ y7;Z1 _ y8 _ _ _;intro y1 y2 y3 y4 y5 y6 y7 y8;obtain⟨⟨dx,v,a1,a2⟩,br,cl,⟨kvs,d1,d2⟩,_⟩:=id SA;obtain⟨⟨dxl,hpl⟩,_⟩:=id cl;obtain⟨⟨dxr,kvr,hpr,hdr,en⟩,ndr⟩:=id br;refine⟨_,rfl,A'.p,dx,_,rfl,a1,Yd ⋯,_,rfl,A',S,i,rfl,SA,si,?_⟩;refine it2 h (fun _ z=>z) fun h1 h=>?_;refine⟨_,rfl,_,rfl,A'.p,a.znk,dx,_,_,rfl,a1,T.znl,T.zo7,Uo,A'.pl,dxl,_,rfl,hpl,K6 ⋯ ⋯,A'.pl,A'.lr,A'.ld,S.led,rfl,cl,_,_,rfl,rfl,_,rfl,?_⟩;refine itD (fun hc=>?_) fun hc=>?_
 ·rw[#[f,hc]] at h;exact#[av,_,_,si,h]
 rw[#[c,hc]] at h;refine Zt ?_;refine⟨_,rfl,A'.p,a.znk,dx,_,_,rfl,a1,T.znl,T.zor,Wv,A'.pr,dxr,_,rfl,hpr,Xn.no ⋯,_,rfl,A'.pr,A'.dr,S.ppl,n,rfl,br,sn,?_⟩;refine it2 h (fun hk h=>?_) fun _ z=>z;refine⟨_,rfl,_,rfl,sz2,fun t ht=>?_⟩;have s1:=Ze (o:=.tup [.int i,.int n]) ht;have q1:upd H t (.tup #[M,i,n]) t=some (.tup (([inl i,inl n]:List Key).map kV)):=Zd;generalize upd H t (.tup [.int i,.int n])=H1 at s1 q1;have SA1:=SA.same s1;have a11:=s1 _ _ a1;refine⟨_,rfl,A'.p,a.znk,dx,_,_,rfl,a11,T.znl,T.zpx,Rw,A'.da,_,rfl,DGet.t (k:=[inl i,inl n]) (s1 _ _ d1) q1,_,rfl,?_⟩;rw[d2.isSome];refine itD (fun hm=>?_) fun hm=>?_
 ·rw[#[f,hm]] at h;exact⟨_,rfl,.inl ⟨_,rfl,sn⟩,_,rfl,.inl ⟨_,rfl,si⟩,fun z=>⟨sz1,h H1 s1⟩⟩
 rw[#[c,hm]] at h;refine Zt ?_;refine⟨_,rfl,A'.p,dx,_,rfl,a11,Yd ⋯,A',S,rfl,SA1,?_⟩;refine it2 h (fun _ z=>z H1 s1) fun h6 h=>?_;refine⟨_,rfl,A'.p,dx,_,rfl,a11,Yd ⋯,_,rfl,_,rfl,A',S,"away",n,i,rfl,SA1,hz,fun H2 SA2 f2=>?_⟩;obtain⟨⟨dx2,v2,a21,a22⟩,br2,cl2,⟨kvs2,d21,d22⟩,_⟩:=id SA2;refine⟨_,rfl,A'.p,a.znk,dx2,_,_,rfl,a21,T.znl,T.zpx,Rw,_,rfl,_,rfl,sz2,fun t2 ht2=>?_⟩;have s3:=Ze (o:=.tup [.int i,.int n]) ht2;have q3:upd H2 t2 (.tup #[M,i,n]) t2=some (.tup (([inl i,inl n]:List Key).map kV)):=Zd;generalize upd H2 t2 (.tup [.int i,.int n])=H3 at s3 q3;have SA3:=SA2.same s3;refine⟨A'.da,_,rfl,DPut.t (k:=[inl i,inl n]) (s3 _ _ d21) q3 (by have:=d22.2;have h9:kvs2.length<=S.out.length:=this;have:=Tv;omega),?_⟩;obtain⟨SA4,f4⟩:=SA3.setOut (out:=S.out++[(i,n)]) Zd (d22.put i n) (fun b o e hb=>by rw[Zh hb];exact e);generalize upd H3 A'.da (.dT (putK kvs2 [inl i,inl n] (.bl true)))=H4 at SA4 f4;have SA4:Zz (ca a) H4 A' (X6 S i n):=SA4;have fr4:FrS A' H H4:=(FrS.of A' s1).trans (f2.trans ((FrS.of A' s3).trans f4));obtain⟨⟨dx4,v4,a41,a42⟩,br4,_⟩:=id SA4;have empty:(S.cur=none\/atV S<i)->∀ l,H4 l=none->Q (.ref l) (upd H4 l (.lst [])):=fun hz l hl=>h.1 hz l _ Zd (SA4.same (Ze hl)) (fr4.trans (FrS.of A' (Ze hl))) (fr4.free SA4 hl);refine⟨_,rfl,_,rfl,A'.p,dx4,_,rfl,a41,Yd ⋯,A',_,rfl,SA4,_,_,rfl,rfl,_,rfl,?_⟩;refine itD (fun hgt=>?_) fun hle=>?_
 ·refine iteT ?_;exact#[ap,fun l hl=>empty (.inr hgt) l hl]
 have hat:i=atV S:=by
  have hle:¬ (atV S<i):=hle;unfold atV at hle ⊢;omega
 refine⟨_,rfl,A'.p,a.znk,dx4,_,_,rfl,a41,T.znl,T.zoh,W4,rfl,_,rfl,?_⟩;cases hc4:S.cur with
 | none =>
   have e4:v4=.non:=by
    have:ShO a.znp (·∉A'.fp) H4 v4 S.cur:=a42;rw[hc4] at this;exact this
   rw[e4];refine iteT ?_;exact#[ap,fun l hl=>empty (.inl hc4) l hl]
 | some s =>
   have e4:∃ q,v4=.ref q:=by
    have:ShO a.znp (·∉A'.fp) H4 v4 S.cur:=a42;rw[hc4] at this;obtain⟨q,e,_⟩:=this;exact⟨q,e⟩
   obtain⟨q4,rfl⟩:=e4;refine #[P];obtain⟨hm20,FP,emay,hgz⟩:=hcur s hc4;have po4:Sv (X6 S i n):=po;have hgl:s.gv.length<=100:=by rw[FP.len,emay];unfold mayS;rw[zwm];omega
   refine⟨_,rfl,A'.p,dx4,_,rfl,a41,Yd ⋯,_,rfl,A',X6 S i n,n,s,(X6 S i n).ppl.map (·.1),rfl,SA4,hc4,po4,hm20,FP.one,hgl,hgz,po4.may br4.nd hm20,fun hp l H5 hl SA5 f5 fl=>?_,fun p hp=>?_⟩
   ·exact h.2.1 s hat hc4 hp l H5 hl SA5 (fr4.trans f5) (fr4.free SA4 fl)
   ·have hgp:=Nr hp;refine⟨hgp,fun j hj=>FP.inj j p n hj hgp,?_,fun l us st e w' H5 hl tl CR SA5 f5 fl=>?_⟩
    ·rw[hat,Tw,<- emay];exact Tj FP hgp
    ·exact h.2.2 s p hat hc4 hp l us st e w' H5 hl tl CR SA5 (fr4.trans f5) (fr4.free SA4 fl)
abbrev Uv:Stmt:=Z5 (top 55) 12
theorem V9:#[r,["self","number","lists","fallen"],#[Y],Uv]:=fnS
theorem M6(F:#[l,"step_in","Season.step_in",Uv])(T:#[o])(zob:Zw P w K mg base a.znk "takers_of" 5 ["self","listed"] #[h,Np])(zok:Zw P w K mg base a.znp "matches" 1 ["self"] #[h,Pm])(zoy:Zw P w K mg base a.znp "where" 2 #[Y] #[h,Ka])(zp9:Zw P w K mg base a.znp "barred" 3 ["self","lists"] #[h,Au])(zpa:Zw P w K mg base a.znp "fallen_out" 3 ["self","number","lists"] #[h,Av])(zp8:Zw P w K mg base a.znp "chains" 1 ["self"] #[h,Gf]):FnOk P w K mg base #[k] 6 f fd #[Y] #[h,A5]:=by
 refine #[p,V9];obtain⟨A',S,n,s,nu,rfl,SA,hc,po,hml,ho,hgl,hgz,mo,h1,h2⟩:=h;refine⟨_,(Zb (pS 2 V9.nd (Y0 (pv 0) T.znl zob (hr.mono ⋯) Zk (Za (Ym #[ad,Zu,0] T.znz zok (hr.mono ⋯) Zk) Zc)))
 (Zb (Zy (Zp Pa (Y0 (Zu (K:=K) rfl (pv 0) rfl) T.znz zoy (hr.mono ⋯) Zk (Za (pv 1) Zc)) Y8 (Zr _))
  (Zb (Xg (K:=K) rfl (pv 0) (Y0 (Zu (K:=K) rfl (pv 0) rfl) T.znz zp9 (hr.mono ⋯) Zk (Za (pv 2) Zc)) rfl)
  (Zf (Zl (Z2 Zc))))
  Zq)
 (Zb (Xg (K:=K) rfl (pv 0) (Y0 (Zu (K:=K) rfl (pv 0) rfl) T.znz zpa (hr.mono ⋯) Zk (Za (pv 1) (Za (pv 2) Zc))) rfl)
 (Zb (pS 3 V9.nd (Ym (Zu (K:=K) rfl (pv 0) rfl) T.znz zp8 (hr.mono ⋯) Zk))
 (Zf (Zl (pI (iU K) (pI (iL K) (pv 3) (Td Vd Zg)) Zg))))))),?_⟩
 obtain⟨⟨dx,v,a1,a2⟩,br,cl,_⟩:=id SA;rw[hc] at a2;obtain⟨q,rfl,Sq⟩:=a2;obtain⟨dxq,m1,m2,m3,m4,hq⟩:=ShAt.ins Sq;refine⟨_,rfl,A'.p,dx,_,rfl,a1,Yd ⋯,_,rfl,A'.p,a.znk,dx,_,_,rfl,a1,T.znl,T.zoh,W4,q,dxq,_,rfl,hq,U5 ⋯ ⋯ ⋯ ⋯,(·∉A'.fp),q,s,rfl,Sq,fun l1 ts H1 hl1 tl s1 f1=>?_⟩;have SA1:=SA.same s1;refine⟨A',S,l1,ts,s.ms,rfl,SA1,hl1,tl,by omega,zw6 po.2 ⋯,po.small,fun l2 ls H2 h3 il3 s2 f3 fl3=>?_⟩;have s12:=s1.trans s2;have SA2:=SA1.same s2;have Sq2:=Sq.same s12;refine⟨_,rfl,A'.p,a.znk,dx,_,_,rfl,s12 _ _ a1,T.znl,T.zoh,W4,q,dxq,_,rfl,s12 _ _ hq,U5 ⋯ ⋯ ⋯ ⋯,_,rfl,(·∉A'.fp),q,s,n,rfl,Sq2,ho,hgl,fun H3 s3=>?_⟩;have s13:=s12.trans s3;have SA3:=SA2.same s3;have Sq3:=Sq2.same s3;have il4:=il3.same s3;refine⟨rfl,_,rfl,?_⟩;cases hp:W0 s.gv n with
 | none =>
   refine iteT ?_;refine⟨_,rfl,A'.p,a.znk,dx,_,_,rfl,s13 _ _ a1,T.znl,T.zoh,W4,q,dxq,_,rfl,s13 _ _ hq,U5 ⋯ ⋯ ⋯ ⋯,_,rfl,(·∉A'.fp),q,l2,ls,mayS S s.ms,s,rfl,Sq3,s3 _ _ h3,il4,SA1.newOk l2 f3,fun x hx=>SA1.newOk x (fl3 x hx),SA3.newOk,fun q' H4 ShA s4 fq=>?_⟩;have SA4:=SA3.same s4;obtain⟨⟨dx4,v4,a41,a42⟩,_⟩:=id SA4;refine⟨_,rfl,A'.p,a.znk,dx4,_,rfl,a41,T.znl,T.zoh,(by show 8<1000;decide),?_⟩;obtain⟨SA5,f5,Sh5⟩:=SA4.newSheet a41 ShA;generalize upd H4 A'.p (.ins a.znk dx4 (putF "sheet" (.ref q') (seaF A' S.len S.rest v4)))=H5 at SA5 f5 Sh5;have fr5:FrS A' H H5:=(FrS.of A' (s13.trans s4)).trans f5;refine#[ap,fun l hl=>?_];exact h1 hp l _ Zd (SA5.same (Ze hl)) (fr5.trans (FrS.of A' (Ze hl))) (fr5.free SA5 hl)
 | some p =>
   refine #[P];obtain⟨hgp,hun,FP,h3'⟩:=h2 p hp;refine⟨_,rfl,A'.p,a.znk,dx,_,_,rfl,s13 _ _ a1,T.znl,T.zoh,W4,q,dxq,_,rfl,s13 _ _ hq,U5 ⋯ ⋯ ⋯ ⋯,_,rfl,_,rfl,(·∉A'.fp),q,l2,ls,mayS S s.ms,nu,s,n,p,rfl,Sq3,s3 _ _ h3,il4,SA1.newOk l2 f3,fun x hx=>SA1.newOk x (fl3 x hx),SA3.newOk,mo,ho,hgp,hun,FP,by omega,fun q' st e w' H4 ShA CR s4 fq=>?_⟩;have SA4:=SA3.same s4;obtain⟨⟨dx4,v4,a41,a42⟩,_⟩:=id SA4;refine⟨_,rfl,A'.p,a.znk,dx4,_,rfl,a41,T.znl,T.zoh,(by show 8<1000;decide),?_⟩;obtain⟨SA5,f5,Sh5⟩:=SA4.newSheet a41 ShA;generalize upd H4 A'.p (.ins a.znk dx4 (putF "sheet" (.ref q') (seaF A' S.len S.rest v4)))=H5 at SA5 f5 Sh5;have fr5:FrS A' H H5:=(FrS.of A' (s13.trans s4)).trans f5;obtain⟨⟨dx5,v5,a51,a52⟩,_⟩:=id SA5;obtain⟨q5,rfl,Sq5⟩:=a52;obtain⟨dxq5,m51,m52,m53,m54,hq5⟩:=ShAt.ins Sq5;refine⟨_,rfl,A'.p,a.znk,dx5,_,_,rfl,a51,T.znl,T.zoh,W4,q5,dxq5,_,rfl,hq5,U5 ⋯ ⋯ ⋯ ⋯,(·∉A'.fp),q5,_,rfl,Sq5,by show (s.gaps++[(n,st)]).length<=1000;rw[zwp];show s.gaps.length+1<=1000;omega,fun l us H6 hl gl s6 fl=>?_⟩;obtain⟨vs',t,l',us',rfl,ht,hl',tl',ok',_⟩:=Wx.unsnoc gl;refine⟨_,rfl,_,rfl,l,_,_,_,rfl,rfl,SqL.of hl,atI_last,t,_,_,_,rfl,rfl,#[n,ht],rfl,?_⟩;exact h3' l' us' st e w' H6 hl' tl' CR (SA5.same s6) (fr5.trans (FrS.of A' s6)) (fr5.free SA5 ok')
abbrev Sb:Stmt:=Z5 (top 55) 13
theorem Qw:#[r,["self","sheet"],["self"],Sb]:=fnS
theorem Jy(F:#[l,"close","Season.close",Sb])(T:#[o])(zn0:Zw P w K mg base a.znk "check_not_over" 3 ["self"] #[h,Kb])(znr:Zw P w K mg base a.znk "sheet_at_hand" 1 ["self"] #[h,Qc])(zqb:Zw P w K mg base a.zno "write" 1 ["self","rows"] (As a.zno))(zq8:Zw P w K mg base a.znp "rows" 1 ["self"] #[h,Aw])(znv:Zw P w K mg base a.zno "over" 1 ["self"] (L6 a.zno)):FnOk P w K mg base #[k] 4 f fd ["self"] #[h,zc8]:=by
 refine #[p,Qw];obtain⟨A',S,rfl,SA,ht,hl,hol,hcur,h⟩:=h;refine⟨_,(Zb (Yb (Ym (pv 0) T.znl zn0 (hr.mono ⋯) Zk))
 (Zb (pS 1 Qw.nd (Ym (pv 0) T.znl znr (hr.mono ⋯) Zk))
 (Zb (Yb (Y0 (Zu (K:=K) rfl (pv 0) rfl) T.zn9 zqb (hr.mono ⋯) Zk (Za (Ym (pv 1) T.znz zq8 (hr.mono ⋯) Zk) Zc)))
 (Zb (Y3 (Zu (K:=K) rfl (pv 0) rfl) (pv 1))
 (Zb (Xg (K:=K) rfl (pv 0) Y8 rfl)
 (Zb (Xg (K:=K) rfl (pv 0) (Z2 Zc) rfl)
 (Zf (Zl (Ym (Zu (K:=K) rfl (pv 0) rfl) T.zn9 znv (hr.mono ⋯) Zk))))))))),?_⟩
 obtain⟨⟨dx,v,a1,a2⟩,br,cl,_⟩:=id SA;obtain⟨⟨dxl,hpl⟩,_⟩:=id cl;refine⟨_,rfl,A'.p,dx,_,rfl,a1,Yd ⋯,A',S,rfl,SA,?_⟩;refine it2 h (fun _ z=>z) fun h1 h=>?_;refine⟨_,rfl,A'.p,dx,_,rfl,a1,Yd ⋯,A',S,rfl,SA,h.1,fun s q hc Sq=>?_⟩;obtain⟨ho,hgl,hml⟩:=hcur s hc;obtain⟨dxq,m1,m2,m3,m4,hq⟩:=ShAt.ins Sq;refine⟨_,rfl,A'.p,a.znk,dx,_,_,rfl,a1,T.znl,T.zo7,Uo,A'.pl,dxl,_,rfl,hpl,K6 ⋯ ⋯,_,rfl,q,dxq,_,rfl,hq,U5 ⋯ ⋯ ⋯ ⋯,(·∉A'.fp),q,s,rfl,Sq,ho,hgl,hml,fun l1 ts H1 hl1 tl s1 f1=>?_⟩;have SA1:=SA.same s1;have ok1:l1∉A'.fp:=SA.newOk l1 f1;refine⟨A'.pl,A'.lr,A'.ld,S.led,l1,ts,Ya s,rfl,SA1.led,hl1,#[as,ok1],tl,by rw[Ax hgl];omega,hl,fun H2 L2' k2=>?_⟩;obtain⟨SA2,f2⟩:=SA1.setLed L2' k2;obtain⟨⟨dx2,v2,a21,a22⟩,br2,cl2,d2,⟨vs,f21,f22⟩,_⟩:=id SA2;have Sq2:=(Sq.same s1).keep (fun x o hx e=>f2 x o e hx) (SA1.tups f2);refine⟨_,rfl,A'.p,a.znk,dx2,_,_,rfl,a21,T.znl,T.zrq,Du,A'.ls,vs,rfl,f21,_,rfl,vs,f21,by have:=f22.length;have h9:vs.length=S.old.length:=this;have:=Tv;omega,?_⟩;have k3:∀ b o,H2 b=#[d]->b≠A'.ls->upd H2 A'.ls (.lst (vs++[.ref q])) b=#[d]:=fun b o e hb=>by rw[Zh hb];exact e
 have kt3:∀ t xs,H2 t=#[E,xs]->upd H2 A'.ls (.lst (vs++[.ref q])) t=#[E,xs]:=fun t xs e=>k3 t _ e (Yu e f21 (fun z=>nomatch z));have ko3:∀ x o,x∉A'.fp->H2 x=#[d]->upd H2 A'.ls (.lst (vs++[.ref q])) x=#[d]:=fun x o hx e=>k3 x o e #[as,hx];obtain⟨SA3,f3⟩:=SA2.setOld (old:=S.old++[s]) Zd ((f22.keep ko3 kt3).snoc (Sq2.keep ko3 kt3)) k3;generalize upd H2 A'.ls (.lst (vs++[.ref q]))=H3 at SA3 f3;obtain⟨⟨dx3,v3,a31,a32⟩,_⟩:=id SA3;refine⟨_,rfl,A'.p,a.znk,dx3,_,rfl,a31,T.znl,T.zoh,(by show 8<1000;decide),?_⟩;obtain⟨SA4,f4⟩:=SA3.setCur (H':=upd H3 A'.p (.ins a.znk dx3 (putF "sheet" .non (seaF A' S.len S.rest v3)))) (cur:=none) (v:=.non) ⟨dx3,by rw[Zd];exact congrArg (fun x=>some (HO.ins a.znk dx3 x)) Nq⟩ rfl (fun b o e hb=>by rw[Zh hb];exact e);generalize upd H3 A'.p (.ins a.znk dx3 (putF "sheet" .non (seaF A' S.len S.rest v3)))=H4 at SA4 f4;obtain⟨⟨dx4,v4,a41,a42⟩,_⟩:=id SA4;refine#[ap,fun x hx=>?_];have npx:A'.p≠x:=Zi a41 hx;refine⟨_,rfl,A'.p,a.znk,dx4,_,rfl,(by rw[Zh npx];exact a41),T.znl,T.zot,(by show 8<1000;decide),?_⟩;obtain⟨SA5,f5⟩:=SA4.freshStd hx a41 a42 rfl;have fr4:FrS A' H H4:=(FrS.of A' s1).trans (f2.trans (f3.trans f4));have fx:H x=none:=fr4.free SA4 hx;generalize upd (upd H4 x (.lst [])) A'.p (.ins a.znk dx4 (putF "standing" (.ref x) (seaF A' S.len S.rest v4)))=H5 at SA5 f5;have SA5:Zz (ca a) H5 { A' with lt:=x } (C3 S s):=SA5;obtain⟨⟨dx5,v5,a51,a52⟩,br5,cl5,_⟩:=id SA5;obtain⟨⟨dxl5,hpl5⟩,_⟩:=id cl5;refine⟨_,rfl,A'.p,a.znk,dx5,_,_,rfl,a51,T.znl,T.zo7,Uo,A'.pl,dxl5,_,rfl,hpl5,K6 ⋯ ⋯,A'.pl,A'.lr,A'.ld,S.led++[Ya s],rfl,cl5,?_⟩;have hfin:=h.2 s x H5 hc SA5 (fr4.trans f5) fx;have e:(((S.led++[Ya s]).length:Nat):Int)=atV S:=by rw[zwp];rfl
 rw[e];exact hfin
abbrev Vu:Stmt:=Z5 (top 55) 14
theorem Vi:#[r,["self","last","deed"],["self"],Vu]:=fnS
theorem O1(F:#[l,"take_back","Season.take_back",Vu])(T:#[o])(zp0:Zw P w K mg base a.znq "strike" 1 #[Y] #[h,Ap]):FnOk P w K mg base #[k] 2 f fd ["self"] #[h,Gk]:=by
 refine #[p,Vi];obtain⟨A',S,rfl,SA,h1,h2⟩:=h;have hu:=Xu hr;refine⟨_,(Zb (Zy (Xa (De (K:=K) rfl #[ad,Zu,0] fun _=>rfl))
  (Zf (Xj Xi rfl T.zrt rfl (Za Zn Zc)))
  Zq)
 (Zb (pS 1 Vi.nd (zfw PySem.F.plainAttrs_list PySem.F.slot_list_pop PySem.F.type_list_pop zj3 (Zu (K:=K) rfl (pv 0) rfl)))
 (Zb (pS 2 Vi.nd (pI (iU K) (pv 1) Zg))
 (Zb (Xg (K:=K) rfl (pv 0) (pI (iU K) (pv 1) Zg) rfl)
 (Zb (Zy (Zp Y6 (pI (iU K) (pv 2) Zg) Zn (Zr _))
  (Zf (Yb (Y0 (Zu (K:=K) rfl (pv 0) rfl) T.zn4 zp0 (hr.mono ⋯) Zk (Za (pI (iU K) (pv 2) Zg) Zc))))
  Zq)
 (Zb (Zy (Zp Y6 (pI (iU K) (pv 2) Zg) Zn (Zr _))
  (Zf (Yb (zgs hu (Zu (K:=K) rfl (pv 0) rfl) (Z9 (Za (pI (iU K) (pv 2) Zg) (Za (pI (iU K) (pv 2) Zg) Zc))) ⟨rfl,rfl,rfl,rfl⟩)))
  Zq)
 (Zf (Zl (pv 2))))))))),?_⟩
 show let y1:TS:=_;let y2:TS:=Z1 _ y1;let y3:TS:=Z1 _ y2;let y4:TS:=Z1 _ y3;let y5:TS:=Z1 _ y4;let y6:TS:=Z1 _ y5;Z1 _ y6 _ _ _;intro y1 y2 y3 y4 y5 y6;obtain⟨⟨dx,v,a1,a2⟩,br,cl,d0,f0,⟨us,g1,g2⟩,_⟩:=id SA;refine⟨_,rfl,A'.p,a.znk,dx,_,_,rfl,a1,T.znl,T.zot,U3,_,.inl ⟨_,SqL.of g1,rfl⟩,?_⟩;have hul:=g2.length;rcases List.eq_nil_or_concat S.std with hn|⟨std',⟨d,s⟩,he⟩
 ·rw[hn] at hul;have hu0:us=[]:=List.length_eq_zero_iff.mp hul;rw[hu0];exact iteT ⟨sz1,h1 hn⟩
 have he:S.std=std'++[(d,s)]:=by rw[he,List.concat_eq_append]
 rw[he] at g2;obtain⟨vs',t,u,v',rfl,ht,hu',hs,g3⟩:=Uh.unsnoc g2;have hne:(vs'++[V.ref t]).isEmpty=false:=by cases vs'<;>rfl
 rw[hne];refine #[P];obtain⟨ppl,out,hbk,hfin⟩:=h2 std' d s he;refine⟨_,rfl,A'.p,a.znk,dx,_,_,rfl,a1,T.znl,T.zot,U3,.inl ⟨rfl,_,SqL.of g1⟩,A'.lt,_,V.ref t,rfl,rfl,g1,by simp,?_⟩;rw[List.dropLast_concat];have k1:∀ b o,H b=#[d]->b≠A'.lt->upd H A'.lt (.lst vs') b=#[d]:=fun b o e hb=>by rw[Zh hb];exact e
 have kt1:∀ t xs,H t=#[E,xs]->upd H A'.lt (.lst vs') t=#[E,xs]:=fun t xs e=>k1 t _ e (Yu e g1 (fun z=>nomatch z));have ko1:∀ x o,x∉A'.fp->H x=#[d]->upd H A'.lt (.lst vs') x=#[d]:=fun x o hx e=>k1 x o e #[as,hx];obtain⟨SA1,f1⟩:=SA.setStd (std:=std') Zd (g3.keep ko1 kt1) k1;have ht1:=kt1 _ _ ht;have hu1:=kt1 _ _ hu';have hs1:=hs.keep ko1 kt1;generalize upd H A'.lt (.lst vs')=H1 at SA1 f1 ht1 hu1 hs1;refine⟨_,rfl,t,_,_,_,rfl,rfl,#[n,ht1],rfl,?_⟩;obtain⟨⟨dx1,v1,a11,a12⟩,_⟩:=id SA1;refine⟨_,rfl,t,_,_,_,rfl,rfl,#[n,ht1],rfl,_,rfl,A'.p,a.znk,dx1,_,rfl,a11,T.znl,T.zoh,(by show 8<1000;decide),?_⟩;have k2:∀ b o,H1 b=#[d]->b≠A'.p->upd H1 A'.p (.ins a.znk dx1 (putF "sheet" v' (seaF A' S.len S.rest v1))) b=#[d]:=fun b o e hb=>by rw[Zh hb];exact e
 have kt2:∀ t xs,H1 t=#[E,xs]->upd H1 A'.p (.ins a.znk dx1 (putF "sheet" v' (seaF A' S.len S.rest v1))) t=#[E,xs]:=fun t xs e=>k2 t _ e (Yu e a11 (fun z=>nomatch z));obtain⟨SA2,f2⟩:=SA1.setCur (cur:=s) (v:=v') ⟨dx1,by rw[Zd];exact congrArg (fun x=>some (HO.ins a.znk dx1 x)) Nq⟩ (hs1.keep (fun x o hx e=>k2 x o e #[as,hx]) kt2) k2;have hu2:=kt2 _ _ hu1;generalize upd H1 A'.p (.ins a.znk dx1 (putF "sheet" v' (seaF A' S.len S.rest v1)))=H2 at SA2 f2 hu2;have fr2:=f1.trans f2;have d0:atI (W3 d) 0=#[b,.str,d.1]:=rfl;have d1:atI (W3 d) 1=#[b,.int,d.2.1]:=rfl;have d2:atI (W3 d) 2=#[b,.int,d.2.2]:=rfl;have es:∀ w:Str,#[g,V.str d.1=V.str w]=decide (d.1=w):=fun w=>by
  by_cases z:d.1=w
  ·rw[zws z,zws (congrArg V.str z)]
  ·rw[zwx z,zwx fun q=>z (V.str.inj q)]
 walk_at "if";refine Yf ?_;refine⟨_,rfl,u,_,_,_,rfl,rfl,#[n,hu2],d0,rfl,_,rfl,?_⟩;rw[es];obtain⟨⟨dx2,v2,a21,a22⟩,br2,cl2,⟨kvs2,e21,e22⟩,_⟩:=id SA2;have n1:¬ (("enrol":Str)="away"):=by decide +kernel
 have n2:¬ (("draw up":Str)="away"):=by decide +kernel
 have n3:¬ (("draw up":Str)="enrol"):=by decide +kernel
 have n4:¬ (("away":Str)="enrol"):=by decide +kernel
 rcases hbk with ⟨hd,⟨g,c0,hp⟩,ho⟩|⟨hd,hp,ho,hno⟩|⟨hd,hp,ho⟩
 ·rw[zws hd];refine iteT ?_;obtain⟨⟨dxr,kvr,hpr,hdr,en⟩,ndr⟩:=id br2;refine⟨_,rfl,A'.p,a.znk,dx2,_,_,rfl,a21,T.znl,T.zor,Wv,A'.pr,dxr,_,rfl,hpr,Xn.no ⋯,_,rfl,u,_,_,_,rfl,rfl,#[n,hu2],d1,A'.pr,A'.dr,ppl,d.2.1,g,c0,rfl,(show Xn a.znq H2 A'.pr A'.dr (ppl++[(d.2.1,g,c0)]) by have:Xn a.znq H2 A'.pr A'.dr S.ppl:=br2;rw[hp] at this;exact this),fun H3 R3 k3=>?_⟩;obtain⟨SA3,f3⟩:=SA2.setRos R3 k3;have hu3:=SA2.tups f3 _ _ hu2;refine⟨_,rfl,u,_,_,_,rfl,rfl,#[n,hu3],d0,rfl,_,rfl,?_⟩;rw[es,zwx (by rw[hd];exact n1)];refine iteF (Zt #[w,_,?_]);refine hfin u H3 hu3 ?_ (fr2.trans f3);rw[ho];exact SA3
 ·rw[zwx (by rw[hd];exact n4)];refine #[P];refine⟨_,rfl,u,_,_,_,rfl,rfl,#[n,hu2],d0,rfl,_,rfl,?_⟩;rw[es,zws hd];refine iteT ?_;refine⟨_,rfl,A'.p,a.znk,dx2,_,_,rfl,a21,T.znl,T.zpx,Rw,A'.da,rfl,.inr ⟨kvs2,.inl e21⟩,_,rfl,u,_,_,_,rfl,rfl,#[n,hu2],d2,_,rfl,u,_,_,_,rfl,rfl,#[n,hu2],d1,sz2,fun tk htk=>?_⟩;have s3:=Ze (o:=.tup [.int d.2.2,.int d.2.1]) htk;have q3:upd H2 tk (.tup #[M,d.2.2,d.2.1]) tk=some (.tup (([inl d.2.2,inl d.2.1]:List Key).map kV)):=Zd;generalize upd H2 tk (.tup [.int d.2.2,.int d.2.1])=H3 at s3 q3;have SA3:=SA2.same s3;have e22:Pk kvs2 S.out:=e22;rw[ho] at e22;have hv:∃ vv,valV kvs2 [inl d.2.2,inl d.2.1]=some vv:=zx4.mp (by rw[e22.1,zws (by simp)]);obtain⟨vv,hv⟩:=hv;refine⟨kvs2,[inl d.2.2,inl d.2.1],tk,vv,s3 _ _ e21,rfl,q3,hv,?_⟩;obtain⟨SA4,f4⟩:=SA3.setOut (out:=out) Zd (e22.drop hno) (fun b o e hb=>by rw[Zh hb];exact e);have hu4:=SA3.tups f4 _ _ (s3 _ _ hu2);refine#[w,_,hfin u _ hu4 ?_ (fr2.trans ((FrS.of A' s3).trans f4))];rw[hp];exact SA4
 ·rw[zwx (by rw[hd];exact n3)];refine #[P];refine⟨_,rfl,u,_,_,_,rfl,rfl,#[n,hu2],d0,rfl,_,rfl,?_⟩;rw[es,zwx (by rw[hd];exact n2)];refine iteF (Zt #[w,_,hfin u H2 hu2 ?_ fr2]);rw[hp,ho];exact SA2
abbrev Uw:Stmt:=Z5 (top 55) 15
theorem M7:#[al,Uw]:=fnS
theorem M8(F:#[l,"at_hand","Season.at_hand",Uw])(T:#[o])(znv:Zw P w K mg base a.zno "over" 1 ["self"] (L6 a.zno)):FnOk P w K mg base #[k] 2 f fd ["self"] #[h,V1]:=by
 refine #[p,M7];obtain⟨A',S,rfl,SA,h⟩:=h;refine⟨_,Zf (Zl (Zs Yo (Ym #[ad,Zu,0] T.zn9 znv (hr.mono ⋯) Zk) Zg)),?_⟩;obtain⟨⟨dx,v,a1,a2⟩,b,c,_⟩:=id SA;obtain⟨⟨dxl,hpl⟩,_⟩:=id c;refine⟨_,rfl,A'.p,a.znk,dx,_,_,rfl,a1,T.znl,T.zo7,Uo,A'.pl,dxl,_,rfl,hpl,K6 ⋯ ⋯,A'.pl,A'.lr,A'.ld,S.led,rfl,c,_,_,rfl,rfl,?_⟩;exact h
abbrev Sd:Stmt:=Z5 (top 55) 16
theorem Jz:#[al,Sd]:=fnS
theorem J0(F:#[l,"deeds","Season.deeds",Sd])(T:#[o]):FnOk P w K mg base #[k] 1 f fd ["self"] #[h,C4]:=by
 refine #[p,Jz];obtain⟨A',S,rfl,SA,hz,h⟩:=h;have hu:=Xu hr;refine#[aF,_,Zl,Ga,rfl,Mq.mk (xo:=["deed","sheet"]) (ys:=[]) (js:=[]) rfl rfl,rfl,Yh (K:=K) rfl #[ad,Zu,0],fun _ _ _ _ _=>(Xm (K:=K) (n:=2) rfl rfl (Zv (Tf (i:=0) (show List.Nodup [("deed":Str),("sheet":Str)] by decide +kernel) rfl (by first|exact Or.inl rfl|exact Or.inr rfl)) (Zv (Tf (i:=1) (show List.Nodup [("deed":Str),("sheet":Str)] by decide +kernel) rfl (by first|exact Or.inl rfl|exact Or.inr rfl)) Xl))),pv 0];obtain⟨⟨dx,v,a1,a2⟩,br,cl,d0,f0,⟨us,g1,g2⟩,_⟩:=id SA;have hul:=g2.length;refine⟨_,rfl,A'.p,a.znk,dx,_,_,rfl,a1,T.znl,T.zot,U3,A'.lt,rfl,⟨_,SqL.of g1⟩,?_⟩;refine Gg (K:=K) (xs:=us) (fun i ys H'=>H'=H/\TupL H ys ((S.std.take i).map fun x=>W3 x.1)/\ys.length=i) ⟨rfl,.nil,rfl⟩ (fun i ys H' _ ⟨e,_⟩=>by rw[e];exact SqL.of g1) (szN ⋯) (fun i ys H' ⟨_,_,e⟩=>by omega) ?_ ?_
 ·rintro i x ys H' hx ⟨rfl,tl,hyl⟩;obtain⟨t,u,v',d,s,rfl,hgi,ht,hu'⟩:=g2.get hx;refine⟨t,_,rfl,#[n,ht],rfl,_,_,rfl,_,_,rfl,rfl,#[w,[#[e,u],some v'],rfl],?_⟩;unfold tYes;dsimp only;rw[#[f,rfl]];refine⟨_,rfl,rfl,?_,by rw[zwp,hyl];rfl⟩;have e:S.std.take (i+1)=S.std.take i++[(d,s)]:=by rw[zxy,hgi];rfl
  rw[e,zwq];exact tl.snoc hu'
 ·rintro ys H' ⟨rfl,tl,hyl⟩ l hl;rw[hul,zw3] at tl;exact h l ys _ Zd (tl.same (Ze hl)) (Ze hl) hl
abbrev Ua:Stmt:=Z5 (top 55) 17
theorem N8:#[al,Ua]:=fnS
theorem N9(F:#[l,"referees","Season.referees",Ua])(T:#[o])(zoa:Zw P w K mg base a.znq "numbers" 1 ["self"] #[h,Nm]):FnOk P w K mg base #[k] 2 f fd ["self"] #[h,Gm]:=by
 refine #[p,N8];obtain⟨A',S,rfl,SA,h⟩:=h;refine⟨_,Zf (Zl (Ym #[ad,Zu,0] T.zn4 zoa (hr.mono ⋯) Zk)),?_⟩;obtain⟨⟨dx,v,a1,a2⟩,br,cl,_⟩:=id SA;obtain⟨⟨dxr,kvr,hpr,hdr,en⟩,ndr⟩:=id br;exact⟨_,rfl,A'.p,a.znk,dx,_,_,rfl,a1,T.znl,T.zor,Wv,A'.pr,dxr,_,rfl,hpr,Xn.no ⋯,A'.pr,A'.dr,S.ppl,rfl,br,fun l hl=>h l _ Zd (Ze hl) hl⟩
abbrev Ux:Stmt:=Z5 (top 55) 18
theorem M9:#[r,#[Y],#[Y],Ux]:=fnS
theorem Lb(F:#[l,"referee","Season.referee",Ux])(T:#[o])(zoq:Zw P w K mg base a.znq "entry" 2 #[Y] #[h,Gb]):FnOk P w K mg base #[k] 3 f fd #[Y] #[h,Dx]:=by
 refine #[p,M9];obtain⟨A',S,n,rfl,SA,sn,h1,h2⟩:=h;refine⟨_,Zf (Zl (Y0 #[ad,Zu,0] T.zn4 zoq (hr.mono ⋯) Zk (Za (pv 1) Zc))),?_⟩;obtain⟨⟨dx,v,a1,a2⟩,br,cl,_⟩:=id SA;obtain⟨⟨dxr,kvr,hpr,hdr,en⟩,ndr⟩:=id br;exact⟨_,rfl,A'.p,a.znk,dx,_,_,rfl,a1,T.znl,T.zor,Wv,A'.pr,dxr,_,rfl,hpr,Xn.no ⋯,_,rfl,A'.pr,A'.dr,S.ppl,n,rfl,br,sn,h1,fun g c t q ht=>h2 g c t q ht⟩
abbrev Uy:Stmt:=Z5 (top 55) 19
theorem Lc:#[r,["self","at","number"],["self","at","number"],Uy]:=fnS
theorem Ld(F:#[l,"is_away","Season.is_away",Uy])(T:#[o])(zns:Zw P w K mg base a.znk "check_round" 1 ["self","at"] #[h,Iy])(znt:Zw P w K mg base a.znq "check_known" 1 #[Y] #[h,Tn]):FnOk P w K mg base #[k] 2 f fd ["self","at","number"] #[h,A6]:=by
 refine #[p,Lc];obtain⟨A',S,i,n,rfl,SA,si,sn,h⟩:=h;have hu:=Xu hr;refine⟨_,(Zb (Yb (Y0 (pv 0) T.znl zns (hr.mono ⋯) Zk (Za (pv 1) Zc)))
 (Zb (Yb (Y0 (Zu (K:=K) rfl (pv 0) rfl) T.zn4 znt (hr.mono ⋯) Zk (Za (pv 2) Zc)))
 (Zf (Zl (zjg (Pc hu (Z9 (Za (pv 1) (Za (pv 2) Zc))) (Zu (K:=K) rfl (pv 0) rfl))))))),?_⟩
 obtain⟨⟨dx,v,a1,a2⟩,br,cl,⟨kvs,d1,d2⟩,_⟩:=id SA;obtain⟨⟨dxr,kvr,hpr,hdr,en⟩,ndr⟩:=id br;refine⟨_,rfl,A'.p,dx,_,rfl,a1,Yd ⋯,_,rfl,A',S,i,rfl,SA,si,?_⟩;refine it2 h (fun _ z=>z) fun h1 h=>?_;refine⟨_,rfl,A'.p,a.znk,dx,_,_,rfl,a1,T.znl,T.zor,Wv,A'.pr,dxr,_,rfl,hpr,Xn.no ⋯,_,rfl,A'.pr,A'.dr,S.ppl,n,rfl,br,sn,?_⟩;refine it2 h (fun hk h=>?_) fun _ z=>z;refine⟨_,rfl,_,rfl,sz2,fun t ht=>?_⟩;have s1:=Ze (o:=.tup [.int i,.int n]) ht;have q1:upd H t (.tup #[M,i,n]) t=some (.tup (([inl i,inl n]:List Key).map kV)):=Zd;generalize upd H t (.tup [.int i,.int n])=H1 at s1 q1;refine⟨_,rfl,A'.p,a.znk,dx,_,_,rfl,s1 _ _ a1,T.znl,T.zpx,Rw,A'.da,_,rfl,DGet.t (k:=[inl i,inl n]) (s1 _ _ d1) q1,?_⟩;rw[d2.isSome];exact h H1 s1
abbrev Uz:Stmt:=Z5 (top 55) 20
theorem Le:#[r,["self","at"],["self","at"],Uz]:=fnS
theorem Lg(F:#[l,"matches","Season.matches",Uz])(T:#[o])(zof:Zw P w K mg base a.znk "sheet_of" 3 ["self","at"] #[h,Kd])(zok:Zw P w K mg base a.znp "matches" 1 ["self"] #[h,Pm]):FnOk P w K mg base #[k] 4 f fd ["self","at"] #[h,Dy]:=by
 refine #[p,Le];obtain⟨A',S,i,rfl,SA,hr0⟩:=h;refine⟨_,Zf (Zl (Ym (Y0 (pv 0) T.znl zof (hr.mono ⋯) Zk (Za (pv 1) Zc)) T.znz zok (hr.mono ⋯) Zk)),?_⟩;obtain⟨si,hol,h⟩:=hr0;obtain⟨⟨dx,v,a1,a2⟩,_⟩:=id SA;refine⟨_,rfl,A'.p,dx,_,rfl,a1,Yd ⋯,_,rfl,A',S,i,rfl,SA,si,hol,it2 h (fun _ z=>z) fun hn h=>⟨h.1,fun s q hs Sq=>?_⟩⟩;obtain⟨dxq,m1,m2,m3,m4,hq⟩:=ShAt.ins Sq;exact⟨q,dxq,_,rfl,hq,U5 ⋯ ⋯ ⋯ ⋯,(·∉A'.fp),q,s,rfl,Sq,fun l ts H' a b c d=>h.2 s hs l ts H' a b c d⟩
abbrev Rk:Stmt:=Z5 (top 55) 21
theorem Fh:#[r,["self","at"],["self","at"],Rk]:=fnS
theorem Fi(F:#[l,"goes","Season.goes",Rk])(T:#[o])(zof:Zw P w K mg base a.znk "sheet_of" 3 ["self","at"] #[h,Kd])(zo4:Zw P w K mg base a.znp "goes" 1 ["self"] #[h,Gd]):FnOk P w K mg base #[k] 4 f fd ["self","at"] #[h,zbr]:=by
 refine #[p,Fh];obtain⟨A',S,i,rfl,SA,hr0⟩:=h;refine⟨_,Zf (Zl (Ym (Y0 (pv 0) T.znl zof (hr.mono ⋯) Zk (Za (pv 1) Zc)) T.znz zo4 (hr.mono ⋯) Zk)),?_⟩;obtain⟨si,hol,h⟩:=hr0;obtain⟨⟨dx,v,a1,a2⟩,_⟩:=id SA;refine⟨_,rfl,A'.p,dx,_,rfl,a1,Yd ⋯,_,rfl,A',S,i,rfl,SA,si,hol,it2 h (fun _ z=>z) fun hn h=>⟨h.1,fun s q hs Sq=>?_⟩⟩;obtain⟨dxq,m1,m2,m3,m4,hq⟩:=ShAt.ins Sq;exact⟨q,dxq,_,rfl,hq,U5 ⋯ ⋯ ⋯ ⋯,(·∉A'.fp),q,s,rfl,Sq,fun l H' a b c=>h.2 s hs l H' a b c⟩
abbrev Qn:Stmt:=Z5 (top 55) 26
theorem Em:#[r,["self","place"],["self","place"],Qn]:=fnS
theorem En(F:#[l,"may","Season.may",Qn])(T:#[o])(znr:Zw P w K mg base a.znk "sheet_at_hand" 1 ["self"] #[h,Qc])(zrj:Zw P w K mg base a.znp "may" 2 ["self","place"] #[h,zc4]):FnOk P w K mg base #[k] 3 f fd ["self","place"] #[h,zja]:=by
 refine #[p,Em];obtain⟨A',S,i,rfl,SA,si,h1,h2⟩:=h;refine⟨_,Zf (Zl (Y0 (Ym (pv 0) T.znl znr (hr.mono ⋯) Zk) T.znz zrj (hr.mono ⋯) Zk (Za (pv 1) Zc))),?_⟩;obtain⟨⟨dx,v,a1,a2⟩,_⟩:=id SA;refine⟨_,rfl,A'.p,dx,_,rfl,a1,Yd ⋯,A',S,rfl,SA,h1,fun s q hs Sq=>?_⟩;obtain⟨dxq,m1,m2,m3,m4,hq⟩:=ShAt.ins Sq;obtain⟨k1,k2,k3⟩:=h2 s hs;exact⟨q,dxq,_,rfl,hq,U5 ⋯ ⋯ ⋯ ⋯,_,rfl,(·∉A'.fp),q,s,i,rfl,Sq,si,k1,k2,fun k r e1 e2 l H' a b c=>k3 k r e1 e2 l H' a b c⟩
abbrev Se:Stmt:=Z5 (top 55) 28
theorem J1:#[al,Se]:=fnS
theorem J2(F:#[l,"facts","Season.facts",Se])(T:#[o])(znm:Zw P w K mg base a.znk "at_hand" 2 ["self"] #[h,V1])(zqk:Zw P w K mg base a.zno "facts" 1 ["self","at"] (zcw a.zno a.zod)):FnOk P w K mg base #[k] 3 f fd ["self"] #[h,D4]:=by
 refine #[p,J1];obtain⟨A',S,rfl,SA,hl,h⟩:=h;refine⟨_,Zf (Zl (X7 rfl (cT ["self"] [0]) (Lo rfl T.zog (Za Zg (Za (Ym (pv 0) T.znl znm (hr.mono ⋯) Zk) Zc))) (fun _ _ _ _ _=>X5) fun _ _ _ _ _=>(Y0 #[ad,Zu,1] T.zn9 zqk (hr.mono ⋯) Ae (Za (pv 0) Zc)))),?_⟩;obtain⟨⟨dx,v,a1,a2⟩,b,c,_⟩:=id SA;obtain⟨⟨dxl,lp⟩,_⟩:=id c;have eat:(atV S-1).toNat=S.led.length:=by unfold atV;omega
 refine⟨_,rfl,A'.p,dx,_,rfl,a1,Yd ⋯,A',S,rfl,SA,1,atV S,rfl,⟨by omega,by omega,by unfold atV;omega,by unfold atV;omega⟩,?_⟩;rw[eat];refine Qa (fun i ys H'=>#[v]/\∃ ls,ys=ls.map V.ref/\RwL H' ls (S.led.take i)/\ls.length=i/\∀ x∈ls,H x=none) ⟨Same.refl _,[],rfl,.nil,rfl,by simp⟩ (szN ⋯) (fun i ys H' ⟨_,ls,e1,_,e2,_⟩=>by rw[e1,zwm];omega) (fun i ys H' hi p=>?_) fun ys H' p l' hl'=>?_
 ·obtain⟨s1,ls,rfl,rl,hll,hfr⟩:=p;have hri:S.led[i]?=some (S.led[i]'hi):=zwn hi;unfold tYes;dsimp only;rw[#[f,rfl]];refine⟨_,rfl,A'.p,a.znk,dx,_,_,rfl,s1 _ _ a1,T.znl,T.zo7,Uo,A'.pl,dxl,_,rfl,s1 _ _ lp,K6 ⋯ ⋯,_,rfl,A'.pl,A'.lr,A'.ld,S.led,1+(i:Int),rfl,c.same s1,Z0 ⋯ ⋯,fun z=>by omega,fun k rs hk hrs l2 ts hl2 tl2=>?_⟩;have ek:k=i:=by omega
  subst ek;have s2:=Ze (o:=.lst ts) hl2;refine⟨s1.trans s2,ls++[l2],by rw[zwq];rfl,?_,by rw[zwp,hll];rfl,fun y hy=>?_⟩
  ·rw[Xo hrs];exact(rl.same s2).snoc Zd (tl2.same s2)
  ·rcases zwy.mp hy with z|z
   ·exact hfr y z
   ·rw[zwt.mp z];exact s1.free hl2
 ·obtain⟨s1,ls,rfl,rl,hll,hfr⟩:=p;rw[zw3] at rl;exact h l' ls _ Zd (rl.same (Ze hl')) (s1.trans (Ze hl')) (s1.free hl') hfr
abbrev P5:Stmt:=top 57
theorem Bj:#[r,["_law_found"],["_law_found"],P5]:=fnS
theorem Bl(F:#[l,"_law_whole","_law_whole",P5])(T:#[o]):FnOk P w K mg base #[k] 1 f fd ["_law_found"] Cs:=by
 refine #[p,Bj];obtain⟨i,rfl,h⟩:=h;refine⟨_,Zf (Zl (Ln (Zm (Z8 (K:=K) rfl) (by rfl) T.znn PyProof.Rows.boot_isinstance (Za (pv 0) (Za (W8 rfl T.zso PyProof.Rows.boot_int (show RelV (.ty "int") _ from rfl)) Zc))) (Hg (zjj (Zm (Z8 (K:=K) rfl) (by rfl) T.znn PyProof.Rows.boot_isinstance (Za (pv 0) (Za (W8 rfl T.zth PyProof.Rows.boot_bool (show RelV (.ty "bool") _ from rfl)) Zc))))))),?_⟩;refine⟨_,rfl,_,_,_,_,rfl,.of (.int i),#[T,_,rfl],zkd K,_,rfl,?_⟩;refine iteT ?_;exact⟨_,rfl,_,_,_,_,rfl,.of (.int i),#[T,_,rfl],zke K,_,rfl,h⟩
abbrev Fj:Stmt:=top 58
theorem ze5:#[r,["_law_script","_law_k"],["_law_script","_law_k"],Fj]:=fnS
theorem ze6(F:#[l,"_law_at","_law_at",Fj])(T:#[o]):FnOk P w K mg base #[k] 1 f fd ["_law_script","_law_k"] (zd0 K):=by
 refine #[p,ze5];obtain⟨b,ns,k,rfl,hs,h⟩:=h;refine⟨_,(Zb (Zy (Zp Sn (pv 1) #[ah,Zm,cL K,T.znu,Za (pv 0) Zc] (Zr _))
  (Zf (Zl (pI (iL K) (pv 0) (pv 1))))
  Zq)
 (Zf (Zl Zg))),?_⟩
 refine⟨_,rfl,_,rfl,b,_,rfl,.inl hs,_,_,rfl,rfl,_,rfl,?_⟩;rw[zwm];refine itD (fun hk=>?_) fun hk=>?_
 ·have hk':k<ns.length:=by omega
  refine⟨_,rfl,_,rfl,b,_,_,_,rfl,rfl,hs,Z7 (show (ns.map V.int)[k]?=#[q,Wb ns k] from ?_),h⟩;unfold Wb;rw[zwu,zwn hk'];rfl
 ·have e:Wb ns k=0:=by unfold Wb;rw[List.getElem?_eq_none ⋯];rfl
  rw[e] at h;exact h
abbrev Kq:Stmt:=top 59
theorem Qo:#[r,["_law_cell_here","_law_k","_law_one","_law_two","_law_three"],["_law_cell_here","_law_k"],Kq]:=fnS
theorem zb8(F:#[l,"_law_mix","_law_mix",Kq])(T:#[o]):FnOk P w K mg base #[k] 1 f fd ["_law_cell_here","_law_k"] zcs:=by
 refine #[p,Qo];obtain⟨c,k,rfl,h⟩:=h;refine⟨_,(Zb (pS 2 Qo.nd (Zs Ye (Zs Yo (Zs Q8 (pv 0) Zg) (pv 1)) Zg))
 (Zb (pS 3 Qo.nd (Zs Ye (Zs Yo (Zs Q8 (pv 2) Zg) (Zs Q8 Zg (pv 1))) Zg))
 (Zb (pS 4 Qo.nd (Zs Ye (Zs Yo (Zs Q8 (pv 3) Zg) (pv 2)) Zg))
 (Zf (Zl (Zs Yo (Zs Q8 (Zs Yo (Zs Q8 (pv 2) Zg) (pv 3)) Zg) (pv 4))))))),?_⟩
 walk_at "rd";exact h
abbrev Yq:Stmt:=top 60
theorem P6:#[r,["_law_cell_here","_law_many","_law_step"],["_law_cell_here","_law_many"],Yq]:=fnS
@[irreducible] def Ub:List Expr:=zel (zae (Ou (X2 (Zx Yq) 0)))
@[irreducible] def P8:Pos:=zem (zae (Ou (X2 (Zx Yq) 0)))
theorem Kr:Zx Yq=[.Assign (zg0 (X2 (Zx Yq) 0)) (.Subscript (.List Ub P8) (zin (Ou (X2 (Zx Yq) 0))) (zio (Ou (X2 (Zx Yq) 0)))) (stP (X2 (Zx Yq) 0)),X2 (Zx Yq) 1]:=by unfold Ub P8;kernel_rfl
theorem Ks:Gn Ub [1,2,5,10,100,500,998]:=by unfold Ub;exact⟨by kernel_rfl,by kernel_rfl⟩
theorem Fl(F:#[l,"_law_numbers","_law_numbers",Yq])(T:#[o]):FnOk P w K mg base #[k] 1 f fd ["_law_cell_here","_law_many"] Hu:=by
 refine #[p,P6];obtain⟨c,m,rfl,hm,h⟩:=h;rw[Kr];refine⟨_,(Zb (pS 2 P6.nd (pI (iL K) (Z2 (Ol [1,2,5,10,100,500,998] Ks)) (Zs Ye (pv 0) Zg)))
 (Zf (Zl (X7 rfl (cT ["_law_cell_here","_law_step"] [0,2]) (Xb rfl T.zog (Za (pv 1) Zc)) (fun _ _ _ _ _=>X5) (fun _ _ _ _ _=>(Zs Yo Zg (Zs Ye (Zs Yo (Zs Yt (pv 1) Zg) (Zs Q8 (pv 2) (pv 0))) Zg))))))),?_⟩
 refine⟨by show 7<=sizeLine;decide,fun p0 hp0=>?_⟩;walk_at "rd";refine⟨p0,_,_,_,rfl,rfl,SqL.of Zd,Wg (xs:=[1,2,5,10,100,500,998]) ⋯ (by show c%7<7;omega),?_⟩;refine⟨_,rfl,_,rfl,by omega,by omega,Dd (fun j=>V.int (zd1 c j)) (by rw[zw2];exact zw6 hm ⋯) (fun i R hi k=>?_) fun p hp=>?_⟩
 ·rw[zw2] at hi;walk_at "rd";refine⟨.inr ⟨by omega,by omega⟩,?_⟩;walk_at "rd";rw[zxt];exact k
 ·rw[zw2];refine h p _ ?_ ((Ze hp0).trans (Ze hp)) ((Ze hp0).free hp);rw[Zd];unfold K5;rw[zyd];rfl
abbrev Xk:Stmt:=top 61
theorem Lh:#[r,["_law_cell_here","_law_many","_law_step"],["_law_cell_here","_law_many"],Xk]:=fnS
@[irreducible] def Tp:List Expr:=zel (zae (Ou (X2 (Zx Xk) 0)))
@[irreducible] def Li:Pos:=zem (zae (Ou (X2 (Zx Xk) 0)))
theorem Fm:Zx Xk=[.Assign (zg0 (X2 (Zx Xk) 0)) (.Subscript (.List Tp Li) (zin (Ou (X2 (Zx Xk) 0))) (zio (Ou (X2 (Zx Xk) 0)))) (stP (X2 (Zx Xk) 0)),X2 (Zx Xk) 1]:=by unfold Tp Li;kernel_rfl
theorem Fn:Gn Tp [1,2,5,10,50,97,98]:=by unfold Tp;exact⟨by kernel_rfl,by kernel_rfl⟩
theorem Bm(F:#[l,"_law_clubs","_law_clubs",Xk])(T:#[o]):FnOk P w K mg base #[k] 1 f fd ["_law_cell_here","_law_many"] zct:=by
 refine #[p,Lh];obtain⟨c,m,rfl,hm,h⟩:=h;rw[Fm];refine⟨_,(Zb (pS 2 Lh.nd (pI (iL K) (Z2 (Ol [1,2,5,10,50,97,98] Fn)) (Zs Ye (pv 0) Zg)))
 (Zf (Zl (X7 rfl (cT ["_law_cell_here","_law_step"] [0,2]) (Xb rfl T.zog (Za (pv 1) Zc)) (fun _ _ _ _ _=>X5) (fun _ _ _ _ _=>(Zs Yo Zg (Zs Ye (Zs Yo (Zs Yt (pv 1) Zg) (Zs Q8 (pv 2) (pv 0))) Zg))))))),?_⟩
 refine⟨by show 7<=sizeLine;decide,fun p0 hp0=>?_⟩;walk_at "rd";refine⟨p0,_,_,_,rfl,rfl,SqL.of Zd,Wg (xs:=[1,2,5,10,50,97,98]) ⋯ (by show c%7<7;omega),?_⟩;refine⟨_,rfl,_,rfl,by omega,by omega,Dd (fun j=>V.int (Df c j)) (by rw[zw2];exact zw6 hm ⋯) (fun i R hi k=>?_) fun p hp=>?_⟩
 ·rw[zw2] at hi;walk_at "rd";refine⟨.inr ⟨by omega,by omega⟩,?_⟩;walk_at "rd";rw[zxt];exact k
 ·rw[zw2];refine h p _ ?_ ((Ze hp0).trans (Ze hp)) ((Ze hp0).free hp);rw[Zd];unfold Pf;rw[zyd];rfl
abbrev Qp:Stmt:=top 62
theorem Eo:#[r,#[X],#[X],Qp]:=fnS
theorem Ep(F:#[l,"_law_one_is","_law_one_is",Qp])(T:#[o])(zpf:Z4 P w K mg base "_law_whole" 1 ["_law_found"] Cs):FnOk P w K mg base #[k] 2 f fd #[X] Og:=by
 refine #[p,Eo];obtain⟨x,rfl,hx,h⟩:=h;refine⟨_,Zf (Zl (Br (Zp Pa (pv 1) Y8 (Zr _)) (W9 Pa (pv 0) Y8 (Zr _)) (Ln (pF zpf hr (Za (pv 0) Zc)) (Hg (W9 Y6 (pv 0) (pv 1) (Zr _)))))),?_⟩;rcases hx with rfl|⟨i,rfl⟩
 ·refine⟨_,rfl,rfl,_,rfl,?_⟩;refine iteT ?_;exact⟨_,rfl,rfl,h⟩
 ·refine⟨_,rfl,rfl,_,rfl,?_⟩;refine iteF ?_;refine⟨_,rfl,i,rfl,_,rfl,?_⟩;refine iteT ?_;refine⟨_,rfl,_,rfl,rfl,?_⟩;rw[zws rfl];exact h
abbrev Rl:Stmt:=top 63
theorem P9:#[r,["_law_found","_law_due_here","_law_k"],#[X],Rl]:=fnS
theorem Fo(F:#[l,"_law_list_is","_law_list_is",Rl])(T:#[o])(znw:Z4 P w K mg base "_law_one_is" 2 #[X] Og):FnOk P w K mg base #[k] 3 f fd #[X] (Hv K):=by
 refine #[p,P9];obtain⟨b,c,xs,rfl,hb,hc,ho,hl,h⟩:=h;refine⟨_,(Zb (Zy #[aA,Z8,Za,0,Za,W8,_,Zc,Xt,Zp Q9 #[ah,Zm,cL K,T.znu,Za (pv 0) Zc] #[ah,Zm,cL K,T.znu,Za (pv 1) Zc] (Zr _)]
  (Zf (Zl Xe))
  Zq)
 (Zb (Xc PassesOwn.leaving rfl (Xb rfl T.zog (Za (Zm (cL K) (by rfl) T.znu PySem.boot_len (Za (pv 1) Zc)) Zc)) (pN 2 P9.nd)
  (Zf (Zy (Xa (Yx (pF znw hr (Za (pI (iL K) (pv 0) (pv 2)) (Za (pI (iL K) (pv 1) (pv 2)) Zc)))))
   (Zf (Zl Xe))
   Zq)))
 (Zf (Zl Xe)))),?_⟩
 refine⟨_,rfl,_,_,_,_,rfl,.of (.lst hb),#[T,_,rfl],Lw K,_,rfl,?_⟩;refine iteF ?_;refine⟨_,rfl,b,_,rfl,#[C,hb],_,rfl,c,_,rfl,.inl hc,rfl,_,rfl,?_⟩;rw[zws rfl];refine iteF ?_;refine⟨_,rfl,c,_,rfl,.inl hc,_,rfl,by omega,by omega,#[aB,Xs,_]⟩
 ·subst e hv;rw[zw2] at hi;have h1:xs[i]?=some (xs[i]'hi):=zwn hi;rw[zxt];refine⟨_,rfl,_,rfl,b,_,_,_,rfl,rfl,SqL.of hb,Z7 h1,_,rfl,_,rfl,c,_,_,_,rfl,rfl,hc,Z7 h1,_,rfl,ho _ (zxg hi),_,rfl,?_⟩;exact iteF ⟨rfl,#[y,_]⟩
 ·subst e hv;exact h
abbrev Sf:Stmt:=top 64
theorem Qx:#[r,["_law_found","_law_due_here","_law_k"],#[X],Sf]:=fnS
theorem J9(F:#[l,"_law_tuple_is","_law_tuple_is",Sf])(T:#[o])(znw:Z4 P w K mg base "_law_one_is" 2 #[X] Og):FnOk P w K mg base #[k] 3 f fd #[X] (Ly K):=by
 refine #[p,Qx];obtain⟨b,c,xs,rfl,hb,hc,ho,hl,h⟩:=h;refine⟨_,(Zb (Zy (PW.pt (X3 (Xa (Yx (Zm (Z8 (K:=K) rfl) (by rfl) T.znn PyProof.Rows.boot_isinstance (Za (pv 0) (Za (W8 rfl T.zse PyProof.Rows.boot_tuple (show RelV (.ty "tuple") _ from rfl)) Zc))))) (Xt (Zp Q9 #[ah,Zm,cL K,T.znu,Za (pv 0) Zc] #[ah,Zm,cL K,T.znu,Za (pv 1) Zc] (Zr _)))))
  (Zf (Zl Xe))
  Zq)
 (Zb (Xc PassesOwn.leaving rfl (Xb rfl T.zog (Za (Zm (cL K) (by rfl) T.znu PySem.boot_len (Za (pv 1) Zc)) Zc)) (pN 2 Qx.nd)
  (Zf (Zy (Xa (Yx (pF znw hr (Za (pI (iU K) (pv 0) (pv 2)) (Za (pI (iU K) (pv 1) (pv 2)) Zc)))))
   (Zf (Zl Xe))
   Zq)))
 (Zf (Zl Xe)))),?_⟩
 refine⟨_,rfl,_,_,_,_,rfl,.of (.tup hb),#[T,_,rfl],zf7 K,_,rfl,?_⟩;refine iteF ?_;refine⟨_,rfl,b,_,rfl,.inr (SqT.of hb),_,rfl,c,_,rfl,.inr hc,rfl,_,rfl,?_⟩;rw[zws rfl];refine iteF ?_;refine⟨_,rfl,c,_,rfl,.inr hc,_,rfl,by omega,by omega,#[aB,Xs,_]⟩
 ·subst e hv;rw[zw2] at hi;have h1:xs[i]?=some (xs[i]'hi):=zwn hi;rw[zxt];refine⟨_,rfl,_,rfl,b,_,_,_,rfl,rfl,#[n,hb],Z7 h1,_,rfl,_,rfl,c,_,_,_,rfl,rfl,hc,Z7 h1,_,rfl,ho _ (zxg hi),_,rfl,?_⟩;exact iteF ⟨rfl,#[y,_]⟩
 ·subst e hv;exact h
abbrev Sg:Stmt:=top 65
theorem Qy:#[r,["_law_found","_law_due_here","_law_k"],#[X],Sg]:=fnS
theorem Ia(F:#[l,"_law_rows_are","_law_rows_are",Sg])(T:#[o])(zoo:Z4 P w K mg base "_law_tuple_is" 3 #[X] (Ly K)):FnOk P w K mg base #[k] 4 f fd #[X] (Lz K):=by
 refine #[p,Qy];obtain⟨b,c,ts,us,R,rfl,hb,hc,tl,ul,ho,hl,h⟩:=h;refine⟨_,(Zb (Zy #[aA,Z8,Za,0,Za,W8,_,Zc,Xt,Zp Q9 #[ah,Zm,cL K,T.znu,Za (pv 0) Zc] #[ah,Zm,cL K,T.znu,Za (pv 1) Zc] (Zr _)]
  (Zf (Zl Xe))
  Zq)
 (Zb (Xc PassesOwn.leaving rfl (Xb rfl T.zog (Za (Zm (cL K) (by rfl) T.znu PySem.boot_len (Za (pv 1) Zc)) Zc)) (pN 2 Qy.nd)
  (Zf (Zy (Xa (Yx (pF zoo hr (Za (pI (iL K) (pv 0) (pv 2)) (Za (pI (iL K) (pv 1) (pv 2)) Zc)))))
   (Zf (Zl Xe))
   Zq)))
 (Zf (Zl Xe)))),?_⟩
 have el:ts.length=us.length:=by rw[tl.length,ul.length]
 have hul:=ul.length;refine⟨_,rfl,_,_,_,_,rfl,.of (.lst hb),#[T,_,rfl],Lw K,_,rfl,?_⟩;refine iteF ?_;refine⟨_,rfl,b,_,rfl,#[C,hb],_,rfl,c,_,rfl,.inl hc,rfl,_,rfl,?_⟩;rw[el,zws rfl];refine iteF ?_;refine⟨_,rfl,c,_,rfl,.inl hc,_,rfl,by omega,by omega,#[aB,Xs,_]⟩
 ·subst e hv;rw[zw2] at hi;have hR:i<R.length:=by rw[<- ul.length];exact hi
  obtain⟨t1,e1,q1⟩:=tl.getR (zwn hR);obtain⟨t2,e2,q2⟩:=ul.getR (zwn hR);obtain⟨o1,o2⟩:=ho _ (zxg hR);rw[zxt];refine⟨_,rfl,_,rfl,b,_,_,_,rfl,rfl,SqL.of hb,Z7 e1,_,rfl,_,rfl,c,_,_,_,rfl,rfl,hc,Z7 e2,t1,t2,_,rfl,q1,#[n,q2],o2,o1,_,rfl,?_⟩;exact iteF ⟨rfl,#[y,_]⟩
 ·subst e hv;exact h
abbrev U0:Stmt:=top 66
theorem Uc:#[r,["_law_may","_law_given","_law_seen","_law_k"],["_law_may","_law_given"],U0]:=fnS
theorem Lj(F:#[l,"_law_is_filling","_law_is_filling",U0])(T:#[o])(zpf:Z4 P w K mg base "_law_whole" 1 ["_law_found"] Cs):FnOk P w K mg base #[k] 2 f fd ["_law_may","_law_given"] (K8 K):=by
 refine #[p,Uc];obtain⟨l,lg,ls,rows,gs,rfl,hl,il,hrl,hg,FP,h⟩:=h;have hu:=Xu hr;refine⟨_,(Zb (Zy #[aA,Z8,Za,1,Za,W8,_,Zc,Xt,Zp Q9 #[ah,Zm,cL K,T.znu,Za (pv 1) Zc] #[ah,Zm,cL K,T.znu,Za (pv 0) Zc] (Zr _)]
  (Zf (Zl Xe))
  Zq)
 (Zb (pS 2 Uc.nd Hl)
 (Zb (Xc PassesOwn.leaving rfl (Xb rfl T.zog (Za (Zm (cL K) (by rfl) T.znu PySem.boot_len (Za (pv 0) Zc)) Zc)) (pN 3 Uc.nd)
  (Zf (Zy (Zp Tg (pI (iL K) (pv 1) (pv 3)) Y8 (Zr _))
   (Zb (Zy (PW.pt (X3 (Xa (Yx (pF zpf hr (Za (pI (iL K) (pv 1) (pv 3)) Zc)))) (X3 (Zp (O4 (K:=K) rfl) (pI (iL K) (pv 1) (pv 3)) (pI (iL K) (pv 0) (pv 3)) (by with_unfolding_all rfl)) (Xt (S4 (Pc hu (pI (iL K) (pv 1) (pv 3)) (pv 2)))))))
    (Zf (Zl Xe))
    Zq)
   (Zf (Yy hu (pv 2) (pI (iL K) (pv 1) (pv 3)) Xe rfl)))
   Zq)))
 (Zf (Zl Xe))))),?_⟩
 refine⟨_,rfl,_,_,_,_,rfl,.of (.lst hg),#[T,_,rfl],Lw K,_,rfl,?_⟩;refine iteF ?_;refine⟨_,rfl,lg,_,rfl,#[C,hg],_,rfl,l,_,rfl,#[C,hl],rfl,_,rfl,?_⟩;rw[zwm,il.length,FP.len,zws rfl];refine iteF ?_;intro ld hld;have s0:=Ze (o:=.dK []) hld;have q0:upd H ld (.dK []) ld=#[b,.dK,[]]:=Zd;generalize upd H ld (.dK [])=H1 at s0 q0;refine⟨_,rfl,l,_,rfl,#[C,s0 _ _ hl],_,rfl,by omega,by rw[zwm,il.length];omega,?_⟩;rw[zwm,il.length,zw2]
 let jv1:Nat->L2.St->Hp->Prop:=fun i σ H'=>(∃ v3,σ=[#[e,l],#[e,lg],#[e,ld],v3])/\#[v]/\∃ kvs,H' ld=#[b,.dK,kvs]/\kvs.length<=i/\∀ n:Int,(valV kvs (inl n:Key)).isSome=true->∃ j,j<i/\gs[j]?=some (.int n)
 refine Xs jv1 ⟨#[y,_],s0,[],q0,zww _,fun n z=>(nomatch z)⟩ ?_ ?_
 ·rintro i σ H' hi ⟨⟨v3,rfl⟩,sm,kvs,hd,hkl,hks⟩;rw[zxt];have hgi:i<gs.length:=by rw[FP.len];exact hi
  have hx:gs[i]?=some (gs[i]'hgi):=zwn hgi;have hone:=FP.one _ (zxg hgi);generalize (gs[i]'hgi)=x at hx hone;refine⟨_,rfl,_,rfl,lg,_,_,_,rfl,rfl,#[Q,sm,hg],Z7 hx,rfl,_,rfl,?_⟩;rcases hone with rfl|⟨n,rfl⟩
  ·refine iteF ?_;refine⟨#[y,_],sm,kvs,hd,by omega,fun n hn=>?_⟩;obtain⟨j,h1,h2⟩:=hks n hn;exact⟨j,by omega,h2⟩
  ·refine iteT ?_;obtain⟨r,hr',hnr⟩:=FP.may i n hx;obtain⟨lr,e1,e2⟩:=il.getR hr';have hl':(ls.map V.ref)[i]?=#[e,lr]:=by rw[zwu,e1];rfl
   have hno:valV kvs (inl n:Key)=none:=by
    cases q:valV kvs (inl n:Key) with
    | none=>rfl
    | some v =>
      obtain⟨j,h1,h2⟩:=hks n (by rw[q];rfl);exact absurd (FP.inj j i n h2 hx) ⋯
   have gx:∀ {Q:VK},Q (.int n) H'->∃ v,([some (V.ref l),some (V.ref lg),some (V.ref ld),some (V.int (i:Int))]:L2.St)[1]?=#[b,some,v]/\∃ w,([some (V.ref l),some (V.ref lg),some (V.ref ld),some (V.int (i:Int))]:L2.St)[3]?=#[b,some,w]/\Fw K v w H' Q:=fun q=>⟨_,rfl,_,rfl,lg,_,_,_,rfl,rfl,#[Q,sm,hg],Z7 hx,q⟩
   walk_at "if";refine Yf (Y1 (b:=false) (Wu (b:=false) (c:=false) (fun Q q=>⟨_,rfl,_,rfl,lg,_,_,_,rfl,rfl,#[Q,sm,hg],Z7 hx,n,rfl,_,rfl,q⟩) (Wu (b:=false) (c:=false) (fun Q q=>⟨_,rfl,_,rfl,lg,_,_,_,rfl,rfl,#[Q,sm,hg],Z7 hx,_,rfl,_,rfl,l,_,_,_,rfl,rfl,#[Q,sm,hl],Z7 hl',lr,_,rfl,#[C,sm _ _ e2],rfl,zea r,_,rfl,by rw[Iu,zws hnr];exact q⟩)
    (fun Q q=>⟨_,rfl,_,rfl,lg,_,_,_,rfl,rfl,#[Q,sm,hg],Z7 hx,_,rfl,ld,_,rfl,DGet.k (k:=inl n) hd,_,rfl,by rw[hno];exact q⟩))) #[P])
   refine⟨_,rfl,_,rfl,_,rfl,lg,_,_,_,rfl,rfl,#[Q,sm,hg],Z7 hx,ld,_,rfl,DPut.k (k:=inl n) hd (Rt ⋯),?_⟩;refine⟨#[y,_],Yg hld sm,_,Zd,zw6 (Xr _ _ _) ⋯,fun n' hn'=>?_⟩;rw[Vz] at hn';by_cases e:(inl n':Key)=inl n
   ·cases e;exact⟨i,Nat.lt_succ_self _,hx⟩
   ·rw[#[c,e]] at hn';obtain⟨j,h1,h2⟩:=hks n' hn';exact⟨j,by omega,h2⟩
 ·rintro σ H' ⟨⟨v3,rfl⟩,sm,_⟩;exact h H' sm
abbrev Rm:Stmt:=top 67
theorem Fp:#[r,#[X],#[X],Rm]:=fnS
theorem Fq(F:#[l,"_law_deed_is","_law_deed_is",Rm])(T:#[o])(znw:Z4 P w K mg base "_law_one_is" 2 #[X] Og):FnOk P w K mg base #[k] 3 f fd #[X] Gy:=by
 refine #[p,Fp];obtain⟨t1,t2,d,rfl,h1,h2,h⟩:=h;refine⟨_,(Zb (Zy (PW.pt (X3 (Xa (Yx (Zm (Z8 (K:=K) rfl) (by rfl) T.znn PyProof.Rows.boot_isinstance (Za (pv 0) (Za (W8 rfl T.zse PyProof.Rows.boot_tuple (show RelV (.ty "tuple") _ from rfl)) Zc))))) (X3 (Zp Q9 #[ah,Zm,cL K,T.znu,Za (pv 0) Zc] Zg (Zr _)) (Xt (Xa (Yx (Zm (Z8 (K:=K) rfl) (by rfl) T.znn PyProof.Rows.boot_isinstance (Za (pI (iU K) (pv 0) Zg) (Za (W8 rfl T.zt2 PyProof.Rows.boot_str (show RelV (.ty "str") _ from rfl)) Zc)))))))))
  (Zf (Zl Xe))
  Zq)
 (Zf (Zl (Ln (W9 Y6 (pI (iU K) (pv 0) Zg) (pI (iU K) (pv 1) Zg) (Zr _)) (Ln (pF znw hr (Za (pI (iU K) (pv 0) Zg) (Za (pI (iU K) (pv 1) Zg) Zc))) (Hg (pF znw hr (Za (pI (iU K) (pv 0) Zg) (Za (pI (iU K) (pv 1) Zg) Zc))))))))),?_⟩
 have h1:H t1=#[b,.tup,[.str d.1,.int d.2.1,.int d.2.2]]:=h1;have h2:H t2=#[b,.tup,[.str d.1,.int d.2.1,.int d.2.2]]:=h2;refine Yf ?_;refine⟨_,rfl,_,_,_,_,rfl,.of (.tup h1),#[T,_,rfl],zf7 K,_,rfl,?_⟩;refine iteF ?_;refine⟨_,rfl,t1,_,rfl,.inr (SqT.of h1),rfl,_,rfl,?_⟩;refine(show if (!#[g,V.int ((3:Nat):Int)=V.int 3])=true then _ else _ from ?_);rw[zws (show V.int ((3:Nat):Int)=V.int 3 from rfl)];refine iteF ?_;refine⟨_,rfl,t1,_,_,_,rfl,rfl,#[n,h1],rfl,_,_,_,_,rfl,.of (.str _),#[T,_,rfl],zkf K,_,rfl,?_⟩;refine #[P];dsimp only;refine⟨_,rfl,t1,_,_,_,rfl,rfl,#[n,h1],rfl,_,rfl,t2,_,_,_,rfl,rfl,#[n,h2],rfl,rfl,true,by rw[zws rfl],iteT ?_⟩;refine⟨_,rfl,t1,_,_,_,rfl,rfl,#[n,h1],rfl,_,rfl,t2,_,_,_,rfl,rfl,#[n,h2],rfl,.int d.2.1,rfl,.inr ⟨_,rfl⟩,true,rfl,iteT ?_⟩;exact⟨_,rfl,t1,_,_,_,rfl,rfl,#[n,h1],rfl,_,rfl,t2,_,_,_,rfl,rfl,#[n,h2],rfl,.int d.2.2,rfl,.inr ⟨_,rfl⟩,h⟩
abbrev U9:Stmt:=top 68
theorem R7:#[r,["_law_found","_law_due_here","_law_k"],#[X],U9]:=fnS
theorem Kt(F:#[l,"_law_deeds_are","_law_deeds_are",U9])(T:#[o])(zoz:Z4 P w K mg base "_law_deed_is" 3 #[X] Gy):FnOk P w K mg base #[k] 4 f fd #[X] (Nw K):=by
 refine #[p,R7];obtain⟨b,c,ts,us,ds,rfl,hb,hc,tl,ul,hl,h⟩:=h;refine⟨_,(Zb (Zy #[aA,Z8,Za,0,Za,W8,_,Zc,Xt,Zp Q9 #[ah,Zm,cL K,T.znu,Za (pv 0) Zc] #[ah,Zm,cL K,T.znu,Za (pv 1) Zc] (Zr _)]
  (Zf (Zl Xe))
  Zq)
 (Zb (Xc PassesOwn.leaving rfl (Xb rfl T.zog (Za (Zm (cL K) (by rfl) T.znu PySem.boot_len (Za (pv 1) Zc)) Zc)) (pN 2 R7.nd)
  (Zf (Zy (Xa (Yx (pF zoz hr (Za (pI (iL K) (pv 0) (pv 2)) (Za (pI (iL K) (pv 1) (pv 2)) Zc)))))
   (Zf (Zl Xe))
   Zq)))
 (Zf (Zl Xe)))),?_⟩
 have e1:=tl.length;have e2:=ul.length;rw[zwm] at e1 e2;have el:ts.length=us.length:=by omega
 refine⟨_,rfl,_,_,_,_,rfl,.of (.lst hb),#[T,_,rfl],Lw K,_,rfl,?_⟩;refine iteF ?_;refine⟨_,rfl,b,_,rfl,#[C,hb],_,rfl,c,_,rfl,#[C,hc],rfl,_,rfl,?_⟩;rw[el,zws rfl];refine #[P];dsimp only;refine⟨_,rfl,c,_,rfl,#[C,hc],_,rfl,by omega,by omega,#[aB,Xs,_]⟩
 ·subst e hv;rw[zw2] at hi;have hd:i<ds.length:=by omega
  obtain⟨t1,x1,x2⟩:=tl.getR (i:=i) (r:=W3 (ds[i]'hd)) (by rw[zwu,zwn hd];rfl);obtain⟨t2,y1,y2⟩:=ul.getR (i:=i) (r:=W3 (ds[i]'hd)) (by rw[zwu,zwn hd];rfl);rw[zxt];walk_at "if";refine⟨_,rfl,_,rfl,b,_,_,_,rfl,rfl,SqL.of hb,Z7 x1,_,rfl,_,rfl,c,_,_,_,rfl,rfl,SqL.of hc,Z7 y1,t1,t2,_,rfl,x2,y2,true,rfl,?_⟩;exact iteF (Zt ⟨rfl,#[y,_]⟩)
 ·subst e hv;exact h
abbrev Sh:Stmt:=top 69
theorem Ib:#[r,#[X],#[X],Sh]:=fnS
theorem Ie(F:#[l,"_law_truth_is","_law_truth_is",Sh])(T:#[o]):FnOk P w K mg base #[k] 1 f fd #[X] zcx:=by
 refine #[p,Ib];obtain⟨x,rfl,h⟩:=h;refine⟨_,Zf (Zl (Ln (Zm (Z8 (K:=K) rfl) (by rfl) T.znn PyProof.Rows.boot_isinstance (Za (pv 0) (Za (W8 rfl T.zth PyProof.Rows.boot_bool (show RelV (.ty "bool") _ from rfl)) Zc))) (Hg (W9 Y6 (pv 0) (pv 1) (Zr _))))),?_⟩;refine⟨_,rfl,_,_,_,_,rfl,.of (.bl x),#[T,_,rfl],zkj K,_,rfl,?_⟩;refine iteT ?_;refine⟨_,rfl,_,rfl,rfl,?_⟩;rw[zws rfl];exact h
abbrev Oa:Stmt:=top 70
theorem Ll:#[r,["_law_rounds","_law_rest_here","_law_page"],["_law_rounds","_law_rest_here"],Oa]:=fnS
theorem Bn(F:#[l,"_law_first","_law_first",Oa])(T:#[o]):FnOk P w K mg base #[k] 1 f fd ["_law_rounds","_law_rest_here"] zda:=by
 refine #[p,Ll];obtain⟨r,q,rfl,h⟩:=h;have hu:=Xu hr;refine⟨_,(Zb (pS 2 Ll.nd (zcj (Tr Zn (pv 0) (Tr Zn (pv 1) (Tr Zn (Z2 Zc) (Tr Zn (Z2 Zc) (Tr Zn (Z2 Zc) (Tr Zn Y8 zci)))))) rfl rfl (by simp) ⋯))
 (Zb (Yy hu (pv 2) Zn Y8 rfl)
 (Zb (Yy hu (pv 2) Zn (Z2 Zc) rfl)
 (Zb (Yy hu (pv 2) Zn (Z2 Zc) rfl)
 (Zf (Zl (pv 2))))))),?_⟩
 have sz0:([]:List V).length<=sizeLine:=zxh _;refine fun p fp=>?_;have s1:=Ze (o:=.dK []) fp;have p1:(upd H p (.dK [])) p=#[b,.dK,[]]:=Zd;generalize upd H p (.dK [])=H1 at s1 p1 ⊢;refine⟨_,rfl,_,rfl,sz0,fun l1 f1=>?_⟩;have s2:=Ze (o:=.lst []) f1;have a1:#[A,upd H1 l1 (.lst []),l1,[]]:=Zd;have n1:l1≠p:=fun z=>by rw[z,p1] at f1;cases f1
 generalize upd H1 l1 (.lst [])=H2 at s2 a1 ⊢;refine⟨sz0,fun l2 f2=>?_⟩;have s3:=Ze (o:=.lst []) f2;have a2:#[A,upd H2 l2 (.lst []),l2,[]]:=Zd;have n2:l2≠p:=fun z=>by rw[z,s2 _ _ p1] at f2;cases f2
 generalize upd H2 l2 (.lst [])=H3 at s3 a2 ⊢;refine⟨sz0,fun l3 f3=>?_⟩;have s4:=Ze (o:=.lst []) f3;have a3:#[A,upd H3 l3 (.lst []),l3,[]]:=Zd;have n3:l3≠p:=fun z=>by rw[z,s3 _ _ (s2 _ _ p1)] at f3;cases f3
 generalize upd H3 l3 (.lst [])=H4 at s4 a3 ⊢;refine⟨s4 _ _ (s3 _ _ (s2 _ _ p1)),pg6 r q l1 l2 l3 .non,rfl,(show 6<=15 by decide),?_⟩;rw[zeo];have s5:=Yg (o:=.dK (pg6 r q l1 l2 l3 .non)) fp (s1.trans (s2.trans (s3.trans s4)));have p5:(upd H4 p (.dK (pg6 r q l1 l2 l3 .non))) p=#[b,.dK,pg6 r q l1 l2 l3 .non]:=Zd;have b1:#[A,upd H4 p (.dK (pg6 r q l1 l2 l3 .non)),l1,[]]:=by rw[Zh n1];exact s4 _ _ (s3 _ _ a1)
 have b2:#[A,upd H4 p (.dK (pg6 r q l1 l2 l3 .non)),l2,[]]:=by rw[Zh n2];exact s4 _ _ a2
 have b3:#[A,upd H4 p (.dK (pg6 r q l1 l2 l3 .non)),l3,[]]:=by rw[Zh n3];exact a3
 generalize upd H4 p (.dK (pg6 r q l1 l2 l3 .non))=H5 at s5 p5 b1 b2 b3 ⊢;walk_at "if";refine⟨_,rfl,p,_,rfl,DPut.k (k:=inr "listed") p5 (Ke (x:=.non) (y:=.non)).1,?_⟩;have s6:=Yg (o:=.dK (putK (pg6 r q l1 l2 l3 .non) (.inr "listed") .non)) fp s5;have p6:(upd H5 p (.dK (putK (pg6 r q l1 l2 l3 .non) (.inr "listed") .non))) p=#[b,.dK,putK (pg6 r q l1 l2 l3 .non) (.inr "listed") .non]:=Zd;have c1:=(Zh (H:=H5) (o:=.dK (putK (pg6 r q l1 l2 l3 .non) (.inr "listed") .non)) n1).trans b1;have c2:=(Zh (H:=H5) (o:=.dK (putK (pg6 r q l1 l2 l3 .non) (.inr "listed") .non)) n2).trans b2;have c3:=(Zh (H:=H5) (o:=.dK (putK (pg6 r q l1 l2 l3 .non) (.inr "listed") .non)) n3).trans b3;generalize upd H5 p (.dK (putK (pg6 r q l1 l2 l3 .non) (.inr "listed") .non))=H6 at s6 p6 c1 c2 c3 ⊢;refine⟨sz0,fun l4 f4=>?_⟩;have s7:=Ze (o:=.lst []) f4;have a4:#[A,upd H6 l4 (.lst []),l4,[]]:=Zd;have n4:l4≠p:=fun z=>by rw[z,p6] at f4;cases f4
 generalize upd H6 l4 (.lst [])=H7 at s7 a4 ⊢;refine⟨_,rfl,p,_,rfl,DPut.k (k:=inr "goes") (s7 _ _ p6) (Ke (y:=.non)).2.1,?_⟩;have s8:=Yg (o:=.dK (putK (putK (pg6 r q l1 l2 l3 .non) (.inr "listed") .non) (.inr "goes") (.ref l4))) fp (s6.trans s7);have p8:(upd H7 p (.dK (putK (putK (pg6 r q l1 l2 l3 .non) (.inr "listed") .non) (.inr "goes") (.ref l4)))) p=#[b,.dK,putK (putK (pg6 r q l1 l2 l3 .non) (.inr "listed") .non) (.inr "goes") (.ref l4)]:=Zd;have d1:=(Zh (H:=H7) (o:=.dK (putK (putK (pg6 r q l1 l2 l3 .non) (.inr "listed") .non) (.inr "goes") (.ref l4))) n1).trans (s7 _ _ c1);have d2:=(Zh (H:=H7) (o:=.dK (putK (putK (pg6 r q l1 l2 l3 .non) (.inr "listed") .non) (.inr "goes") (.ref l4))) n2).trans (s7 _ _ c2);have d3:=(Zh (H:=H7) (o:=.dK (putK (putK (pg6 r q l1 l2 l3 .non) (.inr "listed") .non) (.inr "goes") (.ref l4))) n3).trans (s7 _ _ c3);have d4:=(Zh (H:=H7) (o:=.dK (putK (putK (pg6 r q l1 l2 l3 .non) (.inr "listed") .non) (.inr "goes") (.ref l4))) n4).trans a4;generalize upd H7 p (.dK (putK (putK (pg6 r q l1 l2 l3 .non) (.inr "listed") .non) (.inr "goes") (.ref l4)))=H8 at s8 p8 d1 d2 d3 d4 ⊢;refine⟨sz0,fun l5 f5=>?_⟩;have s9:=Ze (o:=.lst []) f5;have a5:#[A,upd H8 l5 (.lst []),l5,[]]:=Zd;have n5:l5≠p:=fun z=>by rw[z,p8] at f5;cases f5
 generalize upd H8 l5 (.lst [])=H9 at s9 a5 ⊢;refine⟨_,rfl,p,_,rfl,DPut.k (k:=inr "moves") (s9 _ _ p8) Ke.2.2,?_⟩;rw[zir];refine#[w,_,h p _ ?_ (Yg fp (s8.trans s9)) fp];have fr:∀ x,H4 x=none->H x=none:=fun x hx=>s1.free (s2.free (s3.free (s4.free hx)));exact⟨l1,l2,l3,.non,.non,l4,l5,[],[],[],[],Zd,(Zh n1).trans (s9 _ _ d1),.nil,(Zh n2).trans (s9 _ _ d2),.nil,(Zh n3).trans (s9 _ _ d3),.nil,rfl,rfl,(Zh n4).trans (s9 _ _ d4),(Zh n5).trans a5,.nil,
  fp,s1.free f1,s1.free (s2.free f2),s1.free (s2.free (s3.free f3)),s6.free f4,s8.free f5⟩
abbrev Ku:Stmt:=top 71
theorem Vv:#[r,["_law_page","_law_met_here","_law_listed","_law_goes","_law_moves","_law_may","_law_k"],["_law_page"],Ku]:=fnS
theorem zb9(F:#[l,"_law_met","_law_met",Ku])(T:#[o]):FnOk P w K mg base #[k] 1 f fd ["_law_page"] (zdb K):=by
 refine #[p,Vv];obtain⟨ok,d,P0,rfl,PA,PO,h⟩:=h;have hu:=Xu hr;refine⟨_,(Zb (pS 1 Vv.nd Hm)
 (Zb (Xc PassesOwn.leaving rfl (Yh (K:=K) rfl (Mi (Mn (K:=K) rfl) (pD hu (pv 0) Zn) (Iq (Zm (Oe rfl) (by rfl) T.zsw PyProof.Rows.boot_max (Za Zg (Za (Zs S6 (Zm (cL K) (by rfl) T.znu PySem.boot_len (Za (pD hu (pv 0) Zn) Zc)) (pD hu (pv 0) Zn)) Zc)))) Ip)) (Xm (K:=K) (n:=4) rfl rfl (Zv (pN 2 Vv.nd) (Zv (pN 3 Vv.nd) (Zv (pN 4 Vv.nd) (Zv (pN 5 Vv.nd) Xl)))))
  (Zf (Xc PassesOwn.leaving rfl (Xb rfl T.zog (Za (Zm (cL K) (by rfl) T.znu PySem.boot_len (Za (pv 2) Zc)) Zc)) (pN 6 Vv.nd)
   (Zf (Zy (Zp Tg (pI (iL K) (pv 3) (pv 6)) Y8 (Zr _))
    (Zb (Yy hu (pv 1) (Z9 (Za (pI (iL K) (pv 3) (pv 6)) (Za (pI (iU K) (pI (iL K) (pv 2) (pv 6)) Zg) Zc))) Xe rfl)
    (Zf (Yy hu (pv 1) (Z9 (Za (pI (iL K) (pv 3) (pv 6)) (Za (pI (iU K) (pI (iL K) (pv 2) (pv 6)) Zg) Zc))) Xe rfl)))
    Zq)))))
 (Zf (Zl (pv 1))))),?_⟩
 obtain⟨lp,lo,lv,dv,li,lg,lm,pts,ots,vts,mts,a1,a2,a3,a4,a5,a6,a7,a8,a9,b1,b2,b3,o1,o2,o3,o4,o5,o6⟩:=PA;refine fun m fm=>?_;have s1:=Ze (o:=.dT []) fm;have m1:(upd H m (.dT [])) m=#[b,.dT,[]]:=Zd;generalize upd H m (.dT [])=H1 at s1 m1 ⊢;walk_at "if";refine⟨_,rfl,d,_,rfl,#[an,s1 _ _ a1],?_⟩;refine⟨_,rfl,d,_,rfl,#[an,s1 _ _ a1],lv,vts,rfl,#[C,s1 _ _ a6],_,rfl,d,_,rfl,DGet.k (k:=.inr "rest") (s1 _ _ a1),_,_,rfl,rfl,_,_,rfl,_,rfl,lv,vts,rfl,#[Q,s1,a6],fun c fc=>?_⟩;have e0:=zg4 vts vts.length P0.rest;rw[a7.length] at e0;have ez:(vts.length:Int)=(P0.over.length:Int):=by rw[a7.length]
 rw[ez,e0];obtain⟨k0,hk0⟩:∃ k:Nat,k=((P0.over.length:Int)-P0.rest).toNat:=#[y,_];rw[<- hk0];have s2:=Ze (o:=.lst (vts.drop k0)) fc;have c2:(upd H1 c #[i,vts.drop,k0]) c=some #[i,vts.drop,k0]:=Zd;have ncm:c≠m:=fun z=>by rw[z,m1] at fc;cases fc
 have OV:Xq ok (upd H1 c #[i,vts.drop,k0]) (vts.drop k0) (P0.over.drop k0):=(a7.drop k0).keep (fun x o _ z=>s2 _ _ (s1 _ _ z)) fun x o z=>s2 _ _ (s1 _ _ z);have m2:=s2 _ _ m1;generalize upd H1 c (.lst (vts.drop k0))=H2 at s2 c2 OV m2 ⊢;have hin:∀ s∈P0.over.drop k0,s∈P0.over:=fun s hs=>List.mem_of_mem_drop hs;have hlen:(P0.over.drop k0).length<=100:=by rw[zyn];have:=PO.1;omega
 generalize vts.drop k0=ds at c2 OV ⊢;refine⟨c,rfl,⟨_,SqL.of c2⟩,Wy (K:=K) (a:=c) (xs:=ds) (fun i σ H'=>(∃ v1 v2 v3 v4 v5,σ=[#[e,d],#[e,m],v1,v2,v3,v4,v5])/\(∀ x o,H2 x=#[d]->x≠m->H' x=#[d]) /\
  ∃ kvs,H' m=#[b,.dT,kvs]/\Nu kvs (P0.over.drop k0) i 0/\kvs.length<=40*i) ⟨⟨_,_,_,_,_,rfl⟩,fun _ _ e _=>e,[],m2,.zero _,by simp⟩ (fun i σ H' _ ⟨_,k,_⟩=>SqL.of (k _ _ c2 ncm)) ?_ ?_⟩
 ·rintro i x σ H' hx ⟨⟨v1,v2,v3,v4,v5,rfl⟩,k2,kvs,hm,mi,kl⟩;obtain⟨t,l,g,mm,y,ts,s,rfl,hs,ht,hl,tl,hg,_,_⟩:=OV.get hx;have htn:t≠m:=#[ak,Yu,ht,m2];have hln:l≠m:=#[ak,Yu,hl,m2];have hgn:g≠m:=#[ak,Yu,hg,m2];refine⟨t,_,rfl,#[n,k2 _ _ ht htn],rfl,_,_,rfl,_,_,rfl,_,_,rfl,_,_,rfl,rfl,?_⟩;have hsz:=PO.2.2 s (hin s (zw0 hs));have hi:i<ds.length:=(zwo.mp hx).1;have hdl:=OV.length;have tln:ts.length=s.ms.length:=by rw[tl.length,zwm]
  have rln:(Ya s).length=s.ms.length:=by unfold Ya;rw[zyr,hsz.2.1,Nat.min_self]
  refine⟨_,rfl,l,ts,rfl,#[C,k2 _ _ hl hln],_,rfl,by omega,by omega,Xs (fun j σ H'=>(∃ v,σ=[#[e,d],#[e,m],#[e,l],#[e,g],#[e,mm],#[e,y],v])/\(∀ x o,H2 x=#[d]->x≠m->H' x=#[d]) /\
   ∃ kvs,H' m=#[b,.dT,kvs]/\Nu kvs (P0.over.drop k0) i j/\kvs.length<=40*i+2*j) ⟨⟨_,rfl⟩,k2,kvs,hm,mi,by omega⟩ ?_ ?_⟩
  ·rintro j σ H3 hj ⟨⟨v,rfl⟩,k3,kvs3,hm3,mi3,kl3⟩;rw[zw2] at hj;rw[zxt];have hj2:j<s.gv.length:=by omega
   have hg3:s.gv[j]?=some (s.gv[j]'hj2):=zwn hj2;have hone:=hsz.2.2 _ (zxg hj2);generalize s.gv[j]'hj2=xv at hg3 hone;have ht3:ts[j]?=some (ts[j]'hj):=zwn hj;obtain⟨tj,mj,e1,hmj,htj⟩:=Ot tl ht3;rw[e1] at ht3;have htjn:tj≠m:=#[ak,Yu,htj,m2];have hr3:(Ya s)[j]?=some (Ge mj xv):=by unfold Ya;rw[List.getElem?_zipWith,hmj,hg3]
   refine⟨_,rfl,_,rfl,g,_,_,_,rfl,rfl,SqL.of (k3 _ _ hg hgn),Z7 hg3,rfl,_,rfl,?_⟩;rcases hone with rfl|⟨w,rfl⟩
   ·refine iteF ?_;exact⟨#[y,_],k3,kvs3,hm3,mi3.none hs hr3 rfl,by omega⟩
   ·refine iteT ?_;refine⟨_,rfl,_,rfl,_,rfl,g,_,_,_,rfl,rfl,SqL.of (k3 _ _ hg hgn),Z7 hg3,?_⟩;have big:∀ n:Nat,n<=200000->n<sizeLine:=fun n hn=>Nat.lt_trans (zx5 hn ⋯) Tv;refine⟨_,rfl,_,rfl,l,_,_,_,rfl,rfl,SqL.of (k3 _ _ hl hln),Z7 ht3,tj,_,_,_,rfl,rfl,#[n,k3 _ _ htj htjn],rfl,sz2,fun t2 ht2=>⟨m,_,rfl,DPut.t (k:=[inl w,inl mj.1]) (by rw[Zh (Zi hm3 ht2)];exact hm3) Zd (big _ ⋯),?_⟩⟩;have k4:∀ x o,H2 x=#[d]->x≠m->upd (upd H3 t2 (.tup #[M,w,mj.1])) m (.dT (putK kvs3 [inl w,inl mj.1] (.bl true))) x=#[d]:=fun x o e n=>by
     have:=k3 x o e n;rw[Zh n,Zh (Zi this ht2)];exact this
    have hm4:upd (upd H3 t2 (.tup #[M,w,mj.1])) m (.dT (putK kvs3 [inl w,inl mj.1] (.bl true))) m=#[b,.dT,putK kvs3 [inl w,inl mj.1] (.bl true)]:=Zd;have l4:=Xr kvs3 ([inl w,inl mj.1]:List Key) (.bl true);generalize upd (upd H3 t2 (.tup [.int w,.int mj.1])) m (.dT (putK kvs3 [inl w,inl mj.1] (.bl true)))=H4 at k4 hm4 ⊢;refine⟨_,rfl,_,rfl,_,rfl,g,_,_,_,rfl,rfl,SqL.of (k4 _ _ hg hgn),Z7 hg3,?_⟩;refine⟨_,rfl,_,rfl,l,_,_,_,rfl,rfl,SqL.of (k4 _ _ hl hln),Z7 ht3,tj,_,_,_,rfl,rfl,#[n,k4 _ _ htj htjn],rfl,sz2,fun t4 ht4=>⟨m,_,rfl,DPut.t (k:=[inl w,inl mj.2.1]) (by rw[Zh (Zi hm4 ht4)];exact hm4) Zd (big _ ⋯),?_⟩⟩;have l5:=Xr (putK kvs3 ([inl w,inl mj.1]:List Key) (.bl true)) ([inl w,inl mj.2.1]:List Key) (.bl true);refine⟨#[y,_],fun x o e n=>?_,_,Zd,mi3.some hs hr3 rfl,by omega⟩;have:=k4 x o e n;rw[Zh n,Zh (Zi this ht4)];exact this
  ·rintro σ H3 ⟨⟨v,rfl⟩,k3,kvs3,hm3,mi3,kl3⟩;rw[zw2] at mi3 kl3;rw[tln,<- rln] at mi3;exact⟨⟨_,_,_,_,_,rfl⟩,k3,kvs3,hm3,mi3.next hs,by omega⟩
 ·rintro σ H' ⟨⟨v1,v2,v3,v4,v5,rfl⟩,k2,kvs,hm,mi,kl⟩;rw[OV.length] at mi;refine#[w,_,h m kvs H' hm (mi.all hk0) (fun x o e=>k2 _ _ (s2 _ _ (s1 _ _ e)) (Zi e fm)) fm]
abbrev Ma:Stmt:=top 72
theorem Wj:#[r,["_law_page","_law_met_here","_law_person","_law_match","_law_number","_law_grade","_law_club","_law_home","_law_guest","_law_asked","_law_told"],["_law_page","_law_met_here","_law_person","_law_match"],Ma]:=fnS
theorem zat(F:#[l,"_law_bars","_law_bars",Ma])(T:#[o]):FnOk P w K mg base #[k] 1 f fd ["_law_page","_law_met_here","_law_person","_law_match"] (zal K):=by
 refine #[p,Wj];obtain⟨ok,d,m,t1,t2,P0,kvs,x,y,rfl,PA,hm,mo,h1,h2,h⟩:=h;have hu:=Xu hr;refine⟨_,(Zb (S5 (pv 2) (Xm (K:=K) (n:=3) rfl rfl (Zv (pN 4 Wj.nd) (Zv (pN 5 Wj.nd) (Zv (pN 6 Wj.nd) Xl)))))
 (Zb (S5 (pv 3) (Xm (K:=K) (n:=3) rfl rfl (Zv (pN 7 Wj.nd) (Zv (pN 8 Wj.nd) (Zv (pN 9 Wj.nd) Xl)))))
 (Zb (pS 10 Wj.nd (Z2 Zc))
 (Zb (Zy (Zp (Qd (K:=K) rfl hr.units) (Z9 (Za (Zs Yo (Zm (cL K) (by rfl) T.znu PySem.boot_len (Za (pD hu (pv 0) Zn) Zc)) Zg) (Za (pv 4) Zc))) (pD hu (pv 0) Zn) (by with_unfolding_all rfl))
  (Zf (Y3 (pv 10) Zn))
  Zq)
 (Zb (Zy (Zp Ui (pv 9) (pv 5) (Zr _))
  (Zf (Y3 (pv 10) Zn))
  Zq)
 (Zb (Zy (PW.pt (X3 (Zp Y6 (pv 6) (pv 7) (Zr _)) (Xt (Zp Y6 (pv 6) (pv 8) (Zr _)))))
  (Zf (Y3 (pv 10) Zn))
  Zq)
 (Zb (Zy (PW.pt (X3 (S4 (Pc hu (Z9 (Za (pv 4) (Za (pv 7) Zc))) (pv 1))) (Xt (S4 (Pc hu (Z9 (Za (pv 4) (Za (pv 8) Zc))) (pv 1))))))
  (Zf (Y3 (pv 10) Zn))
  Zq)
 (Zf (Zl (pv 10)))))))))),?_⟩
 show let y1:TS:=_;let y2:TS:=Z1 _ y1;let y3:TS:=Z1 _ y2;let y4:TS:=Z1 _ y3;let y5:TS:=Z1 _ y4;let y6:TS:=Z1 _ y5;let y7:TS:=Z1 _ y6;Z1 _ y7 _ _ _;intro y1 y2 y3 y4 y5 y6 y7;obtain⟨n,g,c⟩:=x;obtain⟨ho,gu,as⟩:=y;have h1:H t1=#[b,.tup,[.int n,.int g,.int c]]:=h1;have h2:H t2=#[b,.tup,[.int ho,.int gu,.int as]]:=h2;obtain⟨lp,lo,lv,dv,li,lg,lm,pts,ots,vts,mts,a1,a2,a3,a4,a5,a6,a7,a8,a9,c1,c2,c3,o1,o2,o3,o4,o5,o6⟩:=PA;refine⟨_,rfl,t1,_,rfl,#[n,h1],rfl,_,_,rfl,_,_,rfl,_,_,rfl,rfl,?_⟩;refine⟨_,rfl,t2,_,rfl,#[n,h2],rfl,_,_,rfl,_,_,rfl,_,_,rfl,rfl,?_⟩;refine#[ap,fun l hl=>?_];have s1:=Ze (o:=.lst []) hl;have q1:upd H l (.lst []) l=some #[i,([]:List Str).map,V.str]:=Zd;generalize upd H l (.lst [])=H1 at s1 q1;walk_at "if";have b1:=L8 (decide (((P0.over.length:Int)+1,n)∈P0.out)) "away";have b2:=L8 (decide (g<as)) "grade";have b3:=L8 (#[g,c=ho]||#[g,c=gu]) "club";refine Ss (b:=decide (((P0.over.length:Int)+1,n)∈P0.out)) (H0:=H) (fun Q q=>?_) hl s1 q1 ⋯ rfl fun H2 s2 q2 _=>?_
 ·refine⟨_,rfl,d,_,rfl,#[an,s1 _ _ a1],lv,vts,rfl,#[C,s1 _ _ a6],_,_,rfl,rfl,_,rfl,sz2,fun t ht=>?_⟩;have s3:=Ze (o:=.tup [.int ((vts.length:Int)+1),.int n]) ht;refine⟨_,rfl,d,_,rfl,DGet.k (k:=.inr "out") (s3 _ _ (s1 _ _ a1)),t,lo,ots,_,_,P0.out,rfl,rfl,#[n,Zd],#[Q,s3,s1 _ _ a4],a5.mono fun _ _ z=>s3 _ _ (s1 _ _ z),_,rfl,?_⟩;rw[a7.length] at s3 ⊢;exact q _ s3
 rw[List.nil_append] at q2;have din:∀ (H3:Hp) (cc:Int) (Q3:Bool->Hp->Prop),Same H H3->(∀ H4,Same H3 H4->Q3 (Qs (P0.over.map Ya) n cc P0.rest) H4)->∀ t,H3 t=none->Q3 (valV kvs [inl n,inl cc]).isSome (upd H3 t (.tup #[M,n,cc])):=fun H3 cc Q3 s3 q3 t ht=>by
  rw[mo n cc];exact q3 _ (Ze ht)
 refine Ss (b:=decide (g<as)) (H0:=H) (Mp fun Q q=>⟨_,rfl,_,rfl,_,_,rfl,rfl,_,rfl,q⟩) hl s2 q2 ⋯ rfl fun H3 s3 q3 _=>?_;refine Ss (b:=decide (c=ho)||decide (c=gu)) (H0:=H) (Mp (Wu (fun Q q=>⟨_,rfl,_,rfl,rfl,_,rfl,Pd▸q⟩) fun Q q=>⟨_,rfl,_,rfl,rfl,_,rfl,Pd▸q⟩)) hl s3 q3 (by rw[zwp];omega) rfl fun H4 s4 q4 _=>?_;refine Ss (b:=Qs (P0.over.map Ya) n ho P0.rest||Qs (P0.over.map Ya) n gu P0.rest) (H0:=H) (Aj (fun Q q=>?_) fun H5 s5 Q q=>?_) hl s4 q4 (by rw[zwp,zwp];omega) rfl fun H5 s5 q5 _=>?_
 ·exact⟨_,rfl,_,rfl,sz2,fun t ht=>⟨_,rfl,m,_,rfl,DGet.t (k:=[inl n,inl ho]) (Ze ht _ _ (s4 _ _ hm)) Zd,_,rfl,din _ ho _ s4 q t ht⟩⟩
 ·exact⟨_,rfl,_,rfl,sz2,fun t ht=>⟨_,rfl,m,_,rfl,DGet.t (k:=[inl n,inl gu]) (Ze ht _ _ (s5 _ _ (s4 _ _ hm))) Zd,_,rfl,din _ gu _ (s4.trans s5) q t ht⟩⟩
 refine#[w,_,h l H5 ?_ s5 hl];unfold Ow whyS;rw[q5,zx9,zx9]
abbrev Mb:Stmt:=top 73
theorem U4:#[r,["_law_page","_law_met_here","_law_may","_law_match","_law_fit"],["_law_page"],Mb]:=fnS
theorem zau(F:#[l,"_law_open","_law_open",Mb])(T:#[o])(zsl:Z4 P w K mg base "_law_met" 1 ["_law_page"] (zdb K))(zr6:Z4 P w K mg base "_law_bars" 1 ["_law_page","_law_met_here","_law_person","_law_match"] (zal K)):FnOk P w K mg base #[k] 2 f fd ["_law_page"] (C6 K):=by
 refine #[p,U4];obtain⟨ok,d,P0,ms,rfl,PA,PO,hms,hl1,hl2,h⟩:=h;have hu:=Xu hr;refine⟨_,(Zb (pS 1 U4.nd (pF zsl hr (Za (pv 0) Zc)))
 (Zb (pS 2 U4.nd (Z2 Zc))
 (Zb (Xc PassesOwn.leaving rfl (Yh (K:=K) rfl (pD hu (pv 0) Zn)) (pN 3 U4.nd)
  (Zb (Sw (i:=4) U4.nd rfl rfl rfl (cT ["_law_page","_law_met_here","_law_match"] [0,1,3]) (Yh (K:=K) rfl (pD hu (pv 0) Zn)) (fun _ _ _ _ _=>Ir (Zp (zh9 (K:=K) rfl hr.units) (Af zr6 (hr.mono ⋯) Ae rfl (Za (pv 1) (Za (pv 2) (Za (pv 0) (Za (pv 3) Zc))))) (Z2 Zc) (Zr _))) (fun _ _ _ _ _=>(pv 0)))
  (Zf (Y3 (pv 2) (X7 rfl (cT [] []) (Yh (K:=K) rfl (pv 4)) (fun _ _ _ _ _=>X5) (fun _ _ _ _ _=>(pI (iU K) (pv 0) Zg)))))))
 (Zf (Zl (pv 2)))))),?_⟩
 refine⟨_,rfl,ok,d,P0,rfl,PA,PO,fun m kvs H1 hm mo s1 fm=>?_⟩;obtain⟨lp,lo,lv,dv,li,lg,lm,pts,ots,vts,mts,a1,a2,a3,a4,a5,a6,a7,a8,a9,c1,c2,c3,o1,o2,o3,o4,o5,o6⟩:=id PA;refine#[ap,fun r hr'=>?_];have s2:=s1.trans (Ze (o:=.lst []) hr');have q2:upd H1 r (.lst []) r=#[b,.lst,[]]:=Zd;have hm2:upd H1 r (.lst []) m=#[b,.dT,kvs]:=Ze hr' _ _ hm;have fr:=s1.free hr';walk_at "if";generalize upd H1 r (.lst [])=H2 at s2 q2 hm2 ⊢;rw[hms] at a9;obtain⟨ll,ts,rfl,hll,tl,_⟩:=a9;have htl:ts.length=ms.length:=by rw[tl.length,zwm]
 have hpl:pts.length=P0.ppl.length:=by rw[a3.length,zwm]
 have hmr:m≠r:=fun z=>by rw[z,q2] at hm2;cases hm2
 refine⟨_,rfl,d,_,rfl,DGet.k (k:=.inr "listed") (s2 _ _ a1),ll,rfl,⟨_,SqL.of (s2 _ _ hll)⟩,Wy (K:=K) (a:=ll) (xs:=ts) (fun i σ H'=>(∃ v1 v2,σ=[#[e,d],#[e,m],#[e,r],v1,v2])/\(∀ x o,H2 x=#[d]->x≠r->H' x=#[d]) /\
  ∃ ls,H' r=some #[i,ls.map,V.ref]/\ILs H' ls ((Po P0 ms).take i)/\ls.length=i/\∀ x∈ls,H x=none/\x≠r) ⟨⟨_,_,rfl⟩,fun _ _ e _=>e,[],q2,.nil,rfl,by simp⟩ (fun i σ H' _ ⟨_,k,_⟩=>SqL.of (k _ _ (s2 _ _ hll) (Zi hll fr))) ?_ ?_⟩
 ·rintro i x σ H' hx ⟨⟨v1,v2,rfl⟩,k2,ls,hr3,il,hln,hfr⟩;obtain⟨t,mm,rfl,hmm,ht⟩:=Ot tl hx;have sh:#[v]:=fun x o e=>k2 _ _ (s2 _ _ e) (Zi e fr);refine⟨_,rfl,d,_,rfl,DGet.k (k:=.inr "people") (sh _ _ a1),lp,rfl,⟨_,SqL.of (sh _ _ a2)⟩,?_⟩;refine Wf (K:=K) (a:=lp) (xs:=pts) (fun i ys H''=>Same H' H''/\TupL H'' ys (((P0.ppl.take i).filter fun x=>(Ow P0 x mm).isEmpty).map pV)) ⟨Same.refl _,.nil⟩ (fun i ys H'' _ ⟨z,_⟩=>#[Q,z,sh _ _ a2]) (szN ⋯) (fun i ys H' ⟨_,e⟩=>by rw[e.length,zwm];exact zw6 (zxw _ _) (zxv _ _)) ?_ ?_
  ·rintro j x ys H3 hx3 ⟨s3,tl3⟩;obtain⟨tp,pp,rfl,hpp,htp⟩:=Ot a3 hx3;have sh3:=sh.trans s3;refine⟨_,rfl,_,rfl,_,rfl,_,rfl,ok,d,m,tp,t,P0,kvs,pp,mm,rfl,PA.same sh3,s3 _ _ (k2 _ _ hm2 hmr),mo,sh3 _ _ htp,sh3 _ _ ht,fun lw H4 hlw s4 fw=>?_⟩;refine#[ap,fun le hle=>?_];have s5:=s4.trans (Ze (o:=.lst []) hle);refine⟨_,_,.lst (SqL.of (Ze hle _ _ hlw)) (Qe _),.lst (SqL.of Zd) .nil,C7 _ zis,zie,_,rfl,?_⟩;generalize upd H4 le (.lst [])=H5 at s5 ⊢;rw[#[c,(show ¬ false=true by decide)],zif];have e:P0.ppl.take (j+1)=P0.ppl.take j++[pp]:=Xo hpp;rw[e,zyx,zwq];refine itB (fun hb=>?_) fun hb=>?_
   ·refine⟨_,rfl,s3.trans s5,?_⟩;rw[List.filter_cons_of_pos (p:=fun x=>(Ow P0 x mm).isEmpty) (a:=pp) hb,List.filter_nil];exact(tl3.same s5).snoc (s5 _ _ (sh3 _ _ htp))
   ·refine⟨s3.trans s5,?_⟩;rw[List.filter_cons_of_neg (p:=fun x=>(Ow P0 x mm).isEmpty) (a:=pp) (by rw[hb];decide),List.filter_nil,zyt,zyv];exact tl3.same s5
  ·rintro ys H3 ⟨s3,tl3⟩ lf hlf;rw[hpl,zw3] at tl3;have s4:=s3.trans (Ze (o:=.lst ys) hlf);have q4:upd H3 lf (.lst ys) lf=#[b,.lst,ys]:=Zd;have tl4:=tl3.same (Ze (o:=.lst ys) hlf);show Ws 4 (V.ref lf) _ (upd H3 lf (.lst ys)) _;generalize upd H3 lf (.lst ys)=H4 at s4 q4 tl4 ⊢;have hfl:ys.length<=100:=by rw[tl3.length,zwm];exact zw6 (zxw _ _) hl2
   walk_at "if";refine⟨_,rfl,r,_,rfl,s4 _ _ hr3,_,rfl,lf,rfl,⟨_,SqL.of q4⟩,Wf (K:=K) (a:=lf) (xs:=ys) (fun i zs H''=>Same H4 H''/\zs=((P0.ppl.filter fun x=>(Ow P0 x mm).isEmpty).take i).map fun x=>V.int x.1) #[y,Same.refl _] (fun i zs H'' _ ⟨z,_⟩=>#[Q,z,q4]) (szN ⋯) (fun i zs H'' ⟨_,e⟩=>by rw[e,zwm];exact zxv _ _) ?_ ?_⟩
   ·rintro j x zs H5 hx5 ⟨s5,rfl⟩;obtain⟨tp,pp,rfl,hpp,htp⟩:=Ot tl4 hx5;unfold tYes;dsimp only;rw[#[f,rfl]];refine⟨_,rfl,tp,_,_,_,rfl,rfl,SqT.of (s5 _ _ htp),show atI (pV pp) 0=some _ from rfl,s5,?_⟩;rw[Xo hpp,zwq];rfl
   ·rintro zs H5 ⟨s5,rfl⟩ ln hln';have hyl:ys.length=(P0.ppl.filter fun x=>(Ow P0 x mm).isEmpty).length:=by rw[tl3.length,zwm]
    rw[hyl,zw3];have er:(P0.ppl.filter fun x=>(Ow P0 x mm).isEmpty).map (fun x=>V.int x.1)=((P0.ppl.filter fun x=>(Ow P0 x mm).isEmpty).map (·.1)).map V.int:=by rw[zyd];rfl
    rw[er];have s6:=(s4.trans s5).trans (Ze (o:=.lst (((P0.ppl.filter fun x=>(Ow P0 x mm).isEmpty).map (·.1)).map V.int)) hln');have q6:upd H5 ln #[i,((P0.ppl.filter fun x=>(Ow P0 x mm).isEmpty).map (·.1)).map,V.int] ln=some #[i,((P0.ppl.filter fun x=>(Ow P0 x mm).isEmpty).map (·.1)).map,V.int]:=Zd;have fl:H' ln=none:=(s4.trans s5).free hln';dsimp only;generalize upd H5 ln (.lst (((P0.ppl.filter fun x=>(Ow P0 x mm).isEmpty).map (·.1)).map V.int))=H6 at s6 q6 ⊢;refine⟨_,s6 _ _ hr3,szN (by rw[zwm];have:=(zwo.mp hx).1;omega),⟨_,_,rfl⟩,fun x o e n=>by rw[Zh n];exact s6 _ _ (k2 _ _ e n),ls++[ln],by rw[zwq];exact Zd,?_,by rw[zwp,hln];rfl,fun y hy=>?_⟩
    ·have e:(Po P0 ms).take (i+1)=(Po P0 ms).take i++[(P0.ppl.filter fun x=>(Ow P0 x mm).isEmpty).map (·.1)]:=by
      unfold Po;rw[zxy,zwu,hmm];rfl
     rw[e];refine ILs.snoc (by rw[Zh (Zi hr3 fl).symm];exact q6) (il.keep fun x hx' o q=>?_);rw[Zh (hfr x hx').2];exact s6 _ _ q
    ·rcases zwy.mp hy with z|z
     ·exact hfr y z
     ·rw[zwt.mp z];exact⟨sh.free fl,(Zi hr3 fl).symm⟩
 ·rintro σ H' ⟨⟨v1,v2,rfl⟩,k2,ls,hr3,il,hln,hfr⟩;have sh:#[v]:=fun x o e=>k2 _ _ (s2 _ _ e) (Zi e fr);have hml:(Po P0 ms).length=ms.length:=by unfold Po;rw[zwm]
  rw[htl,<- hml,zw3] at il;exact#[w,_,h r ls H' hr3 il sh fr fun x hx=>(hfr x hx).1]
abbrev Ob:Stmt:=top 74
theorem Tq:#[r,["_law_pages","_law_deed","_law_page","_law_at_here","_law_kept"],["_law_pages","_law_deed"],Ob]:=fnS
theorem Bo(F:#[l,"_law_paged","_law_paged",Ob])(T:#[o])(zou:Z4 P w K mg base "_law_open" 2 ["_law_page"] (C6 K)):FnOk P w K mg base #[k] 3 f fd ["_law_pages","_law_deed"] (C8 K):=by
 refine #[p,Tq];obtain⟨ok,l,t,ds,d,P0,D,rfl,hl,PA,hD,PO,hpl,hol,hdl,hcl,h⟩:=h;have hu:=Xu hr;refine⟨_,(Zb (pS 2 Tq.nd (Ys zbs (by rfl) T.ztx PyProof.Rows.boot_dict (Za (pI (iL K) (pv 0) (Td Vd Zg)) Zc)))
 (Zb (pS 3 Tq.nd (Zs Yo (Zm (cL K) (by rfl) T.znu PySem.boot_len (Za (pD hu (pv 2) Zn) Zc)) Zg))
 (Zb (Zy (Zp Y6 (pI (iU K) (pv 1) Zg) Zn (Zr _))
  (Zf (Zl (Mi (Mn (K:=K) rfl) (pv 0) Ip (Iq (Td Vd Zg)))))
  Zq)
 (Zb (Zy (Zp Y6 (pI (iU K) (pv 1) Zg) Zn (Zr _))
  (Zb (pS 4 Tq.nd (Z9 (Za (pD hu (pv 2) Zn) (Za (pD hu (pv 2) Zn) (Za (pD hu (pv 2) Zn) (Za (pF zou hr (Za (pv 2) Zc)) Zc))))))
  (Zb (Yy hu (pv 2) Zn (Zs Vo (pD hu (pv 2) Zn) (Z2 (Za (pv 4) Zc))) rfl)
  (Zb (Yy hu (pv 2) Zn Y8 rfl)
  (Zb (Yy hu (pv 2) Zn (Z2 Zc) rfl)
  (Zb (Yy hu (pv 2) Zn (Z2 Zc) rfl)
  (Zf (Zl (Z2 (Za (pv 2) Zc)))))))))
  Zq)
 (Zb (Zy (Zp Y6 (pI (iU K) (pv 1) Zg) Zn (Zr _))
  (Zb (Yy hu (pv 2) Zn (Zs Vo (pD hu (pv 2) Zn) (Z2 (Za (Z9 (Za (pI (iU K) (pv 1) Zg) (Za (pI (iU K) (pv 1) Zg) (Za (pI (iU K) (pv 1) Zg) Zc)))) Zc))) rfl)
  (Zf (Yy hu (pv 2) Zn (Z9 (Za Zn (Za (pI (iU K) (pv 1) Zg) (Za (pv 3) Zc)))) rfl)))
  (Zf (Zy (Zp Y6 (pI (iU K) (pv 1) Zg) Zn (Zr _))
   (Zb (Yy hu (pv 2) Zn (pI (iU K) (pv 1) Zg) rfl)
   (Zf (Yy hu (pv 2) Zn (Z9 (Za Zn (Za (Zm (cL K) (by rfl) T.znu PySem.boot_len (Za (pI (iU K) (pv 1) Zg) Zc)) (Za (pv 3) Zc)))) rfl)))
   (Zb (Yy hu (pv 2) Zn (Zs Vo (pD hu (pv 2) Zn) (Z2 (Za (Z9 (Za (pI (iU K) (pv 1) Zg) (Za (pI (iU K) (pv 1) Zg) Zc))) Zc))) rfl)
   (Zf (Yy hu (pv 2) Zn (Z9 (Za Zn (Za (pI (iU K) (pv 1) Zg) (Za (pI (iU K) (pv 1) Zg) Zc)))) rfl))))))
 (Zf (Zl (Zs Vo (pv 0) (Z2 (Za (pv 2) Zc)))))))))),?_⟩
 show let y1:TS:=_;let y2:TS:=Z1 _ y1;let y3:TS:=Z1 _ y2;let y4:TS:=Z1 _ y3;let y5:TS:=Z1 _ y4;let y6:TS:=_;let y7:TS:=Z1 _ y6;let y8:TS:=Z1 (Cf _ (Z1 _ y5) _) y7;let y9:TS:=Z1 _ y8;let y10:TS:=Z1 _ y9;Z1 _ y10 _ _ _;intro y1 y2 y3 y4 y5 y6 y7 y8 y9 y10;obtain⟨lp,lo,lv,dv,li,lg,lm,a1,PB,okd⟩:=id PA.split;have hat:atI ((ds++[d]).map V.ref) (-1)=#[b,V.ref,d]:=by rw[zwq];exact L2.atI_last _ _
 refine⟨_,rfl,_,rfl,l,_,_,_,rfl,rfl,SqL.of hl,hat,d,_,rfl,.inl a1,fun d' fd'=>?_⟩;obtain⟨ok1,hok1⟩:∃ ok1:Addr->Prop,ok1=fun x=>ok x\/H x=none:=#[y,_];have okf:∀ x,H x=none->ok1 x:=fun x hx=>by rw[hok1];exact .inr hx
 have oko:∀ x,ok x->ok1 x:=fun x hx=>by rw[hok1];exact .inl hx
 rw[<- hok1] at h;have s1:=Ze (o:=.dK (pgF P0.len P0.rest lp lo lv dv li lg lm)) fd';have q1:upd H d' (.dK (pgF P0.len P0.rest lp lo lv dv li lg lm)) d'=#[b,.dK,pgF P0.len P0.rest lp lo lv dv li lg lm]:=Zd;have PB1:=(PB.imp (fun x _ o=>oko x o)).keepL (.of s1);walk_at "if";generalize upd H d' (.dK (pgF P0.len P0.rest lp lo lv dv li lg lm))=H1 at s1 q1 PB1 ⊢;have PA1:PgAt ok1 H1 d' P0:=.join q1 PB1 (okf _ fd');obtain⟨vts,v1,v2,v3⟩:=PB1.vv;refine⟨_,rfl,d',_,rfl,#[an,q1],lv,vts,rfl,#[C,v1],_,_,rfl,rfl,?_⟩;rw[v2.length];have wr:∀ {H:Hp} {lp lo lv:Addr} {dv li:V} {lg lm:Addr} {x:V} {k:Str},H d'=#[b,.dK,pgF P0.len P0.rest lp lo lv dv li lg lm]->DPut H d' (.str k) x (upd H d' (.dK (putK (pgF P0.len P0.rest lp lo lv dv li lg lm) (.inr k) x))):=fun q=>DPut.k (k:=.inr _) q zg2;have sz0:([]:List V).length<=sizeLine:=zxh _;have sz1:∀ x:V,[x].length<=sizeLine:=fun x=>by show 1<=sizeLine;rw[sizeLine_eq];decide
 walk_at "if";cases D with
 | back =>
   have ht:H t=#[b,.tup,[.str "take back"]]:=hD;refine⟨_,rfl,t,_,_,_,rfl,rfl,SqT.of (s1 _ _ ht),rfl,rfl,_,rfl,?_⟩;rw[Ov];refine iteT ?_;refine⟨_,rfl,_,rfl,_,rfl,l,_,rfl,#[Q,s1,hl],fun c fc=>?_⟩;rw[zwq,show Nd (ds.map V.ref++[d].map V.ref) none (some (-1))=ds.map V.ref from zg5 _ _];exact h c d' _ Zd (fun z=>absurd rfl z) (s1.trans (Ze fc)) (s1.free fc) fd'
 | close =>
   have ht:H t=#[b,.tup,[.str "close"]]:=hD;refine⟨_,rfl,t,_,_,_,rfl,rfl,SqT.of (s1 _ _ ht),rfl,rfl,_,rfl,?_⟩;rw[Wn ⋯];refine #[P];refine⟨_,rfl,t,_,_,_,rfl,rfl,SqT.of (s1 _ _ ht),rfl,rfl,_,rfl,?_⟩;rw[Ov];refine iteT ?_;obtain⟨ms,hms,hml⟩:=hcl rfl;refine⟨_,rfl,d',_,rfl,DGet.k (k:=.inr "listed") q1,_,rfl,d',_,rfl,DGet.k (k:=.inr "goes") q1,_,rfl,d',_,rfl,DGet.k (k:=.inr "moves") q1,_,rfl,ok1,d',P0,ms,rfl,PA1,PO,hms,hml,hpl,fun ly ls H2 hly ily s2 fly fls=>?_⟩;obtain⟨ll,ts,rfl,b1,b2,b3⟩:∃ l ts,li=.ref l/\H1 l=#[x,ts]/\#[L,H1,ms.map,pV]/\ok1 l:=by have:=PB1.li;rw[hms] at this;exact this
   obtain⟨mts,c1,c2,c3⟩:=PB1.mm;obtain⟨g1,g2⟩:=PB1.gg;have sh2:=s1.trans s2;refine⟨by show 4<=sizeLine;rw[sizeLine_eq];decide,fun tk ftk=>?_⟩;have s3:=s2.trans (Ze (o:=.tup [.ref ll,.ref lg,.ref lm,.ref ly]) ftk);have t3:=Zd (H:=H2) (a:=tk) (o:=.tup [.ref ll,.ref lg,.ref lm,.ref ly]);have y3:=Ze (o:=.tup [.ref ll,.ref lg,.ref lm,.ref ly]) ftk _ _ hly;have i3:=ily.same (Ze (o:=.tup [.ref ll,.ref lg,.ref lm,.ref ly]) ftk);generalize upd H2 tk (.tup [.ref ll,.ref lg,.ref lm,.ref ly])=H3 at s3 t3 y3 i3 ⊢;walk_at "if";refine⟨_,rfl,d',_,rfl,#[an,s3 _ _ q1],_,rfl,sz1 _,fun l1 f1=>?_⟩;have s4:=Ze (o:=.lst [.ref tk]) f1;have t4:=Zd (H:=H3) (a:=l1) (o:=.lst [.ref tk]);generalize upd H3 l1 (.lst [.ref tk])=H4 at s4 t4 ⊢;have s04:=s3.trans s4;refine⟨lv,l1,vts,_,rfl,rfl,s04 _ _ v1,t4,szN (by rw[v2.length];have:=PO.1;show P0.over.length+1<=1000;omega),fun lv' fv'=>?_⟩;have s5:=s4.trans (Ze (o:=.lst (vts++[.ref tk])) fv');have t5:=Zd (H:=H4) (a:=lv') (o:=.lst (vts++[.ref tk]));generalize upd H4 lv' (.lst (vts++[.ref tk]))=H5 at s5 t5 ⊢;have s15:=s3.trans s5;refine⟨_,rfl,d',_,rfl,wr (s15 _ _ q1),?_⟩;rw[zg1];have s6:=Yg (o:=.dK (pgF P0.len P0.rest lp lo lv' dv (.ref ll) lg lm)) fd' (s1.trans s15);have q6:=Zd (H:=H5) (a:=d') (o:=.dK (pgF P0.len P0.rest lp lo lv' dv (.ref ll) lg lm));have k6:=Xz.dict (s15 _ _ q1) (kvs':=pgF P0.len P0.rest lp lo lv' dv (.ref ll) lg lm);generalize upd H5 d' (.dK (pgF P0.len P0.rest lp lo lv' dv (.ref ll) lg lm))=H6 at s6 q6 k6 ⊢;refine⟨_,rfl,d',_,rfl,wr q6,?_⟩;rw[Gq];have s7:=Yg (o:=.dK (pgF P0.len P0.rest lp lo lv' dv .non lg lm)) fd' s6;have q7:=Zd (H:=H6) (a:=d') (o:=.dK (pgF P0.len P0.rest lp lo lv' dv .non lg lm));have k7:=k6.trans (Xz.dict q6 (kvs':=pgF P0.len P0.rest lp lo lv' dv .non lg lm));generalize upd H6 d' (.dK (pgF P0.len P0.rest lp lo lv' dv .non lg lm))=H7 at s7 q7 k7 ⊢;refine⟨sz0,fun lg' fg'=>?_⟩;have s8:=Ze (o:=.lst []) fg';have t8:=Zd (H:=H7) (a:=lg') (o:=.lst []);generalize upd H7 lg' (.lst [])=H8 at s8 t8 ⊢;refine⟨_,rfl,d',_,rfl,wr (s8 _ _ q7),?_⟩;rw[zai];have s9:=Yg (o:=.dK (pgF P0.len P0.rest lp lo lv' dv .non lg' lm)) fd' (s7.trans s8);have q9:=Zd (H:=H8) (a:=d') (o:=.dK (pgF P0.len P0.rest lp lo lv' dv .non lg' lm));have k9':=Xz.dict (s8 _ _ q7) (kvs':=pgF P0.len P0.rest lp lo lv' dv .non lg' lm);generalize upd H8 d' (.dK (pgF P0.len P0.rest lp lo lv' dv .non lg' lm))=H9 at s9 q9 k9' ⊢;have k9:=(k7.trans (.of s8)).trans k9';refine⟨sz0,fun lm' fm'=>?_⟩;have s10:=Ze (o:=.lst []) fm';have t10:=Zd (H:=H9) (a:=lm') (o:=.lst []);generalize upd H9 lm' (.lst [])=H10 at s10 t10 ⊢;refine⟨_,rfl,d',_,rfl,wr (s10 _ _ q9),?_⟩;rw[zen];have s11:=Yg (o:=.dK (pgF P0.len P0.rest lp lo lv' dv .non lg' lm')) fd' (s9.trans s10);have q11:=Zd (H:=H10) (a:=d') (o:=.dK (pgF P0.len P0.rest lp lo lv' dv .non lg' lm'));have k11':=Xz.dict (s10 _ _ q9) (kvs':=pgF P0.len P0.rest lp lo lv' dv .non lg' lm');generalize upd H10 d' (.dK (pgF P0.len P0.rest lp lo lv' dv .non lg' lm'))=H11 at s11 q11 k11' ⊢;have k11:=(k9.trans (.of s10)).trans k11';refine⟨_,rfl,sz1 _,fun lr flr=>?_⟩;have s12:=Ze (o:=.lst [.ref d']) flr;have t12:=Zd (H:=H11) (a:=lr) (o:=.lst [.ref d']);have k12:=k11.trans (.of s12);have k1:=(Xz.of s15).trans k12;have k3:=(Xz.of s5).trans k12;generalize upd H11 lr (.lst [.ref d'])=H12 at s12 t12 k12 k1 k3 ⊢;refine h lr d' H12 t12 (fun _=>?_) (s11.trans s12) (s11.free flr) fd';have b:=PB1.keepL k1;have e:Uq P0 .close={ P0 with over:=P0.over++[⟨ms,Po P0 ms,P0.gv,P0.mv⟩],lis:=none,gv:=[],mv:=[] }:=by unfold Uq;rw[hms];rfl
   rw[e];have fr2:∀ x,H2 x=none->H x=none:=fun x hx=>sh2.free hx;refine .join (P:={ P0 with over:=P0.over++[⟨ms,Po P0 ms,P0.gv,P0.mv⟩],lis:=none,gv:=[],mv:=[] }) (s12 _ _ q11) ⟨b.pp,b.oo,⟨_,k12.1 _ _ t5,Xq.snoc (s:=⟨ms,Po P0 ms,P0.gv,P0.mv⟩) (k3.2 _ _ t3) (k1.1 _ _ b1) (b2.mono k1.2) (k1.1 _ _ g1) (k1.1 _ _ c1) (c2.keepL k1) (k3.1 _ _ y3) (ILs.keepL k3 i3) ⟨b3,g2,c3,okf _ (s1.free fly),fun x hx=>okf _ (s1.free (fls x hx))⟩ (v2.keepL k1),okf _ (s1.free (s04.free fv'))⟩,b.dd,rfl,⟨?_,okf _ (s7.free fg')⟩,[],?_,.nil,okf _ (s9.free fm')⟩ (okf _ fd')
   ·exact s12 _ _ (k11'.1 _ _ (s10 _ _ (k9'.1 _ _ t8)))
   ·exact s12 _ _ (k11'.1 _ _ t10)
 | enrol n g c =>
   have ht:H t=#[b,.tup,[.str "enrol",.int n,.int g,.int c]]:=hD;have ht1:=s1 _ _ ht;have sz3:∀ x y z:V,[x,y,z].length<=sizeLine:=fun x y z=>by show 3<=sizeLine;rw[sizeLine_eq];decide
   refine⟨_,rfl,t,_,_,_,rfl,rfl,#[n,ht1],rfl,rfl,_,rfl,?_⟩;rw[Wn ⋯];refine #[P];refine⟨_,rfl,t,_,_,_,rfl,rfl,#[n,ht1],rfl,rfl,_,rfl,?_⟩;rw[Wn ⋯];refine #[P];refine⟨_,rfl,t,_,_,_,rfl,rfl,#[n,ht1],rfl,rfl,_,rfl,?_⟩;rw[Ov];refine iteT ?_;obtain⟨pts,p1,p2,p3⟩:=PB1.pp;refine⟨_,rfl,d',_,rfl,DGet.k (k:=.inr "people") q1,_,rfl,t,_,_,_,rfl,rfl,#[n,ht1],rfl,_,rfl,t,_,_,_,rfl,rfl,#[n,ht1],rfl,_,rfl,t,_,_,_,rfl,rfl,#[n,ht1],rfl,sz3 _ _ _,fun tp ftp=>?_⟩;have s2:=Ze (o:=.tup [.int n,.int g,.int c]) ftp;have t2:=Zd (H:=H1) (a:=tp) (o:=.tup [.int n,.int g,.int c]);generalize upd H1 tp (.tup [.int n,.int g,.int c])=H2 at s2 t2 ⊢;refine⟨sz1 _,fun l1 f1=>?_⟩;have s3:=Ze (o:=.lst [.ref tp]) f1;have t3:=Zd (H:=H2) (a:=l1) (o:=.lst [.ref tp]);generalize upd H2 l1 (.lst [.ref tp])=H3 at s3 t3 ⊢;have s13:=s2.trans s3;refine⟨lp,l1,pts,_,rfl,rfl,s13 _ _ p1,t3,szN (by rw[p2.length,zwm];show _+1<=1000;omega),fun lp' fp'=>?_⟩;have s4:=s13.trans (Ze (o:=.lst (pts++[.ref tp])) fp');have t4:=Zd (H:=H3) (a:=lp') (o:=.lst (pts++[.ref tp]));have t2':=(s3.trans (Ze (o:=.lst (pts++[.ref tp])) fp')) _ _ t2;generalize upd H3 lp' (.lst (pts++[.ref tp]))=H4 at s4 t4 t2' ⊢;refine⟨_,rfl,d',_,rfl,wr (s4 _ _ q1),?_⟩;rw[zbt];have s5:=Yg (o:=.dK (pgF P0.len P0.rest lp' lo lv dv li lg lm)) fd' (s1.trans s4);have q5:=Zd (H:=H4) (a:=d') (o:=.dK (pgF P0.len P0.rest lp' lo lv dv li lg lm));have k5':=Xz.dict (s4 _ _ q1) (kvs':=pgF P0.len P0.rest lp' lo lv dv li lg lm);generalize upd H4 d' (.dK (pgF P0.len P0.rest lp' lo lv dv li lg lm))=H5 at s5 q5 k5' ⊢;have k5:=(Xz.of s4).trans k5';refine⟨_,rfl,t,_,_,_,rfl,rfl,SqT.of (s5 _ _ ht),rfl,_,rfl,sz3 _ _ _,fun td ftd=>?_⟩;have s6:=Ze (o:=.tup [.str "enrol",.int n,.int ((P0.over.length:Int)+1)]) ftd;have t6:=Zd (H:=H5) (a:=td) (o:=.tup [.str "enrol",.int n,.int ((P0.over.length:Int)+1)]);generalize upd H5 td (.tup [.str "enrol",.int n,.int ((P0.over.length:Int)+1)])=H6 at s6 t6 ⊢;refine⟨_,rfl,d',_,rfl,wr (s6 _ _ q5),?_⟩;rw[Gp];have s7:=Yg (o:=.dK (pgF P0.len P0.rest lp' lo lv (.ref td) li lg lm)) fd' (s5.trans s6);have q7:=Zd (H:=H6) (a:=d') (o:=.dK (pgF P0.len P0.rest lp' lo lv (.ref td) li lg lm));have k7':=Xz.dict (s6 _ _ q5) (kvs':=pgF P0.len P0.rest lp' lo lv (.ref td) li lg lm);generalize upd H6 d' (.dK (pgF P0.len P0.rest lp' lo lv (.ref td) li lg lm))=H7 at s7 q7 k7' ⊢;have k7:=(k5.trans (.of s6)).trans k7';refine⟨_,rfl,_,rfl,sz1 _,fun l2 f2=>?_⟩;have s8:=Ze (o:=.lst [.ref d']) f2;have t8:=Zd (H:=H7) (a:=l2) (o:=.lst [.ref d']);generalize upd H7 l2 (.lst [.ref d'])=H8 at s8 t8 ⊢;refine⟨l,l2,_,_,rfl,rfl,s8 _ _ (s7 _ _ hl),t8,szN (by rw[zwm,zwp];show ds.length+1+1<=1000;omega),fun lr flr=>?_⟩;have er:(ds++[d]).map V.ref++[.ref d']=(ds++[d]++[d']).map V.ref:=by rw[zwq (l₁:=ds++[d])];rfl
   rw[er];have s9:=s8.trans (Ze (o:=.lst ((ds++[d]++[d']).map V.ref)) flr);have t9:=Zd (H:=H8) (a:=lr) (o:=.lst ((ds++[d]++[d']).map V.ref));generalize upd H8 lr (.lst ((ds++[d]++[d']).map V.ref))=H9 at s9 t9 ⊢;have k9:=k7.trans (.of s9);have t6':=s9 _ _ (k7'.2 _ _ t6);refine h lr d' H9 t9 (fun _=>?_) (s7.trans s9) (s7.free (s8.free flr)) fd';have b:=PB1.keepL k9;refine .join (P:=Uq P0 (.enrol n g c)) (s9 _ _ q7) ⟨⟨_,s9 _ _ (k7'.1 _ _ (s6 _ _ (k5'.1 _ _ t4))),?_,okf _ (s1.free (s13.free fp'))⟩,b.oo,b.vv,#[w,td,t6'],b.li,b.gg,b.mm⟩ (okf _ fd');unfold Uq;dsimp only;rw[zwq];exact(p2.mono k9.2).snoc (s9 _ _ (k7'.2 _ _ (s6 _ _ (k5'.2 _ _ t2'))))
 | draw ms =>
   obtain⟨ll,ts,ht,hll,tl,okl⟩:∃ l ts,H t=#[E,[.str "draw up",.ref l]]/\H l=#[x,ts]/\#[L,H,ms.map,pV]/\ok l:=hD;have ht1:=s1 _ _ ht;have sz3:∀ x y z:V,[x,y,z].length<=sizeLine:=fun x y z=>by show 3<=sizeLine;rw[sizeLine_eq];decide
   refine⟨_,rfl,t,_,_,_,rfl,rfl,#[n,ht1],rfl,rfl,_,rfl,?_⟩;rw[Wn ⋯];refine #[P];refine⟨_,rfl,t,_,_,_,rfl,rfl,#[n,ht1],rfl,rfl,_,rfl,?_⟩;rw[Wn ⋯];refine #[P];refine⟨_,rfl,t,_,_,_,rfl,rfl,#[n,ht1],rfl,rfl,_,rfl,?_⟩;rw[Wn ⋯];refine iteF ?_;refine⟨_,rfl,t,_,_,_,rfl,rfl,#[n,ht1],rfl,rfl,_,rfl,?_⟩;rw[Ov];refine iteT ?_;refine⟨_,rfl,t,_,_,_,rfl,rfl,#[n,ht1],rfl,_,rfl,d',_,rfl,wr q1,?_⟩;rw[Gq];have s5:=Yg (o:=.dK (pgF P0.len P0.rest lp lo lv dv (.ref ll) lg lm)) fd' s1;have q5:=Zd (H:=H1) (a:=d') (o:=.dK (pgF P0.len P0.rest lp lo lv dv (.ref ll) lg lm));have k5:=Xz.dict q1 (kvs':=pgF P0.len P0.rest lp lo lv dv (.ref ll) lg lm);generalize upd H1 d' (.dK (pgF P0.len P0.rest lp lo lv dv (.ref ll) lg lm))=H5 at s5 q5 k5 ⊢;have ez:(ts.length:Int)=(ms.length:Int):=by rw[tl.length,zwm]
   refine⟨_,rfl,t,_,_,_,rfl,rfl,SqT.of (s5 _ _ ht),rfl,ll,ts,rfl,#[C,s5 _ _ hll],_,rfl,sz3 _ _ _,fun td ftd=>?_⟩;have s6:=Ze (o:=.tup [.str "draw up",.int (ts.length:Int),.int ((P0.over.length:Int)+1)]) ftd;have t6:=Zd (H:=H5) (a:=td) (o:=.tup [.str "draw up",.int (ts.length:Int),.int ((P0.over.length:Int)+1)]);generalize upd H5 td (.tup [.str "draw up",.int (ts.length:Int),.int ((P0.over.length:Int)+1)])=H6 at s6 t6 ⊢;refine⟨_,rfl,d',_,rfl,wr (s6 _ _ q5),?_⟩;rw[Gp];have s7:=Yg (o:=.dK (pgF P0.len P0.rest lp lo lv (.ref td) (.ref ll) lg lm)) fd' (s5.trans s6);have q7:=Zd (H:=H6) (a:=d') (o:=.dK (pgF P0.len P0.rest lp lo lv (.ref td) (.ref ll) lg lm));have k7':=Xz.dict (s6 _ _ q5) (kvs':=pgF P0.len P0.rest lp lo lv (.ref td) (.ref ll) lg lm);generalize upd H6 d' (.dK (pgF P0.len P0.rest lp lo lv (.ref td) (.ref ll) lg lm))=H7 at s7 q7 k7' ⊢;have k7:=(k5.trans (.of s6)).trans k7';refine⟨_,rfl,_,rfl,sz1 _,fun l2 f2=>?_⟩;have s8:=Ze (o:=.lst [.ref d']) f2;have t8:=Zd (H:=H7) (a:=l2) (o:=.lst [.ref d']);generalize upd H7 l2 (.lst [.ref d'])=H8 at s8 t8 ⊢;refine⟨l,l2,_,_,rfl,rfl,s8 _ _ (s7 _ _ hl),t8,szN (by rw[zwm,zwp];show ds.length+1+1<=1000;omega),fun lr flr=>?_⟩;have er:(ds++[d]).map V.ref++[.ref d']=(ds++[d]++[d']).map V.ref:=by rw[zwq (l₁:=ds++[d])];rfl
   rw[er];have s9:=s8.trans (Ze (o:=.lst ((ds++[d]++[d']).map V.ref)) flr);have t9:=Zd (H:=H8) (a:=lr) (o:=.lst ((ds++[d]++[d']).map V.ref));generalize upd H8 lr (.lst ((ds++[d]++[d']).map V.ref))=H9 at s9 t9 ⊢;have k9:=k7.trans (.of s9);have t6':=s9 _ _ (k7'.2 _ _ t6);refine h lr d' H9 t9 (fun _=>?_) (s7.trans s9) (s7.free (s8.free flr)) fd';have b:=PB1.keepL k9;rw[ez] at t6';exact .join (P:=Uq P0 (.draw ms)) (s9 _ _ q7) ⟨b.pp,b.oo,b.vv,#[w,td,t6'],⟨ll,ts,rfl,s9 _ _ (s7 _ _ hll),tl.mono fun x xs z=>s9 _ _ (s7 _ _ z),oko _ okl⟩,b.gg,b.mm⟩ (okf _ fd')
 | away i n =>
   have ht:H t=#[b,.tup,[.str "away",.int i,.int n]]:=hD;have ht1:=s1 _ _ ht;have sz3:∀ x y z:V,[x,y,z].length<=sizeLine:=fun x y z=>by show 3<=sizeLine;rw[sizeLine_eq];decide
   refine⟨_,rfl,t,_,_,_,rfl,rfl,#[n,ht1],rfl,rfl,_,rfl,?_⟩;rw[Wn ⋯];refine #[P];refine⟨_,rfl,t,_,_,_,rfl,rfl,#[n,ht1],rfl,rfl,_,rfl,?_⟩;rw[Wn ⋯];refine #[P];refine⟨_,rfl,t,_,_,_,rfl,rfl,#[n,ht1],rfl,rfl,_,rfl,?_⟩;rw[Wn ⋯];refine iteF ?_;refine⟨_,rfl,t,_,_,_,rfl,rfl,#[n,ht1],rfl,rfl,_,rfl,?_⟩;rw[Wn ⋯];refine iteF ?_;obtain⟨pts,p1,p2,p3⟩:=PB1.oo;refine⟨_,rfl,d',_,rfl,DGet.k (k:=.inr "out") q1,_,rfl,t,_,_,_,rfl,rfl,#[n,ht1],rfl,_,rfl,t,_,_,_,rfl,rfl,#[n,ht1],rfl,sz2,fun tp ftp=>?_⟩;have s2:=Ze (o:=.tup [.int i,.int n]) ftp;have t2:=Zd (H:=H1) (a:=tp) (o:=.tup [.int i,.int n]);generalize upd H1 tp (.tup [.int i,.int n])=H2 at s2 t2 ⊢;refine⟨sz1 _,fun l1 f1=>?_⟩;have s3:=Ze (o:=.lst [.ref tp]) f1;have t3:=Zd (H:=H2) (a:=l1) (o:=.lst [.ref tp]);generalize upd H2 l1 (.lst [.ref tp])=H3 at s3 t3 ⊢;have s13:=s2.trans s3;refine⟨lo,l1,pts,_,rfl,rfl,s13 _ _ p1,t3,szN (by rw[p2.length,zwm];show _+1<=1000;omega),fun lo' fp'=>?_⟩;have s4:=s13.trans (Ze (o:=.lst (pts++[.ref tp])) fp');have t4:=Zd (H:=H3) (a:=lo') (o:=.lst (pts++[.ref tp]));have t2':=(s3.trans (Ze (o:=.lst (pts++[.ref tp])) fp')) _ _ t2;generalize upd H3 lo' (.lst (pts++[.ref tp]))=H4 at s4 t4 t2' ⊢;refine⟨_,rfl,d',_,rfl,wr (s4 _ _ q1),?_⟩;rw[ziq];have s5:=Yg (o:=.dK (pgF P0.len P0.rest lp lo' lv dv li lg lm)) fd' (s1.trans s4);have q5:=Zd (H:=H4) (a:=d') (o:=.dK (pgF P0.len P0.rest lp lo' lv dv li lg lm));have k5':=Xz.dict (s4 _ _ q1) (kvs':=pgF P0.len P0.rest lp lo' lv dv li lg lm);generalize upd H4 d' (.dK (pgF P0.len P0.rest lp lo' lv dv li lg lm))=H5 at s5 q5 k5' ⊢;have k5:=(Xz.of s4).trans k5';refine⟨_,rfl,t,_,_,_,rfl,rfl,SqT.of (s5 _ _ ht),rfl,_,rfl,t,_,_,_,rfl,rfl,SqT.of (s5 _ _ ht),rfl,sz3 _ _ _,fun td ftd=>?_⟩;have s6:=Ze (o:=.tup [.str "away",.int n,.int i]) ftd;have t6:=Zd (H:=H5) (a:=td) (o:=.tup [.str "away",.int n,.int i]);generalize upd H5 td (.tup [.str "away",.int n,.int i])=H6 at s6 t6 ⊢;refine⟨_,rfl,d',_,rfl,wr (s6 _ _ q5),?_⟩;rw[Gp];have s7:=Yg (o:=.dK (pgF P0.len P0.rest lp lo' lv (.ref td) li lg lm)) fd' (s5.trans s6);have q7:=Zd (H:=H6) (a:=d') (o:=.dK (pgF P0.len P0.rest lp lo' lv (.ref td) li lg lm));have k7':=Xz.dict (s6 _ _ q5) (kvs':=pgF P0.len P0.rest lp lo' lv (.ref td) li lg lm);generalize upd H6 d' (.dK (pgF P0.len P0.rest lp lo' lv (.ref td) li lg lm))=H7 at s7 q7 k7' ⊢;have k7:=(k5.trans (.of s6)).trans k7';refine⟨_,rfl,_,rfl,sz1 _,fun l2 f2=>?_⟩;have s8:=Ze (o:=.lst [.ref d']) f2;have t8:=Zd (H:=H7) (a:=l2) (o:=.lst [.ref d']);generalize upd H7 l2 (.lst [.ref d'])=H8 at s8 t8 ⊢;refine⟨l,l2,_,_,rfl,rfl,s8 _ _ (s7 _ _ hl),t8,szN (by rw[zwm,zwp];show ds.length+1+1<=1000;omega),fun lr flr=>?_⟩;have er:(ds++[d]).map V.ref++[.ref d']=(ds++[d]++[d']).map V.ref:=by rw[zwq (l₁:=ds++[d])];rfl
   rw[er];have s9:=s8.trans (Ze (o:=.lst ((ds++[d]++[d']).map V.ref)) flr);have t9:=Zd (H:=H8) (a:=lr) (o:=.lst ((ds++[d]++[d']).map V.ref));generalize upd H8 lr (.lst ((ds++[d]++[d']).map V.ref))=H9 at s9 t9 ⊢;have k9:=k7.trans (.of s9);have t6':=s9 _ _ (k7'.2 _ _ t6);refine h lr d' H9 t9 (fun _=>?_) (s7.trans s9) (s7.free (s8.free flr)) fd';have b:=PB1.keepL k9;refine .join (P:=Uq P0 (.away i n)) (s9 _ _ q7) ⟨b.pp,⟨_,s9 _ _ (k7'.1 _ _ (s6 _ _ (k5'.1 _ _ t4))),?_,okf _ (s1.free (s13.free fp'))⟩,b.vv,#[w,td,t6'],b.li,b.gg,b.mm⟩ (okf _ fd');unfold Uq;dsimp only;rw[zwq];exact(p2.mono k9.2).snoc (s9 _ _ (k7'.2 _ _ (s6 _ _ (k5'.2 _ _ t2'))))
abbrev Yl:Stmt:=top 75
theorem Y2:#[r,["_law_cell_here","_law_clubs_here","_law_most","_law_mixed","_law_matches_here","_law_many","_law_grades","_law_rest_here","_law_k","_law_home","_law_guest"],["_law_cell_here","_law_clubs_here","_law_most","_law_mixed"],Yl]:=fnS
@[irreducible] def Ud:List Expr:=zel (Ou (X2 (Zx Yl) 2))
@[irreducible] def Oc:Pos:=zem (Ou (X2 (Zx Yl) 2))
theorem Kv:Zx Yl=[X2 (Zx Yl) 0,X2 (Zx Yl) 1,.Assign (zg0 (X2 (Zx Yl) 2)) (.List Ud Oc) (stP (X2 (Zx Yl) 2)),X2 (Zx Yl) 3,X2 (Zx Yl) 4,X2 (Zx Yl) 5]:=by unfold Ud Oc;kernel_rfl
theorem Kw:Gn Ud [1,2,3,4,5,6,7,8,9,1,1,1,1,2,2,3,3,4]:=by unfold Ud;exact⟨by kernel_rfl,by kernel_rfl⟩
theorem Fs(F:#[l,"_law_matches","_law_matches",Yl])(T:#[o])(zo3:Z4 P w K mg base "_law_mix" 1 ["_law_cell_here","_law_k"] zcs):FnOk P w K mg base #[k] 2 f fd ["_law_cell_here","_law_clubs_here","_law_most","_law_mixed"] (Jd K):=by
 refine #[p,Y2];obtain⟨b,ns,cell,most,mixed,rfl,hb,hl1,hl2,nd,rng,hm1,hmx,h⟩:=h;rw[Kv];refine⟨_,(Zb (pS 4 Y2.nd (Z2 Zc))
 (Zb (pS 5 Y2.nd (Zm (cL K) (by rfl) T.znu PySem.boot_len (Za (pv 1) Zc)))
 (Zb (pS 6 Y2.nd (Z2 (Ol [1,2,3,4,5,6,7,8,9,1,1,1,1,2,2,3,3,4] Kw)))
 (Zb (pS 7 Y2.nd (Zs Yt (pv 0) (Zs Yo (pv 2) Zg)))
 (Zb (Xc PassesOwn.leaving rfl (Xb rfl T.zog (Za (Zs Ye (pv 0) (Zs Yo (pv 2) Zg)) Zc)) (pN 8 Y2.nd)
  (Zb (pS 9 Y2.nd (Zs Ye (pv 7) (pv 5)))
  (Zb (pS 10 Y2.nd (Zs Ye (Zs Yo (Zs Yo (pv 9) Zg) (Zs Ye (Zs Yt (pv 7) (pv 5)) (Zs S6 (pv 5) Zg))) (pv 5)))
  (Zb (Y3 (pv 4) (Z9 (Za (pI (iL K) (pv 1) (pv 9)) (Za (pI (iL K) (pv 1) (pv 10)) (Za (pI (iL K) (pv 6) (Zs Ye (Zs Yt (Zs Yt (pv 7) (pv 5)) (Zs S6 (pv 5) Zg)) Zg)) Zc)))))
  (Zf (pS 7 Y2.nd (pI (iL K) (Z2 (Za (Zs Yt (Zs Yt (Zs Yt (pv 7) (pv 5)) (Zs S6 (pv 5) Zg)) Zg) (Za (pF zo3 hr (Za (pv 7) (Za (pv 8) Zc))) Zc))) (pv 3))))))))
 (Zf (Zl (pv 4)))))))),?_⟩
 show let y1:TS:=_;let y2:TS:=Z1 _ y1;let y3:TS:=Z1 _ y2;let y4:TS:=_;let y5:TS:=Z1 (zhn _ _ (Z1 _ y3)) y4;let y6:TS:=Z1 _ y5;let y7:TS:=Z1 _ y6;let y8:TS:=Z1 _ y7;Z1 _ y8 _ _ _;intro y1 y2 y3 y4 y5 y6 y7 y8;have sz0:([]:List V).length<=sizeLine:=zxh _;have sz3:∀ x y z:V,[x,y,z].length<=sizeLine:=fun x y z=>by show 3<=sizeLine;rw[sizeLine_eq];decide
 refine⟨sz0,fun r fr=>?_⟩;have s1:=Ze (o:=.lst []) fr;have q1:=Zd (H:=H) (a:=r) (o:=.lst []);walk_at "if";generalize upd H r (.lst [])=H1 at s1 q1 ⊢;refine⟨_,rfl,b,_,rfl,#[C,s1 _ _ hb],?_⟩;rw[zwm];walk_at "if";refine zag [1,2,3,4,5,6,7,8,9,1,1,1,1,2,2,3,3,4] ⋯ fun lg H2 hg s2 fg=>?_;have frg:lg≠r:=(Zi q1 fg).symm;have hc:(0:Int)<(most:Int)+1:=by omega
 refine⟨_,rfl,_,rfl,_,_,rfl,rfl,_,_,rfl,rfl,⟨hc,by omega⟩,?_⟩;walk_at "if";refine⟨_,rfl,_,rfl,_,_,rfl,rfl,_,_,rfl,rfl,hc,_,rfl,?_⟩;have c0:=zxq cell (show ((most:Int)+1)≠0 by omega);have c1:=zxm cell hc;have hn0:(0:Int)<(ns.length:Int):=by omega
 have hn1:(0:Int)<(ns.length:Int)-1:=by omega
 let jv2:Nat->L2.St->Hp->Prop:=fun i σ H'=>(∃ v8 v9 v10 R,σ=[some (.int cell),some (.ref b),some (.int most),some (.int mixed),some (.ref r),some (.int ns.length),some (.ref lg),some (.int R),v8,v9,v10])/\(∀ x o,H2 x=some o->x≠r->H' x=some o)/\∃ ts ms,H' r=#[x,ts]/\#[L,H',ms.map,pV]/\ms.length=i/\zg6 ms
 refine⟨by omega,by omega,Xs jv2
  ⟨⟨_,_,_,_,rfl⟩,fun _ _ e _=>e,[],[],s2 _ _ q1,.nil,rfl,(fun m z=>nomatch z),(fun m z=>nomatch z)⟩ ?_ ?_⟩
 ·rintro i σ H' hi ⟨⟨v8,v9,v10,R,rfl⟩,k,ts,ms,hr',tl,hml,gm⟩;have hb':=k _ _ (s2 _ _ (s1 _ _ hb)) (Zi hb fr);have hg':=k _ _ hg frg;have e0:=zxq R (show (ns.length:Int)≠0 by omega);have e1:=zxm R hn0;have f0:=zxq (R/(ns.length:Int)) (show (ns.length:Int)-1≠0 by omega);have f1:=zxm (R/(ns.length:Int)) hn1;have w0:=zxq (R/(ns.length:Int)/((ns.length:Int)-1)) (show (18:Int)≠0 by omega);have w1:=zxm (R/(ns.length:Int)/((ns.length:Int)-1)) (show (0:Int)<18 by omega);obtain⟨g0,g1,g2⟩:=zg7 e0 e1 (y:=1+R/(ns.length:Int)%((ns.length:Int)-1)) ⋯ ⋯;rw[<- Int.add_assoc] at g0 g1 g2;refine⟨_,rfl,_,rfl,_,_,rfl,rfl,hn0,?_⟩;walk_at "if";refine⟨_,rfl,_,_,rfl,rfl,_,rfl,_,rfl,_,_,rfl,rfl,⟨hn0,by omega⟩,_,rfl,_,_,rfl,rfl,_,_,rfl,rfl,hn1,_,_,rfl,rfl,_,rfl,_,_,rfl,rfl,hn0,?_⟩;walk_at "if";generalize hG:(R%(ns.length:Int)+1+R/(ns.length:Int)%((ns.length:Int)-1))%(ns.length:Int)=gu at g0 g1 g2 ⊢;generalize hHo:R%(ns.length:Int)=ho at e0 e1 g2 ⊢;refine⟨_,rfl,r,_,rfl,hr',?_⟩;have hgr:=Wg (xs:=C9) w0 (by show _<((18:Nat):Int);omega);have rgr:=zbw (R/(ns.length:Int)/((ns.length:Int)-1)%18).toNat ⋯;generalize hgv:C9.getD (R/(ns.length:Int)/((ns.length:Int)-1)%18).toNat 0=gv at hgr rgr;have hho:=Wg (xs:=ns) e0 ⋯;have hgu:=Wg (xs:=ns) g0 ⋯;have mho:=Ur (ns:=ns) (i:=ho.toNat) ⋯;have mgu:=Ur (ns:=ns) (i:=gu.toNat) ⋯;have hne:ns.getD ho.toNat 0≠ns.getD gu.toNat 0:=fun z=>by
   have:=zg8 nd ⋯ ⋯ z;omega
  generalize ns.getD ho.toNat 0=a1 at hho mho hne;generalize ns.getD gu.toNat 0=a2 at hgu mgu hne;refine⟨_,rfl,_,rfl,b,_,_,_,rfl,rfl,SqL.of hb',hho,_,rfl,_,rfl,b,_,_,_,rfl,rfl,SqL.of hb',hgu,?_⟩;refine⟨_,rfl,_,rfl,_,rfl,_,_,rfl,rfl,⟨hn0,by omega⟩,_,rfl,_,_,rfl,rfl,_,_,rfl,rfl,⟨hn1,by omega⟩,_,_,rfl,rfl,⋯,lg,_,_,_,rfl,rfl,SqL.of hg',hgr,sz3 _ _ _,fun t ft=>?_⟩;have s3:=Ze (o:=.tup [.int a1,.int a2,.int gv]) ft;have q3:=Zd (H:=H') (a:=t) (o:=.tup [.int a1,.int a2,.int gv]);generalize upd H' t (.tup [.int a1,.int a2,.int gv])=H3 at s3 q3 ⊢;have tln:=tl.length;rw[zwm] at tln;refine⟨ts,s3 _ _ hr',szN ⋯,?_⟩;have hi':i<101:=by omega
  have k4:∀ x o,H3 x=#[d]->x≠r->upd H3 r (.lst (ts++[.ref t])) x=#[d]:=fun x o e n=>by rw[Zh n];exact e
  have q4:=Zd (H:=H3) (a:=r) (o:=.lst (ts++[.ref t]));have kt4:∀ x ys,H3 x=#[E,ys]->upd H3 r (.lst (ts++[.ref t])) x=#[E,ys]:=fun x ys e=>k4 _ _ e #[ak,Yu,e,s3 _ _ hr'];dsimp only;generalize upd H3 r (.lst (ts++[.ref t]))=H4 at k4 q4 kt4 ⊢;obtain⟨z,hz⟩:=at2 (R/(ns.length:Int)/((ns.length:Int)-1)/18) (zbl R (0+(i:Int))) hmx;refine⟨_,rfl,_,rfl,_,_,rfl,rfl,⟨hn0,by omega⟩,_,rfl,_,_,rfl,rfl,_,_,rfl,rfl,⟨hn1,by omega⟩,_,_,rfl,rfl,⟨by omega,by omega⟩,_,rfl,_,rfl,_,_,rfl,sz2,fun l2 f2=>⟨_,rfl,l2,_,_,_,rfl,rfl,SqL.of Zd,hz,?_⟩⟩;have s5:=Ze (o:=.lst [.int (R/(ns.length:Int)/((ns.length:Int)-1)/18),.int (zbl R (0+(i:Int)))]) f2;refine⟨⟨_,_,_,_,rfl⟩,fun x o e n=>s5 _ _ (k4 _ _ (s3 _ _ (k _ _ e n)) n),ts++[.ref t],ms++[(a1,a2,gv)],s5 _ _ q4,?_,by rw[zwp,hml];rfl,?_,?_⟩
  ·rw[zwq];exact(tl.mono fun x ys e=>s5 _ _ (kt4 _ _ (s3 _ _ e))).snoc (s5 _ _ (kt4 _ _ q3))
  ·intro m hm;rcases zwy.mp hm with hm|hm
   ·exact gm.1 m hm
   ·rw[zwt.mp hm];have:=rng _ mho;have:=rng _ mgu;unfold badM;dsimp only;omega
  ·intro m hm;rcases zwy.mp hm with hm|hm
   ·exact gm.2 m hm
   ·rw[zwt.mp hm];exact hne
 ·rintro σ H' ⟨⟨v8,v9,v10,R,rfl⟩,k,ts,ms,hr',tl,hml,gm⟩;refine#[w,_,h r ts ms H' hr' tl ⋯ gm (fun x o e=>k _ _ (s2 _ _ (s1 _ _ e)) (Zi e fr)) fr]
abbrev Ft:Stmt:=top 76
theorem ze7:#[r,["_law_season","_law_deed"],["_law_season","_law_deed"],Ft]:=fnS
theorem ze8(F:#[l,"_law_do","_law_do",Ft])(T:#[o])(zqa:Zw P w K mg base a.znk "enrol" 5 #[aq] #[h,zc7])(zqu:Zw P w K mg base a.znk "away" 7 ["self","at","number"] #[h,zgy])(zpp:Zw P w K mg base a.znk "draw_up" 6 ["self","matches"] (A4 K (ca a)))(zqo:Zw P w K mg base a.znk "close" 4 ["self"] #[h,zc8])(zpb:Zw P w K mg base a.znk "take_back" 2 ["self"] #[h,Gk]):FnOk P w K mg base #[k] 8 f fd ["_law_season","_law_deed"] (D6 K (ca a)):=by
 refine #[p,ze7];obtain⟨A',S,t,d,rfl,SA,hd,sd,co,po,hz,hoz,htot,hl,hol,hbk,hE,h⟩:=h;refine⟨_,(Zb (Zy (Zp Y6 (pI (iU K) (pv 1) Zg) Zn (Zr _))
  (Zf (Zl (Y0 (pv 0) T.znl zqa (hr.mono ⋯) Zk (Za (pI (iU K) (pv 1) Zg) (Za (pI (iU K) (pv 1) Zg) (Za (pI (iU K) (pv 1) Zg) Zc))))))
  Zq)
 (Zb (Zy (Zp Y6 (pI (iU K) (pv 1) Zg) Zn (Zr _))
  (Zf (Zl (Y0 (pv 0) T.znl zqu (hr.mono ⋯) Zk (Za (pI (iU K) (pv 1) Zg) (Za (pI (iU K) (pv 1) Zg) Zc)))))
  Zq)
 (Zb (Zy (Zp Y6 (pI (iU K) (pv 1) Zg) Zn (Zr _))
  (Zf (Zl (Y0 (pv 0) T.znl zpp (hr.mono ⋯) Zk (Za (Ys (Xf (K:=K) rfl) (by rfl) T.zo0 PyProof.Rows.boot_list (Za (pI (iU K) (pv 1) Zg) Zc)) Zc))))
  Zq)
 (Zb (Zy (Zp Y6 (pI (iU K) (pv 1) Zg) Zn (Zr _))
  (Zf (Zl (Ym (pv 0) T.znl zqo (hr.mono ⋯) Zk)))
  Zq)
 (Zf (Zl (Ym (pv 0) T.znl zpb (hr.mono ⋯) Zk))))))),?_⟩
 have hpl:=po.2;obtain⟨⟨dx,v,a1,a2⟩,_⟩:=id SA;cases d with
 | enrol n g c0 =>
   have ht:H t=#[b,.tup,[.str "enrol",.int n,.int g,.int c0]]:=hd;refine⟨_,rfl,t,_,_,_,rfl,rfl,#[n,ht],rfl,rfl,_,rfl,?_⟩;rw[Ov];refine iteT ?_;refine⟨_,rfl,A'.p,dx,_,rfl,a1,Yd ⋯,_,rfl,t,_,_,_,rfl,rfl,#[n,ht],rfl,_,rfl,t,_,_,_,rfl,rfl,#[n,ht],rfl,_,rfl,t,_,_,_,rfl,rfl,#[n,ht],rfl,A',S,n,g,c0,rfl,SA,sd,by omega,by omega,?_⟩;by_cases c1:S.len<=S.led.length
   ·rw[#[f,c1]];exact hE .seaOver (by simp only[refS];rw[if_pos c1]) H (Same.refl _)
   rw[#[c,c1]];by_cases c2:S.cur.isSome=true
   ·rw[#[f,c2]];exact hE .drawn (by simp only[refS];rw[if_neg c1,if_pos c2]) H (Same.refl _)
   rw[#[c,c2]];by_cases c3:badI n g c0
   ·rw[#[f,c3]];exact hE .out (by simp only[refS];rw[#[c,c1],#[c,c2],#[f,c3]]) H (Same.refl _)
   rw[#[c,c3]];by_cases c4:n∈S.ppl.map (·.1)
   ·rw[#[f,c4]];exact hE .known (by simp only[refS];rw[#[c,c1],#[c,c2],#[c,c3],#[f,c4]]) H (Same.refl _)
   rw[#[c,c4]];by_cases c5:30<=S.ppl.length
   ·rw[#[f,c5]];exact hE .many (by simp only[refS];rw[#[c,c1],#[c,c2],#[c,c3],#[c,c4],#[f,c5]]) H (Same.refl _)
   rw[#[c,c5]];by_cases c6:100<=S.std.length
   ·rw[#[f,c6]];exact hE .manyD (by simp only[refS];rw[#[c,c1],#[c,c2],#[c,c3],#[c,c4],#[c,c5],#[f,c6]]) H (Same.refl _)
   rw[#[c,c6]];exact fun H' SA' f'=>h (by simp only[refS];rw[#[c,c1],#[c,c2],#[c,c3],#[c,c4],#[c,c5],#[c,c6]]) .non A' _ H' (.enrol n g c0) SA' (.refl A' H) f' (fun l z=>nomatch z)
 | away i n =>
   have ht:H t=#[b,.tup,[.str "away",.int i,.int n]]:=hd;refine⟨_,rfl,t,_,_,_,rfl,rfl,#[n,ht],rfl,rfl,_,rfl,?_⟩;rw[Wn ⋯];refine #[P];refine⟨_,rfl,t,_,_,_,rfl,rfl,#[n,ht],rfl,rfl,_,rfl,?_⟩;rw[Ov];refine iteT ?_;refine⟨_,rfl,A'.p,dx,_,rfl,a1,Yd ⋯,_,rfl,t,_,_,_,rfl,rfl,#[n,ht],rfl,_,rfl,t,_,_,_,rfl,rfl,#[n,ht],rfl,A',S,i,n,rfl,SA,sd.1,sd.2,by omega,hoz,po,fun s hs=>?_,?_⟩
   ·obtain⟨c1,c2,c3,c4,c5⟩:=co s hs;exact⟨c1,c2,c4,by omega⟩
   by_cases c1:i<1\/(S.len:Int)<i
   ·rw[#[f,c1]];exact hE .noRound (by simp only[refS];rw[if_pos c1]) H (Same.refl _)
   rw[#[c,c1]];by_cases c2:i<=S.led.length
   ·rw[#[f,c2]];exact hE .over (by simp only[refS];rw[if_neg c1,if_pos c2]) H (Same.refl _)
   rw[#[c,c2]];by_cases c3:n∈S.ppl.map (·.1)
   rotate_left
   ·rw[#[c,c3]];exact hE .unk (by simp only[refS];rw[#[c,c1],#[c,c2],#[c,c3]]) H (Same.refl _)
   rw[#[f,c3]];by_cases c4:(i,n)∈S.out
   ·rw[#[f,c4]];exact hE .away (by simp only[refS];rw[#[c,c1],#[c,c2],#[f,c3],#[f,c4]])
   rw[#[c,c4]];by_cases c5:100<=S.std.length
   ·rw[#[f,c5]];exact hE .manyD (by simp only[refS];rw[#[c,c1],#[c,c2],#[f,c3],#[c,c4],#[f,c5]])
   rw[#[c,c5]];have h:=h (by simp only[refS];rw[#[c,c1],#[c,c2],#[f,c3],#[c,c4],#[c,c5]]);refine⟨fun hc l H' hl' SA' f' fl=>h _ A' _ H' (.awayN hc hl') SA' (.refl A' H) f' (fun l2 z _=>by cases z;exact fl),fun s hi hs hp l H' hl' SA' f' fl=>?_,fun s p hi hs hp l us st e w' H' hl' tl CR SA' f' fl=>?_⟩
   ·subst hi;exact h _ A' _ H' (.awayF hs hp hl') SA' (.refl A' H) f' (fun l2 z _=>by cases z;exact fl)
   ·subst hi;exact h _ A' _ H' (.awayC hs hp hl' tl CR) SA' (.refl A' H) f' (fun l2 z _=>by cases z;exact fl)
 | draw ms =>
   obtain⟨l0,ts,ht,hl0,tl,okl⟩:∃ l ts,H t=#[E,[.str "draw up",.ref l]]/\H l=#[x,ts]/\#[L,H,ms.map,pV]/\l∉A'.fp:=hd;refine⟨_,rfl,t,_,_,_,rfl,rfl,#[n,ht],rfl,rfl,_,rfl,?_⟩;rw[Wn ⋯];refine #[P];refine⟨_,rfl,t,_,_,_,rfl,rfl,#[n,ht],rfl,rfl,_,rfl,?_⟩;rw[Wn ⋯];refine #[P];refine⟨_,rfl,t,_,_,_,rfl,rfl,#[n,ht],rfl,rfl,_,rfl,?_⟩;rw[Ov];refine iteT ?_;refine⟨_,rfl,A'.p,dx,_,rfl,a1,Yd ⋯,_,rfl,t,_,_,_,rfl,rfl,#[n,ht],rfl,l0,ts,rfl,#[C,hl0],fun l1 hl1=>?_⟩;have s1:=Ze (o:=.lst ts) hl1;have q1:upd H l1 (.lst ts) l1=#[b,.lst,ts]:=Zd;generalize upd H l1 (.lst ts)=H1 at s1 q1;refine⟨A',S,l1,ts,ms,rfl,SA.same s1,SqL.of q1,tl.same s1,sd.1,sd.2,by omega,po,?_⟩;by_cases c1:S.len<=S.led.length
   ·rw[#[f,c1]];exact hE .seaOver (by simp only[refS];rw[#[f,c1]]) H1 s1
   rw[#[c,c1]];by_cases c2:S.cur.isSome=true
   ·rw[#[f,c2]];exact hE .drawn (by simp only[refS];rw[#[c,c1],#[f,c2]]) H1 s1
   rw[#[c,c2]];refine⟨fun c3=>hE .manyM (by simp only[refS];rw[#[c,c1],#[c,c2],#[f,c3]]) H1 s1,fun c3 c4=>hE .out (by simp only[refS];rw[#[c,c1],#[c,c2],if_neg ⋯,#[f,c4]]) H1 s1,fun c3 c4 c5=>hE .same (by simp only[refS];rw[#[c,c1],#[c,c2],if_neg ⋯,#[c,c4],#[f,c5]]) H1 s1,fun c3 c4 c5=>⟨fun c6 H' s'=>hE .manyD (by simp only[refS];rw[#[c,c1],#[c,c2],if_neg ⋯,#[c,c4],#[c,c5],#[f,c6]]) H' (s1.trans s'),fun c6 l gv H' hl' SA' FP SP f' fl=>?_⟩⟩;exact h (by simp only[refS];rw[#[c,c1],#[c,c2],if_neg ⋯,#[c,c4],#[c,c5],if_neg ⋯]) _ A' _ H' (.draw hl' FP SP) SA' (.refl A' H) ((FrS.of A' s1).trans f') (fun l2 z _=>by cases z;exact s1.free fl)
 | close =>
   have ht:H t=#[b,.tup,[.str "close"]]:=hd;refine⟨_,rfl,t,_,_,_,rfl,rfl,#[n,ht],rfl,rfl,_,rfl,?_⟩;rw[Wn ⋯];refine #[P];refine⟨_,rfl,t,_,_,_,rfl,rfl,#[n,ht],rfl,rfl,_,rfl,?_⟩;rw[Wn ⋯];refine #[P];refine⟨_,rfl,t,_,_,_,rfl,rfl,#[n,ht],rfl,rfl,_,rfl,?_⟩;rw[Wn ⋯];refine #[P];refine⟨_,rfl,t,_,_,_,rfl,rfl,#[n,ht],rfl,rfl,_,rfl,?_⟩;rw[Ov];refine iteT ?_;refine⟨_,rfl,A'.p,dx,_,rfl,a1,Yd ⋯,A',S,rfl,SA,htot,hl,hol,fun s hs=>?_,?_⟩
   ·obtain⟨c1,c2,c3,c4,c5⟩:=co s hs;refine⟨c2.one,?_,by omega⟩;rw[c2.len,c4];unfold mayS;rw[zwm]
   by_cases c1:S.len<=S.led.length
   ·rw[#[f,c1]];exact hE .seaOver (by simp only[refS];rw[if_pos c1]) H (Same.refl _)
   rw[#[c,c1]];exact⟨fun z=>hE .notDrawn (by simp only[refS];rw[#[c,c1],#[f,z]]) H (Same.refl _),fun s x H' hs SA' f' fx=>h (by simp only[refS];rw[#[c,c1],#[c,(by rw[hs];exact fun z=>nomatch z)]]) _ { A' with lt:=x } _ H' (.close hs) SA' #[w,x,.inr fx] f' (fun l2 z=>nomatch z)⟩
 | back =>
   have ht:H t=#[b,.tup,[.str "take back"]]:=hd;refine⟨_,rfl,t,_,_,_,rfl,rfl,#[n,ht],rfl,rfl,_,rfl,?_⟩;rw[Wn ⋯];refine #[P];refine⟨_,rfl,t,_,_,_,rfl,rfl,#[n,ht],rfl,rfl,_,rfl,?_⟩;rw[Wn ⋯];refine #[P];refine⟨_,rfl,t,_,_,_,rfl,rfl,#[n,ht],rfl,rfl,_,rfl,?_⟩;rw[Wn ⋯];refine #[P];refine⟨_,rfl,t,_,_,_,rfl,rfl,#[n,ht],rfl,rfl,_,rfl,?_⟩;rw[Wn ⋯];refine #[P];refine⟨_,rfl,A'.p,dx,_,rfl,a1,Yd ⋯,A',S,rfl,SA,fun z=>hE .nothing (by simp only[refS];rw[#[f,z]]) H (Same.refl _),fun std d s he=>?_⟩;have hne:S.std≠[]:=by rw[he];simp
   obtain⟨S0,hs0⟩:=hbk rfl hne;obtain⟨d0,e1,e2,e3,e4,e5,e6⟩:=id hs0;rw[e1] at he;obtain⟨he1,he2⟩:=zyp he rfl;have he2:(d0,S0.cur)=(d,s):=by simpa using he2
   cases he2;subst he1;refine⟨S0.ppl,S0.out,e2,fun t' H' ht' SA' f'=>?_⟩;have eS:{ S with ppl:=S0.ppl,out:=S0.out,cur:=S0.cur,std:=S0.std }=S0:=by
    cases S;cases S0;simp only at e3 e4 e5 e6 ⊢;subst e3 e4 e5 e6;rfl
   rw[eS] at SA';exact h (by simp only[refS];rw[#[c,hne]]) _ A' S0 H' (.back e1 ht' hs0) SA' (.refl A' H) f' (fun l2 z hx=>by cases z;obtain⟨xs,hx⟩:=hx;rw[ht'] at hx;cases hx)
abbrev X0:Stmt:=top 77
theorem Jf:#[r,["_law_script","_law_crowd","_law_many"],["_law_script","_law_crowd"],X0]:=fnS
@[irreducible] def Sy:List Expr:=zel (zae (Ou (X2 (Zx X0) 0)))
@[irreducible] def Jg:Pos:=zem (zae (Ou (X2 (Zx X0) 0)))
theorem Er:Zx X0=[.Assign (zg0 (X2 (Zx X0) 0)) (.Subscript (.List Sy Jg) (zin (Ou (X2 (Zx X0) 0))) (zio (Ou (X2 (Zx X0) 0)))) (stP (X2 (Zx X0) 0)),X2 (Zx X0) 1]:=by unfold Sy Jg;kernel_rfl
theorem Et:Gn Sy [4,3,5,4,6,10,4,8]:=by unfold Sy;exact⟨by kernel_rfl,by kernel_rfl⟩
theorem zav(F:#[l,"_law_pool","_law_pool",X0])(T:#[o])(zn3:Z4 P w K mg base "_law_at" 1 ["_law_script","_law_k"] (zd0 K))(zrn:Z4 P w K mg base "_law_clubs" 1 ["_law_cell_here","_law_many"] zct)(zq4:Z4 P w K mg base "_law_numbers" 1 ["_law_cell_here","_law_many"] Hu):FnOk P w K mg base #[k] 2 f fd ["_law_script","_law_crowd"] (A9 K):=by
 refine #[p,Jf];obtain⟨b,ns,cr,rfl,hS,hc1,hc2,h⟩:=h;rw[Er];refine⟨_,(Zb (pS 2 Jf.nd (pI (iL K) (Z2 (Ol [4,3,5,4,6,10,4,8] Et)) (Zs Ye (Zs Yt (pF zn3 hr (Za (pv 0) (Za Zg Zc))) Zg) Zg)))
 (Zf (Zl (Z9 (Za (pF zrn hr (Za (pF zn3 hr (Za (pv 0) (Za Zg Zc))) (Za (pv 2) Zc))) (Za (pF zq4 hr (Za (pF zn3 hr (Za (pv 0) (Za Zg Zc))) (Za (pv 1) Zc))) Zc)))))),?_⟩
 refine zku [4,3,5,4,6,10,4,8] ⋯ fun l H1 q1 s1 fl=>?_;have h0:=zxq (Wb ns 0/4) (show (8:Int)≠0 by decide);have h1:=zxm (Wb ns 0/4) (show (0:Int)<8 by decide);refine⟨_,rfl,b,ns,0,rfl,s1.seq hS,_,_,rfl,rfl,⟨by decide,by decide⟩,_,_,rfl,rfl,(show (0:Int)<8 by decide),l,_,_,_,rfl,rfl,SqL.of q1,Wg (xs:=[4,3,5,4,6,10,4,8]) h0 (by show _<((8:Nat):Int);omega),?_⟩;obtain⟨m,hm,hm1,hm2⟩:∃ m:Nat,([4,3,5,4,6,10,4,8]:List Int).getD (Wb ns 0/4%8).toNat 0=m/\3<=m/\m<=10:=by
  have hk:(Wb ns 0/4%8).toNat<8:=by omega
  generalize (Wb ns 0/4%8).toNat=k at hk
  match k,hk with
  | 0,_=>exact⟨4,rfl,by decide,by decide⟩
  | 1,_=>exact⟨3,rfl,by decide,by decide⟩
  | 2,_=>exact⟨5,rfl,by decide,by decide⟩
  | 3,_=>exact⟨4,rfl,by decide,by decide⟩
  | 4,_=>exact⟨6,rfl,by decide,by decide⟩
  | 5,_=>exact⟨10,rfl,by decide,by decide⟩
  | 6,_=>exact⟨4,rfl,by decide,by decide⟩
  | 7,_=>exact⟨8,rfl,by decide,by decide⟩
 rw[hm];refine⟨_,rfl,b,ns,3,rfl,s1.seq hS,_,rfl,_,m,rfl,by omega,fun lc H2 hlc s2 f2=>?_⟩;refine⟨_,rfl,b,ns,2,rfl,(s1.trans s2).seq hS,_,rfl,_,cr,rfl,by omega,fun ln H3 hln s3 f3=>?_⟩;refine⟨sz2,fun t ht=>?_⟩;have s4:=Ze (o:=.tup [.ref lc,.ref ln]) ht;have s13:=s1.trans (s2.trans s3);refine h t lc ln _ _ _ ⟨Zd,s4 _ _ (s3 _ _ hlc),s4 _ _ hln,by rw[F8];exact⟨hm1,hm2⟩,zab _ hm2,zej _ _,by rw[Mo];exact⟨hc1,hc2⟩,zac _ ⋯,zek _ _⟩ (Mo _ _) (s13.trans s4) (s13.free ht) (s1.free f2) ((s1.trans s2).free f3)
abbrev Yi:Stmt:=top 78
theorem Yw:#[r,["_law_script","_law_pool_here","_law_clubs_here","_law_numbers_here","_law_many","_law_grades","_law_rest_here","_law_deeds","_law_k"],["_law_script","_law_pool_here"],Yi]:=fnS
@[irreducible] def U2:List Expr:=zel (Ou (X2 (Zx Yi) 3))
@[irreducible] def O8:Pos:=zem (Ou (X2 (Zx Yi) 3))
theorem Ig:Zx Yi=[X2 (Zx Yi) 0,X2 (Zx Yi) 1,X2 (Zx Yi) 2,.Assign (zg0 (X2 (Zx Yi) 3)) (.List U2 O8) (stP (X2 (Zx Yi) 3)),X2 (Zx Yi) 4,X2 (Zx Yi) 5,X2 (Zx Yi) 6,X2 (Zx Yi) 7]:=by unfold U2 O8;kernel_rfl
theorem Ih:Gn U2 [1,2,3,4,5,6,7,8,9,9,9,9,9,8,8,7,6,5]:=by unfold U2;exact⟨by kernel_rfl,by kernel_rfl⟩
theorem Eu(F:#[l,"_law_people","_law_people",Yi])(T:#[o])(zn3:Z4 P w K mg base "_law_at" 1 ["_law_script","_law_k"] (zd0 K))(zo3:Z4 P w K mg base "_law_mix" 1 ["_law_cell_here","_law_k"] zcs):FnOk P w K mg base #[k] 2 f fd ["_law_script","_law_pool_here"] (Gs K):=by
 refine #[p,Yw];obtain⟨b,t,lc,ln,ns,cs,nu,rfl,hS,PA,h⟩:=h;rw[Ig];refine⟨_,(Zb (S5 (pv 1) (Xm (K:=K) (n:=2) rfl rfl (Zv (pN 2 Yw.nd) (Zv (pN 3 Yw.nd) Xl))))
 (Zb (pS 4 Yw.nd (Zs Ye (pF zn3 hr (Za (pv 0) (Za Zg Zc))) (Zs Yo (Zm (cL K) (by rfl) T.znu PySem.boot_len (Za (pv 3) Zc)) Zg)))
 (Zb (Zy (Zp Y6 (Zs Ye (Zs Yt (pF zn3 hr (Za (pv 0) (Za Zg Zc))) (Zs Yo (Zm (cL K) (by rfl) T.znu PySem.boot_len (Za (pv 3) Zc)) Zg)) Zg) Zg (Zr _))
  (Zf (pS 4 Yw.nd (Zs S6 (Zm (cL K) (by rfl) T.znu PySem.boot_len (Za (pv 3) Zc)) (Zs Ye (pv 4) Zg))))
  Zq)
 (Zb (pS 5 Yw.nd (Z2 (Ol [1,2,3,4,5,6,7,8,9,9,9,9,9,8,8,7,6,5] Ih)))
 (Zb (pS 6 Yw.nd (pF zn3 hr (Za (pv 0) (Za Zg Zc))))
 (Zb (pS 7 Yw.nd (Z2 Zc))
 (Zb (Xc PassesOwn.leaving rfl (Xb rfl T.zog (Za (pv 4) Zc)) (pN 8 Yw.nd)
  (Zb (Y3 (pv 7) (Z9 (Za Zn (Za (pI (iL K) (pv 3) (pv 8)) (Za (pI (iL K) (pv 5) (Zs Ye (pv 6) Zg)) (Za (pI (iL K) (pv 2) (Zs Ye (Zs Yt (pv 6) Zg) (Zm (cL K) (by rfl) T.znu PySem.boot_len (Za (pv 2) Zc)))) Zc))))))
  (Zf (pS 6 Yw.nd (pI (iL K) (Z2 (Za (Zs Yt (Zs Yt (pv 6) Zg) (Zm (cL K) (by rfl) T.znu PySem.boot_len (Za (pv 2) Zc))) (Za (pF zo3 hr (Za (pv 6) (Za (pv 8) Zc))) Zc))) (Zs Ye (pF zn3 hr (Za (pv 0) (Za Zg Zc))) Zg))))))
 (Zf (Zl (pv 7)))))))))),?_⟩
 show let y1:TS:=_;let y2:TS:=Z1 _ y1;let y3:TS:=Z1 _ y2;let y4:TS:=Z1 _ y3;let y5:TS:=Z1 _ y4;let y6:TS:=Z1 _ y5;let y7:TS:=Z1 _ y6;Z1 _ y7 _ _ _;intro y1 y2 y3 y4 y5 y6 y7;have sz0:([]:List V).length<=sizeLine:=zxh _;have hw:(0:Int)<(nu.length:Int)+1:=by omega
 obtain⟨c1,c2⟩:=PA.few;obtain⟨n1,n2⟩:=PA.nfew;refine⟨_,rfl,t,_,rfl,#[n,PA.tup],rfl,_,_,rfl,_,_,rfl,rfl,?_⟩;walk_at "if";refine⟨_,rfl,b,ns,4,rfl,hS,_,rfl,ln,_,rfl,#[C,PA.nums],_,_,rfl,rfl,?_⟩;rw[zwm];refine⟨_,_,rfl,rfl,hw,?_⟩;walk_at "if";have u0:=zxq (Wb ns 4) (show (nu.length:Int)+1≠0 by omega);have u1:=zxm (Wb ns 4) hw
 let jv3:L2.St->Hp->Prop:=fun σ' H'=>H'=H/\∃ m:Nat,σ'=[#[e,b],#[e,t],#[e,lc],#[e,ln],#[q,m],none,none,none,none]/\m<=nu.length
 refine Ag (b:=decide (V.int (Wb ns 4/((nu.length:Int)+1)%2)=V.int 1)) jv3 (fun Q q=>?_) (fun _ N hN=>?_) (fun _ N hN=>?_) ?_
 ·refine⟨_,rfl,b,ns,4,rfl,hS,_,rfl,ln,_,rfl,#[C,PA.nums],_,_,rfl,rfl,?_⟩;rw[zwm];exact⟨_,_,rfl,rfl,⟨hw,by omega⟩,_,_,rfl,rfl,by omega,rfl,_,rfl,q⟩
 ·refine⟨_,rfl,ln,_,rfl,#[C,PA.nums],?_⟩;rw[zwm];refine⟨_,rfl,_,_,rfl,rfl,by omega,_,_,rfl,rfl,hN _ _ ⟨rfl,((nu.length:Int)-Wb ns 4%((nu.length:Int)+1)%2).toNat,?_,by omega⟩⟩;rw[Int.toNat_of_nonneg ⋯];rfl
 ·refine Zt (hN _ _ ⟨rfl,(Wb ns 4%((nu.length:Int)+1)).toNat,?_,by omega⟩);rw[Int.toNat_of_nonneg ⋯];rfl
 rintro σ H' ⟨rfl,m,rfl,hm⟩;refine zag [1,2,3,4,5,6,7,8,9,9,9,9,9,8,8,7,6,5] ⋯ fun lg H2 hg s2 fg=>?_;refine⟨_,rfl,b,ns,5,rfl,s2.seq hS,sz0,fun r fr=>?_⟩;have s1:=s2.trans (Ze (o:=.lst []) fr);have q1:=Zd (H:=H2) (a:=r) (o:=.lst []);have hg1:=Ze (o:=.lst []) fr _ _ hg;walk_at "if";generalize upd H2 r (.lst [])=H1 at s1 q1 hg1 ⊢;have fr0:=s2.free fr;have frg:lg≠r:=Zi hg fr
 let jv4:Nat->L2.St->Hp->Prop:=fun i σ H3=>(∃ v8 R,σ=[some (.ref b),some (.ref t),some (.ref lc),some (.ref ln),some (.int m),some (.ref lg),some (.int R),some (.ref r),v8])/\(∀ x o,H1 x=some o->x≠r->H3 x=some o)/\∃ ts es,H3 r=#[x,ts]/\#[L,H3,(es:List P3).map,enV]/\es.length=i/\es.map (·.1)=nu.take i/\(∀ x∈es,1<=x.2.1/\x.2.1<=9/\x.2.2∈cs)
 refine⟨_,rfl,_,rfl,by omega,by omega,Xs jv4
  ⟨⟨_,_,rfl⟩,fun _ _ e _=>e,[],[],q1,.nil,rfl,rfl,(fun m z=>nomatch z)⟩ ?_ ?_⟩
 ·rintro i σ H3 hi ⟨⟨v8,R,rfl⟩,k,ts,es,hr',tl,hml,enu,eok⟩;rw[zw2] at hi;rw[zxt];have s3:Same H' H3:=fun x o e=>k _ _ (s1 _ _ e) (Zi e fr0);have hg3:=k _ _ hg1 frg;have PA3:=PA.same s3;have hcl:(0:Int)<(cs.length:Int):=by omega
  have w0:=zxq R (show (18:Int)≠0 by omega);have w1:=zxm R (show (0:Int)<18 by omega);have y0:=zxq (R/18) (show (cs.length:Int)≠0 by omega);have y1:=zxm (R/18) hcl;have hgr:=Wg (xs:=Ba) w0 (by show _<((18:Nat):Int);omega);have rgr:=zbx (R%18).toNat ⋯;generalize hgv:Ba.getD (R%18).toNat 0=gv at hgr rgr;have hcs:=Wg (xs:=cs) y0 ⋯;have mcs:=Ur (ns:=cs) (i:=(R/18%(cs.length:Int)).toNat) ⋯;generalize cs.getD (R/18%(cs.length:Int)).toNat 0=c at hcs mcs;have hni:i<nu.length:=by omega
  have hnu:nu[i]?=some (nu[i]'hni):=zwn hni;have etk:nu.take (i+1)=nu.take i++[nu[i]'hni]:=zxk hni;generalize nu[i]'hni=n at hnu etk;walk_at "if";refine⟨_,rfl,r,_,rfl,hr',?_⟩;refine⟨_,rfl,_,rfl,ln,_,_,_,rfl,rfl,SqL.of PA3.nums,Z7 (by rw[zwu,hnu];rfl),_,rfl,_,rfl,_,_,rfl,rfl,⋯,lg,_,_,_,rfl,rfl,SqL.of hg3,hgr,?_⟩;refine⟨_,rfl,_,rfl,_,_,rfl,rfl,⟨by omega,by omega⟩,_,rfl,lc,_,rfl,#[C,PA3.clubs],?_⟩;rw[zwm];refine⟨_,_,rfl,rfl,hcl,lc,_,_,_,rfl,rfl,SqL.of PA3.clubs,hcs,(by show 4<=sizeLine;rw[sizeLine_eq];decide),fun tt ft=>?_⟩;have s4:=Ze (o:=.tup [.str "enrol",.int n,.int gv,.int c]) ft;have q4:=Zd (H:=H3) (a:=tt) (o:=.tup [.str "enrol",.int n,.int gv,.int c]);generalize upd H3 tt (.tup [.str "enrol",.int n,.int gv,.int c])=H4 at s4 q4 ⊢;have tln:=tl.length;rw[zwm] at tln;refine⟨ts,s4 _ _ hr',szN ⋯,?_⟩;have k5:∀ x o,H4 x=#[d]->x≠r->upd H4 r (.lst (ts++[.ref tt])) x=#[d]:=fun x o e n=>by rw[Zh n];exact e
  have q5:=Zd (H:=H4) (a:=r) (o:=.lst (ts++[.ref tt]));have kt5:∀ x ys,H4 x=#[E,ys]->upd H4 r (.lst (ts++[.ref tt])) x=#[E,ys]:=fun x ys e=>k5 _ _ e #[ak,Yu,e,s4 _ _ hr'];dsimp only;generalize upd H4 r (.lst (ts++[.ref tt]))=H5 at k5 q5 kt5 ⊢;have s05:Same H' H5:=fun x o e=>k5 _ _ (s4 _ _ (s3 _ _ e)) (Zi e fr0);have PA5:=PA.same s05;obtain⟨mx,hmx,hmx1⟩:∃ mx:Nat,Wb ns 0%2=mx/\mx<=1:=⟨(Wb ns 0%2).toNat,by omega,by omega⟩;obtain⟨z,hz⟩:=at2 (R/18/(cs.length:Int)) (zbl R (i:Int)) hmx1;refine⟨_,rfl,_,_,rfl,rfl,⟨by omega,by omega⟩,_,rfl,lc,_,rfl,#[C,PA5.clubs],?_⟩;rw[zwm];refine⟨_,_,rfl,rfl,⟨hcl,by omega⟩,_,rfl,_,rfl,_,_,rfl,sz2,fun l2 f2=>?_⟩;have s6:=Ze (o:=.lst [.int (R/18/(cs.length:Int)),.int (zbl R (i:Int))]) f2;have q6:=Zd (H:=H5) (a:=l2) (o:=.lst [.int (R/18/(cs.length:Int)),.int (zbl R (i:Int))]);generalize upd H5 l2 (.lst [.int (R/18/(cs.length:Int)),.int (zbl R (i:Int))])=H6 at s6 q6 ⊢;refine⟨_,rfl,b,ns,0,rfl,(s05.trans s6).seq hS,_,_,rfl,rfl,⋯,l2,_,_,_,rfl,rfl,SqL.of q6,(by rw[hmx];exact hz),?_⟩;refine⟨⟨_,_,rfl⟩,fun x o e n=>s6 _ _ (k5 _ _ (s4 _ _ (k _ _ e n)) n),ts++[.ref tt],es++[(n,gv,c)],s6 _ _ q5,?_,by rw[zwp,hml];rfl,?_,?_⟩
  ·rw[zwq];exact(tl.mono fun x ys e=>s6 _ _ (kt5 _ _ (s4 _ _ e))).snoc (s6 _ _ (kt5 _ _ q4))
  ·rw[zwq,enu,etk];rfl
  ·intro m hm;rcases zwy.mp hm with hm|hm
   ·exact eok m hm
   ·rw[zwt.mp hm];exact⟨rgr.1,rgr.2,mcs⟩
 ·rintro σ H3 ⟨⟨v8,R,rfl⟩,k,ts,es,hr',tl,hml,enu,eok⟩;rw[zw2] at hml enu;refine#[w,_,h r ts es H3 hr' tl (by rw[hml];exact enu) ⋯ eok (fun x o e=>k _ _ (s1 _ _ e) (Zi e fr0)) fr0]
abbrev Si:Stmt:=top 79
theorem Ta:#[r,["_law_season","_law_pages","_law_deeds","_law_deed"],["_law_season","_law_pages","_law_deeds"],Si]:=fnS
theorem Ii(F:#[l,"_law_enrolled","_law_enrolled",Si])(T:#[o])(zq6:Z4 P w K mg base "_law_do" 8 ["_law_season","_law_deed"] (D6 K (ca a)))(zpe:Z4 P w K mg base "_law_paged" 3 ["_law_pages","_law_deed"] (C8 K)):FnOk P w K mg base #[k] 9 f fd ["_law_season","_law_pages","_law_deeds"] (Gu K (ca a)):=by
 refine #[p,Ta];obtain⟨mb,A',l,le,ts,es,ds,d,P0,S,nu,n,rfl,SA,hl,hlo,F,hle,hlf,tl,nd,eok,hp30,hn90,hcur,hlen,h⟩:=h;refine⟨_,(Zb (Xc PassesOwn.leaving rfl (Yh (K:=K) rfl (pv 2)) (pN 3 Ta.nd)
  (Zb (Yb (pF zq6 hr (Za (pv 0) (Za (pv 3) Zc))))
  (Zf (pS 1 Ta.nd (pF zpe hr (Za (pv 1) (Za (pv 3) Zc)))))))
 (Zf (Zl (pv 1)))),?_⟩
 have tln:=tl.length;rw[zwm] at tln
 let jv5:Nat->L2.St->Hp->Prop:=fun i σ H1=>∃ A1 l1 ds1 d1 P1 S1 v,σ=[#[e,A'.p],#[e,l1],#[e,le],v]/\Zz (ca a) H1 A1 S1/\H1 l1=some #[i,(ds1++[d1]).map,V.ref]/\l1∉A1.fp/\Vf mb (·∉A1.fp) H1 nu (n+i) ds1 d1 P1 S1/\FrN A' A1 H H1/\S1.cur=none/\S1.led=S.led/\S1.len=S.len/\S1.ppl=S.ppl++es.take i
 refine⟨_,rfl,le,rfl,⟨_,SqL.of hle⟩,Wy (K:=K) (a:=le) (xs:=ts) jv5
  ⟨A',l,ds,d,P0,S,_,rfl,SA,hl,hlo,F,.refl _ _,hcur,rfl,rfl,by simp⟩ (fun i σ H1 _ ⟨A1,_,_,_,_,_,_,_,_,_,_,_,f,_⟩=>SqL.of (f.k _ _ hle hlf).1) ?_ ?_⟩
 ·rintro i x σ H1 hx ⟨A1,l1,ds1,d1,P1,S1,v,rfl,SA1,hl1,ho1,F1,f1,e1,e2,e3,e4⟩;have hi:i<ts.length:=(zwo.mp hx).1;have hie:i<es.length:=by omega
  have hex:es[i]?=some (es[i]'hie):=zwn hie;have etk:=Xo hex;have hmem:es[i]'hie∈es:=zxg hie;obtain⟨t,ht1,ht2⟩:∃ t,x=.ref t/\H t=some (.tup (enV (es[i]'hie))):=by
   obtain⟨t,r,z1,z2,z3⟩:=tl.get hx;rw[zwu,hex] at z2;cases z2;exact⟨t,z1,z3⟩
  have hfr:(es[i]'hie).1∉(es.take i).map (·.1):=fun z=>by
   obtain⟨y,hy,ey⟩:=zwv.mp z;obtain⟨j,hj,rfl⟩:=zxr hy;rw[zx6] at hj;rw[List.getElem_take] at ey;have h1:(es.map (·.1))[j]'(by rw[zwm];omega)=(es.map (·.1))[i]'(by rw[zwm];omega):=by rw[List.getElem_map,List.getElem_map];exact ey
   have:=(List.getElem_inj nd).mp h1;omega
  have hok:=eok _ hmem;generalize es[i]'hie=x0 at hex etk hmem ht2 hfr hok;obtain⟨k,gr,c⟩:=x0;subst ht1;have hD:Xy (·∉A1.fp) H1 t (.enrol k gr c):=f1.kt _ _ ht2;have g:Pn S1 (.enrol k gr c):=by
   refine⟨by rw[e2,e3];exact hlen,e1,hok.2.1,?_,?_⟩
   ·rw[e4,zwq];intro z;rcases zwy.mp z with z|z
    ·exact hok.2.2 z
    ·exact hfr z
   ·rw[e4,zwp,zx6];omega
  obtain⟨b1,b2,b3,b4,b5,b6,b7,b8,b9,b10⟩:=F1.pre g ⋯;refine⟨_,rfl,_,rfl,D6.of (E':=E) ⟨A1,S1,t,_,(by rw[f1.p];rfl),SA1,hD,g,b1,b2,b3,b4,b5,b6,b7,b8,b9,b10,fun v' A2 S2 H2 af SA2 nx fr _=>?_⟩⟩;have f12:=FrN.next SA1 nx fr;obtain⟨c1,c2,c3,c4,c5⟩:=F1.pre2 g ⋯
  refine⟨_,rfl,_,rfl,(·∉A2.fp),l1,t,ds1,d1,P1,.enrol k gr c,rfl,(f12.k _ _ hl1 ho1).1,F1.pg.fr f12,hD.fr f12,c1,c2,c3,c4,c5,fun l3 d3 H3 hl3 pg s3 fl3 fd3=>?_⟩;obtain⟨ds2,d2,P2,ek,Pe,eP,_⟩:=turn F1 SA1 af SA2 nx fr g (fun k' gr' c' z=>by cases z;exact hok.1) pg s3 fd3;cases af with
  | enrol k gr c =>
    rw[ek] at hl3;refine⟨A2,l3,ds2,d2,P2,_,_,rfl,SA2.same s3,hl3,SA2.newOk _ fl3,Pe.full (fun s hs=>?_) fun z=>?_,f1.trans (f12.trans (.of s3)),e1,e2,e3,?_⟩
    ·have hs:S1.cur=some s:=hs;rw[e1] at hs;cases hs
    ·rw[eP nofun];show P1.mv=_;rw[F1.re.mv z,Nv e1];exact(Nv e1).symm
    ·show S1.ppl++[(k,gr,c)]=_;rw[e4,etk,zx9]
 ·rintro σ H1 ⟨A1,l1,ds1,d1,P1,S1,v,rfl,SA1,hl1,ho1,F1,f1,e1,e2,e3,e4⟩;rw[tln] at F1;exact#[w,_,h A1 l1 ds1 d1 P1 S1 H1 SA1 hl1 ho1 F1 f1 e1 e2 e3]
abbrev Wr:Stmt:=top 80
theorem zaw:#[r,["_law_script"],["_law_script"],Wr]:=fnS
@[irreducible] def Sz:List Expr:=zel (zae (zim (X2 (Zx Wr) 0)))
@[irreducible] def Jh:Pos:=zem (zae (zim (X2 (Zx Wr) 0)))
theorem Ew:Zx Wr=[.Return (some (.Subscript (.List Sz Jh) (zin (zim (X2 (Zx Wr) 0))) (zio (zim (X2 (Zx Wr) 0))))) (stP (X2 (Zx Wr) 0))]:=by unfold Sz Jh;kernel_rfl
theorem Ex:Gn Sz [0,1,2,3,4,5,6,7,8,9,10,0,0,0,1,1,1,2,2,0,1,3]:=by unfold Sz;exact⟨by kernel_rfl,by kernel_rfl⟩
theorem zax(F:#[l,"_law_rest","_law_rest",Wr])(T:#[o])(zn3:Z4 P w K mg base "_law_at" 1 ["_law_script","_law_k"] (zd0 K)):FnOk P w K mg base #[k] 2 f fd ["_law_script"] (A7 K):=by
 refine #[p,zaw];obtain⟨b,ns,rfl,hS,h⟩:=h;rw[Ew];refine⟨_,Zf (Zl (pI (iL K) (Z2 (Ol [0,1,2,3,4,5,6,7,8,9,10,0,0,0,1,1,1,2,2,0,1,3] Ex)) (Zs Ye (pF zn3 hr (Za (pv 0) (Za Zg Zc))) Zg))),?_⟩;refine zkt Jb ⋯ fun l H1 q1 s1 fl=>?_;have h0:=zxq (Wb ns 1) (show (22:Int)≠0 by decide);have h1:=zxm (Wb ns 1) (show (0:Int)<22 by decide);have hat:=Wg (xs:=Jb) h0 (show _<((22:Nat):Int) by omega);have hb:0<=Jb.getD (Wb ns 1%22).toNat 0/\Jb.getD (Wb ns 1%22).toNat 0<=10:=by
  generalize (Wb ns 1%22).toNat=k;rw[zxc];cases e:Jb[k]? with
  | none=>exact⟨by decide,by decide⟩
  | some x =>
    have hm:=zw0 e;have:∀ x∈Jb,0<=x/\x<=10:=by decide
    exact this x hm
 have hfin:=h (Jb.getD (Wb ns 1%22).toNat 0).toNat H1 rfl ⋯ s1;rw[Int.toNat_of_nonneg hb.1] at hfin;exact⟨_,rfl,b,ns,1,rfl,s1.seq hS,_,_,rfl,rfl,(show (0:Int)<22 by decide),l,_,_,_,rfl,rfl,SqL.of q1,hat,hfin⟩
abbrev Mc:Stmt:=top 81
theorem zay:#[r,["_law_script","_law_k"],["_law_script","_law_k"],Mc]:=fnS
theorem zaz(F:#[l,"_law_cell","_law_cell",Mc])(T:#[o])(zn3:Z4 P w K mg base "_law_at" 1 ["_law_script","_law_k"] (zd0 K))(zo3:Z4 P w K mg base "_law_mix" 1 ["_law_cell_here","_law_k"] zcs):FnOk P w K mg base #[k] 2 f fd ["_law_script","_law_k"] (A8 K):=by
 refine #[p,zay];obtain⟨b,ns,k,rfl,hS,hk,h⟩:=h;refine⟨_,(Zb (Zy (Zp Y6 (Zs Ye (pF zn3 hr (Za (pv 0) (Za Zg Zc))) Zg) Zg (Zr _))
  (Zf (Zl (pF zo3 hr (Za (pI (iL K) (pv 0) (pv 1)) (Za (pv 1) Zc)))))
  Zq)
 (Zf (Zl (pI (iL K) (pv 0) (pv 1))))),?_⟩
 have hk':(ns.map V.int)[k]?=#[q,ns[k]'hk]:=by rw[zwu,zwn hk];rfl
 refine⟨_,rfl,b,ns,0,rfl,hS,_,_,rfl,rfl,(show (0:Int)<2 by decide),rfl,_,rfl,?_⟩;refine itB (fun _=>?_) fun _=>?_
 ·exact⟨_,rfl,_,rfl,b,_,_,_,rfl,rfl,hS,Z7 hk',_,rfl,_,_,rfl,h _ H (Same.refl _)⟩
 ·exact⟨_,rfl,_,rfl,b,_,_,_,rfl,rfl,hS,Z7 hk',h _ H (Same.refl _)⟩
abbrev Vw:Stmt:=top 82
theorem Y4:#[r,["_law_season","_law_page","_law_at_here","_law_number","_law_grade","_law_club","_law_day"],["_law_season","_law_page"],Vw]:=fnS
theorem O2(F:#[l,"_law_shows_people","_law_shows_people",Vw])(T:#[o])(zon:Z4 P w K mg base "_law_list_is" 3 #[X] (Hv K))(zpg:Zw P w K mg base a.znk "referees" 2 ["self"] #[h,Gm])(zoo:Z4 P w K mg base "_law_tuple_is" 3 #[X] (Ly K))(zpn:Zw P w K mg base a.znk "referee" 3 #[Y] #[h,Dx])(zqf:Z4 P w K mg base "_law_truth_is" 1 #[X] zcx)(zpo:Zw P w K mg base a.znk "is_away" 2 ["self","at","number"] #[h,A6]):FnOk P w K mg base #[k] 4 f fd ["_law_season","_law_page"] (O6 K (ca a)):=by
 refine #[p,Y4];obtain⟨ok,mb,A',S,d,P0,nu,n,rfl,SA,PA,RB,so,hn,h⟩:=h;have hu:=Xu hr;refine⟨_,(Zb (Zy (Xa (Yx (pF zon hr (Za (Ym (pv 0) T.znl zpg (hr.mono ⋯) Zk) (Za (X7 rfl (cT [] []) (Yh (K:=K) rfl (pD hu (pv 1) Zn)) (fun _ _ _ _ _=>X5) fun _ _ _ _ _=>(pI (iU K) (pv 0) Zg)) Zc)))))
  (Zf (Zl Xe))
  Zq)
 (Zb (pS 2 Y4.nd (Zs Yo (Zm (cL K) (by rfl) T.znu PySem.boot_len (Za (pD hu (pv 1) Zn) Zc)) Zg))
 (Zb (Xc PassesOwn.leaving rfl (Yh (K:=K) rfl (pD hu (pv 1) Zn)) (Xm (K:=K) (n:=3) rfl rfl (Zv (pN 3 Y4.nd) (Zv (pN 4 Y4.nd) (Zv (pN 5 Y4.nd) Xl))))
  (Zb (Zy (Xa (Yx (pF zoo hr (Za (Y0 (pv 0) T.znl zpn (hr.mono ⋯) Zk (Za (pv 3) Zc)) (Za (Z9 (Za (pv 4) (Za (pv 5) Zc))) Zc)))))
   (Zf (Zl Xe))
   Zq)
  (Zf (Xc PassesOwn.leaving rfl (Lo rfl T.zog (Za (Zm (Oe rfl) (by rfl) T.zsw PyProof.Rows.boot_max (Za Zg (Za (Zs S6 (pv 2) Zg) Zc))) (Za (Zs Yo (Zm (E2 rfl) (by rfl) T.zts PyProof.Rows.boot_min (Za (pD hu (pv 1) Zn) (Za (Zs Yo (pv 2) Zg) Zc))) Zg) Zc))) (pN 6 Y4.nd)
   (Zf (Zy (Xa (Yx (pF zqf hr (Za (Y0 (pv 0) T.znl zpo (hr.mono ⋯) Zk (Za (pv 6) (Za (pv 3) Zc))) (Za (W9 (Qd (K:=K) rfl hr.units) (Z9 (Za (pv 6) (Za (pv 3) Zc))) (pD hu (pv 1) Zn) (by with_unfolding_all rfl)) Zc)))))
    (Zf (Zl Xe))
    Zq))))))
 (Zf (Zl Xe))))),?_⟩
 show let y1:TS:=_;let y2:TS:=_;let y3:TS:=Z1 (zhn _ _ (Z1 _ y1)) y2;let y4:TS:=Z1 _ y3;Z1 _ y4 _ _ _;intro y1 y2 y3 y4;obtain⟨lp,lo,lv,dv,li,lg,lm,a1,PB,okd⟩:=id PA.split;obtain⟨pts,p1,p2,p3⟩:=PB.pp;obtain⟨ots,o1,o2,o3⟩:=PB.oo;obtain⟨vts,v1,v2,v3⟩:=PB.vv;obtain⟨⟨dx,vv,ob,_⟩,_⟩:=id SA;rw[RB.ppl] at p2;have hpl:pts.length=S.ppl.length:=by rw[p2.length,zwm]
 have hfew:=so.few;have hlen:=so.len;have hvl:(vts.length:Int)+1=atV S:=by rw[v2.length];exact RB.at so
 have hat:atV S=(S.led.length:Int)+1:=rfl;refine Yf ?_;refine⟨_,rfl,A'.p,dx,_,rfl,ob,Yd ⋯,A',S,rfl,SA,fun lr H1 hlr s1 _=>?_⟩;refine⟨_,rfl,d,_,rfl,DGet.k (k:=.inr "people") (s1 _ _ a1),lp,rfl,⟨_,SqL.of (s1 _ _ p1)⟩,Wf (K:=K) (a:=lp) (xs:=pts) (fun i ys H'=>H'=H1/\ys=(S.ppl.take i).map fun x=>V.int x.1) #[y,rfl] (fun i ys H' _ z=>by rw[z.1];exact #[Q,s1,p1]) (szN ⋯) (fun i ys H' z=>by rw[z.2,zwm];exact zxv _ _) ?_ ?_⟩
 ·rintro i x ys H' hx ⟨rfl,rfl⟩;obtain⟨tp,pp,rfl,hpp,htp⟩:=Ot p2 hx;unfold tYes;dsimp only;rw[#[f,rfl]];exact⟨_,rfl,tp,_,_,_,rfl,rfl,SqT.of (s1 _ _ htp),show atI (pV pp) 0=some _ from rfl,rfl,by rw[Xo hpp,zwq];rfl⟩
 rintro ys H' ⟨rfl,rfl⟩ lq flq;rw[hpl,zw3];refine⟨lr,lq,_,rfl,Ze flq _ _ hlr,SqL.of Zd,fun x hx=>?_,by rw[zwm];omega,true,rfl,#[P]⟩
 ·obtain⟨y,_,rfl⟩:=zwv.mp hx;exact .inr ⟨_,rfl⟩
 have s2:=s1.trans (Ze (o:=.lst (S.ppl.map fun x=>V.int x.1)) flq);dsimp only;generalize upd H' lq (.lst (S.ppl.map fun x=>V.int x.1))=H2 at s2 ⊢;refine⟨_,rfl,d,_,rfl,#[an,s2 _ _ a1],lv,vts,rfl,#[C,s2 _ _ v1],_,_,rfl,rfl,?_⟩;walk_at "if";rw[hvl]
 let jv6:Nat->L2.St->Hp->Prop:=fun j σ H'=>(∃ v3 v4 v5 v6,σ=[some (.ref A'.p),some (.ref d),some (.int (atV S)),v3,v4,v5,v6])/\Same H2 H'
 refine⟨_,rfl,d,_,rfl,DGet.k (k:=.inr "people") (s2 _ _ a1),lp,rfl,⟨_,SqL.of (s2 _ _ p1)⟩,Wy (K:=K) (a:=lp) (xs:=pts) jv6 ⟨⟨_,_,_,_,rfl⟩,Same.refl _⟩ (fun j σ H' _ ⟨_,z⟩=>#[Q,z,s2 _ _ p1]) ?_ ?_⟩
 rotate_left
 ·rintro σ H3 ⟨_,s3⟩;exact h H3 (s2.trans s3)
 rintro j x σ H3 hx ⟨⟨v3,v4,v5,v6,rfl⟩,s3⟩;obtain⟨tp,pp,rfl,hpp,htp⟩:=Ot p2 hx;have hin:=zw0 hpp;have hinn:pp.1∈S.ppl.map (·.1):=zwv.mpr ⟨pp,hin,rfl⟩;have s13:=s2.trans s3;refine⟨tp,_,rfl,SqT.of (s13 _ _ htp),rfl,_,_,rfl,_,_,rfl,_,_,rfl,rfl,?_⟩;walk_at "if";refine Yf ?_;refine⟨_,rfl,A'.p,dx,_,rfl,s13 _ _ ob,Yd ⋯,_,rfl,A',S,pp.1,rfl,SA.same s13,so.pok.small pp hin,fun z=>absurd hinn z,fun g c tt hg htt=>?_⟩;have epp:(pp.1,g,c)=pp:=zc5 so.nd hg hin rfl;have e1:g=pp.2.1:=by rw[<- epp]
 have e2:c=pp.2.2:=by rw[<- epp]
 subst e1 e2;refine⟨_,rfl,_,rfl,sz2,fun t2 ft2=>?_⟩;refine⟨tt,t2,#[M,pp.2.1,pp.2.2],rfl,Ze ft2 _ _ htt,#[n,Zd],fun x hx=>?_,(show 2<=1000 by decide),true,rfl,#[P]⟩
 ·simp only[zwr,zxf,or_false] at hx;rcases hx with rfl|rfl<;>exact .inr ⟨_,rfl⟩
 have s4:=s3.trans (Ze (o:=.tup [.int pp.2.1,.int pp.2.2]) ft2);dsimp only;generalize upd H3 t2 (.tup [.int pp.2.1,.int pp.2.2])=H4 at s4 ⊢;have s24:=s2.trans s4;refine⟨_,rfl,_,_,rfl,rfl,_,_,rfl,_,rfl,d,_,rfl,DGet.k (k:=.inr "rounds") (s24 _ _ a1),_,rfl,_,_,rfl,rfl,_,_,rfl,_,_,rfl,rfl,?_⟩;generalize hlo:(if atV S-1>1 then atV S-1 else 1)=l0;generalize hhh:(if atV S+3<(P0.len:Int) then atV S+3 else (P0.len:Int))=hh;have hlo1:1<=l0/\l0<=100:=by rw[<- hlo];split<;>omega
 have hh1:hh<=S.len/\0<=hh:=by rw[<- hhh];have:=RB.len;split<;>omega
 let jv7:Nat->L2.St->Hp->Prop:=fun q σ Hq=>(∃ v,σ=[some (.ref A'.p),some (.ref d),some (.int (atV S)),some (.int pp.1),some (.int pp.2.1),some (.int pp.2.2),v])/\Same H4 Hq
 refine⟨_,_,rfl,⟨by omega,by omega,by omega,by omega⟩,Xs jv7 ⟨#[y,_],.refl _⟩ ?_ ?_⟩
 rotate_left
 ·rintro σ Hq ⟨⟨v,rfl⟩,sq⟩;exact⟨⟨_,_,_,_,rfl⟩,s4.trans sq⟩
 rintro q σ Hq hq ⟨⟨v,rfl⟩,sq⟩;have hday:l0+(q:Int)<=S.len:=by omega
 have s2q:=s24.trans sq;walk_at "if";refine⟨_,rfl,A'.p,dx,_,rfl,s2q _ _ ob,Yd ⋯,_,rfl,_,rfl,A',S,l0+(q:Int),pp.1,rfl,SA.same s2q,Z0 ⋯ ⋯,so.pok.small pp hin,?_⟩;rw[if_neg ⋯,#[f,hinn]];intro H5 s5;refine⟨_,rfl,_,rfl,sz2,fun t3 ft3=>?_⟩;have s6:=s5.trans (Ze (o:=.tup [.int (l0+(q:Int)),.int pp.1]) ft3);have q6:upd H5 t3 (.tup #[M,l0+(q:Int),pp.1]) t3=#[b,.tup,#[M,l0+(q:Int),pp.1]]:=Zd;generalize upd H5 t3 (.tup [.int (l0+(q:Int)),.int pp.1])=H6 at s6 q6 ⊢;have s26:=s2q.trans s6;exact⟨_,rfl,d,_,rfl,DGet.k (k:=.inr "out") (s26 _ _ a1),t3,lo,ots,_,_,P0.out,rfl,rfl,#[n,q6],#[Q,s26,o1],o2.same s26,_,(by rw[RB.out];rfl),true,rfl,iteF (Zt ⟨#[y,_],sq.trans s6⟩)⟩
abbrev Tb:Stmt:=top 83
theorem Xd:#[r,["_law_found","_law_page","_law_k","_law_listed","_law_goes","_law_moves","_law_may","_law_due_here"],["_law_found","_law_page"],Tb]:=fnS
theorem Kx(F:#[l,"_law_facts_are","_law_facts_are",Tb])(T:#[o])(zop:Z4 P w K mg base "_law_rows_are" 4 #[X] (Lz K)):FnOk P w K mg base #[k] 5 f fd ["_law_found","_law_page"] (Gx K):=by
 refine #[p,Xd];obtain⟨ok,l,d,ls,P0,rfl,hl,PA,PO,rl,h⟩:=h;have hu:=Xu hr;refine⟨_,(Zb (Zy #[aA,Z8,Za,0,Za,W8,_,Zc,Xt,Zp Q9 #[ah,Zm,cL K,T.znu,Za (pv 0) Zc] #[ah,Zm,cL K,T.znu,Za (pD hu (pv 1) Zn) Zc] (Zr _)]
  (Zf (Zl Xe))
  Zq)
 (Zb (Xc PassesOwn.leaving rfl (Xb rfl T.zog (Za (Zm (cL K) (by rfl) T.znu PySem.boot_len (Za (pv 0) Zc)) Zc)) (pN 2 Xd.nd)
  (Zb (S5 (pI (iL K) (pD hu (pv 1) Zn) (pv 2)) (Xm (K:=K) (n:=4) rfl rfl (Zv (pN 3 Xd.nd) (Zv (pN 4 Xd.nd) (Zv (pN 5 Xd.nd) (Zv (pN 6 Xd.nd) Xl))))))
  (Zb (Sw (i:=7) Xd.nd rfl rfl rfl (cT ["_law_goes","_law_listed"] [4,3]) (Xb rfl T.zog (Za (Zm (cL K) (by rfl) T.znu PySem.boot_len (Za (pv 3) Zc)) Zc)) (fun _ _ _ _ _=>X5) (fun _ _ _ _ _=>(Z9 (Za (pI (iU K) (pI (iL K) (pv 2) (pv 0)) Zg) (Za (pI (iU K) (pI (iL K) (pv 2) (pv 0)) Zg) (Za (pI (iU K) (pI (iL K) (pv 2) (pv 0)) Zg) (Za (pI (iL K) (pv 1) (pv 0)) Zc)))))))
  (Zf (Zy (Xa (Yx (pF zop hr (Za (pI (iL K) (pv 0) (pv 2)) (Za (pv 7) Zc)))))
   (Zf (Zl Xe))
   Zq)))))
 (Zf (Zl Xe)))),?_⟩
 obtain⟨lp,lo,lv,dv,li,lg,lm,a1,PB,okd⟩:=id PA.split;obtain⟨vts,u1,u2,u3⟩:=PB.vv;have hvl:=u2.length;have hll:=rl.length;rw[zwm] at hll;have hz:=PO.1;refine⟨_,rfl,_,_,_,_,rfl,.of (.lst hl),#[T,_,rfl],Lw K,_,rfl,?_⟩;refine iteF ?_;refine⟨_,rfl,l,_,rfl,#[C,hl],_,rfl,d,_,rfl,#[an,a1],lv,vts,rfl,#[C,u1],rfl,_,rfl,?_⟩;rw[show (ls.map V.ref).length=vts.length by rw[zwm];omega,zws rfl];refine #[P];dsimp only
 let jv8:Nat->L2.St->Hp->Prop:=fun i σ H'=>(∃ v2 v3 v4 v5 v6 v7,σ=[some (.ref l),some (.ref d),v2,v3,v4,v5,v6,v7])/\#[v]
 refine⟨_,rfl,l,_,rfl,#[C,hl],_,rfl,by omega,by rw[zwm];omega,Xs jv8 ⟨⟨_,_,_,_,_,_,rfl⟩,Same.refl _⟩ ?_ ?_⟩
 ·rintro i σ H1 hi ⟨⟨v2,v3,v4,v5,v6,v7,rfl⟩,s1⟩;rw[zw2,zwm] at hi;rw[zxt];have hiv:i<vts.length:=by omega
  obtain⟨t,l1,g1,m1,y1,ts,s,ex,hs,ht,hl1,tl1,hg1,_,_⟩:=u2.get (zwn hiv);have hvt:vts[i]?=#[e,t]:=by rw[zwn hiv,ex]
  obtain⟨lr,trs,w1,w2,w3⟩:=rl.getR (i:=i) (rs:=Ya s) (by rw[zwu,hs];rfl);obtain⟨p1,p2,p3⟩:=PO.2.2 s (zw0 hs);have tln:ts.length=s.ms.length:=by rw[tl1.length,zwm]
  have rln:(Ya s).length=s.ms.length:=by unfold Ya;rw[zyr,p2,Nat.min_self]
  walk_at "if";refine⟨_,rfl,d,_,rfl,#[an,s1 _ _ a1],_,rfl,lv,_,_,_,rfl,rfl,#[Q,s1,u1],Z7 hvt,t,_,rfl,SqT.of (s1 _ _ ht),rfl,_,_,rfl,_,_,rfl,_,_,rfl,_,_,rfl,rfl,?_⟩;walk_at "if";refine⟨_,rfl,l1,ts,rfl,#[C,s1 _ _ hl1],_,rfl,by omega,by omega,?_⟩;rw[zw2];refine Qa (fun j ys H'=>Same H1 H'/\TupL H' ys (((Ya s).take j).map row4)/\ys.length=j) ⟨Same.refl _,.nil,rfl⟩ (szN ⋯) (fun j ys H' ⟨_,_,e⟩=>by omega) (fun j ys H' hj p=>?_) fun ys H' p l' hl'=>?_
  ·obtain⟨s2,tl2,hyl⟩:=p;have s02:=s1.trans s2;rw[zxt];have hj2:j<s.gv.length:=by omega
   have hgj:s.gv[j]?=some (s.gv[j]'hj2):=zwn hj2;have hone:=p3 _ (zxg hj2);generalize s.gv[j]'hj2=xv at hgj hone;obtain⟨tj,mj,e1,hmj,htj⟩:=Ot tl1 (zwn hj);have htj':ts[j]?=#[e,tj]:=by rw[zwn hj,e1]
   have hr3:(Ya s)[j]?=some (Ge mj xv):=by unfold Ya;rw[List.getElem?_zipWith,hmj,hgj]
   unfold tYes;dsimp only;rw[#[f,rfl]];refine⟨_,rfl,_,rfl,l1,_,_,_,rfl,rfl,#[Q,s02,hl1],Z7 htj',tj,_,_,_,rfl,rfl,SqT.of (s02 _ _ htj),show atI (pV mj) 0=some _ from rfl,?_⟩;refine⟨_,rfl,_,rfl,l1,_,_,_,rfl,rfl,#[Q,s02,hl1],Z7 htj',tj,_,_,_,rfl,rfl,SqT.of (s02 _ _ htj),show atI (pV mj) 1=some _ from rfl,?_⟩;refine⟨_,rfl,_,rfl,l1,_,_,_,rfl,rfl,#[Q,s02,hl1],Z7 htj',tj,_,_,_,rfl,rfl,SqT.of (s02 _ _ htj),show atI (pV mj) 2=some _ from rfl,?_⟩;refine⟨_,rfl,_,rfl,g1,_,_,_,rfl,rfl,#[Q,s02,hg1],Z7 hgj,(by show 4<=sizeLine;rw[sizeLine_eq];decide),fun t9 f9=>?_⟩;have s9:=Ze (o:=.tup [.int mj.1,.int mj.2.1,.int mj.2.2,xv]) f9;refine⟨s2.trans s9,?_,by rw[zwp,hyl];rfl⟩;rw[Xo hr3,zwq];refine(tl2.same s9).snoc ?_;have er:row4 (Ge mj xv)=[.int mj.1,.int mj.2.1,.int mj.2.2,xv]:=by
    rcases hone with rfl|⟨w,rfl⟩<;>rfl
   rw[er];exact Zd
  ·obtain⟨s2,tl2,hyl⟩:=p;rw[tln,<- rln,zw3] at tl2;have s3:=s2.trans (Ze (o:=.lst ys) hl');have q3:=Zd (H:=H') (a:=l') (o:=.lst ys);have tl3:=tl2.same (Ze (o:=.lst ys) hl');show Ws 7 (V.ref l') _ (upd H' l' (.lst ys)) _;generalize upd H' l' (.lst ys)=H3 at s3 q3 tl3 ⊢;have s03:=s1.trans s3;walk_at "if";refine⟨_,rfl,_,rfl,l,_,_,_,rfl,rfl,#[Q,s03,hl],Z7 (by rw[zwu,w1];rfl),_,rfl,lr,l',trs,ys,(Ya s).map row4,rfl,s03 _ _ w2,SqL.of q3,w3.same s03,tl3,fun r hr=>?_,by rw[zwm];omega,true,rfl,iteF (Zt ⟨⟨_,_,_,_,_,_,rfl⟩,s03⟩)⟩;obtain⟨q,_,rfl⟩:=zwv.mp hr;refine⟨by show 4<=1000;decide,fun x hx=>?_⟩;simp[row4] at hx;rcases hx with rfl|rfl|rfl|rfl
   ·exact .inr ⟨_,rfl⟩
   ·exact .inr ⟨_,rfl⟩
   ·exact .inr ⟨_,rfl⟩
   ·cases q.w with
    | none=>exact .inl rfl
    | some n=>exact .inr ⟨_,rfl⟩
 ·rintro σ H1 ⟨⟨v2,v3,v4,v5,v6,v7,rfl⟩,s1⟩;exact h H1 s1
theorem cat2{D:Q7}{v0 v1:Option V}{vr:List (Option V)}{l e c1 c2 C:Addr}{H:Hp}{b1 b2:Bool}{xs:#[a]}(hx:H e=some (excO e (.ref C)))(hl:#[A,H,l,xs])(hz:xs.length<=100)(ei:Cp K C)(k1:PySem.W.kitOne K (.ref C) (.ref c1)=some b1)(k2:PySem.W.kitOne K (.ref C) (.ref c2)=some b2)
  (k:∀ l' H',H' l'=#[x,xs++[.bl b1,.bl b2]]->H' e=some (excO e (.ref C))->#[v]->D.nx (v0 :: v1 :: #[e,l'] :: #[e,e] :: vr) H') :
  Bs (tOp zj4 (tVar 2) (tLst (Te (tCB (rIsI K) (Te (tVar 3) (Te (tC (V.ref c1)) tNil))) (Te (tCB (rIsI K) (Te (tVar 3) (Te (tC (V.ref c2)) tNil))) tNil)))) (Ws 2) D (v0 :: v1 :: some (.ref l) :: some (.ref e) :: vr) H:=by
 refine⟨_,rfl,_,rfl,_,_,_,_,rfl,.exc rfl rfl hx ei,.inr ⟨_,rfl⟩,k1,_,rfl,_,_,_,_,rfl,.exc rfl rfl hx ei,.inr ⟨_,rfl⟩,k2,sz2,fun l1 hl1=>?_⟩;have s1:=Ze (o:=.lst [.bl b1,.bl b2]) hl1;refine⟨l,l1,xs,_,rfl,rfl,s1 _ _ hl,Zd,szN (by show xs.length+2<=1000;omega),fun l2 hl2=>?_⟩;have s2:=s1.trans (Ze (o:=.lst (xs++[.bl b1,.bl b2])) hl2);exact k l2 _ Zd (s2 _ _ hx) s2
theorem zmd{D:Q7}{v0 v1:Option V}{vr:List (Option V)}{l e c1 C:Addr}{H:Hp}{b1:Bool}{xs:#[a]}(hx:H e=some (excO e (.ref C)))(hl:#[A,H,l,xs])(hz:xs.length<=100)(ei:Cp K C)(k1:PySem.W.kitOne K (.ref C) (.ref c1)=some b1)(k2:PySem.W.kitOne K (.ref C) (.type "ValueError")=some true)
  (k:∀ l' H',H' l'=#[x,xs++[.bl b1,.bl true]]->#[v]->D.nx (v0 :: v1 :: #[e,l'] :: #[e,e] :: vr) H') :
  Bs (tOp zj4 (tVar 2) (tLst (Te (tCB (rIsI K) (Te (tVar 3) (Te (tC (V.ref c1)) tNil))) (Te (tCB (rIsI K) (Te (tVar 3) (Te (tC (V.ty "ValueError")) tNil))) tNil)))) (Ws 2) D (v0 :: v1 :: some (.ref l) :: some (.ref e) :: vr) H:=by
 refine⟨_,rfl,_,rfl,_,_,_,_,rfl,.exc rfl rfl hx ei,.inr ⟨_,rfl⟩,k1,_,rfl,_,_,_,_,rfl,.exc rfl rfl hx ei,#[T,_,rfl],k2,sz2,fun l1 hl1=>?_⟩;have s1:=Ze (o:=.lst [.bl b1,.bl true]) hl1;refine⟨l,l1,xs,_,rfl,rfl,s1 _ _ hl,Zd,szN (by show xs.length+2<=1000;omega),fun l2 hl2=>?_⟩;have s2:=s1.trans (Ze (o:=.lst (xs++[.bl b1,.bl true])) hl2);exact k l2 _ Zd s2
abbrev Md:Stmt:=top 85
theorem Yn:#[r,["_law_season","_law_deed","_law_names","e","_law_words"],["_law_season","_law_deed"],Md]:=fnS
theorem za0(F:#[l,"_law_done","_law_done",Md])(T:#[o])(zq6:Z4 P w K mg base "_law_do" 8 ["_law_season","_law_deed"] (D6 K (ca a))):FnOk P w K mg base #[k] 9 f fd ["_law_season","_law_deed"] (zhe K (ca a)):=by
 refine #[p,Yn];obtain⟨A',S,t,d,rfl,SA,hd,sd,co,po,hz,hoz,htot,hl,hol,hbk,hE,h⟩:=h;have hu:=Xu hr;refine⟨_,(Zb (pS 2 Yn.nd (Z2 Zc))
 (Zb (zf5 (as:=[]) (i:=3) zdx Yn.nd rfl rfl T.zti rfl T.ztj
  (fun E1 lk1 pn1 EX1 hl1 hO hP =>
  (Zf (Zl (Z9 (Za Zn (Za (Af zq6 (hr.mono ⋯) hP rfl (Za (pv 0) (Za (pv 1) Zc))) Zc))))))
  (fun a1 =>
  (Zb (pS 2 Yn.nd (Z2 (Za (Zm (Z8 (K:=K) rfl) (by rfl) T.znn PyProof.Rows.boot_isinstance (Za (pv 3) (Za (Wl rfl T.ztb) Zc))) (Za (Zm (Z8 (K:=K) rfl) (by rfl) T.znn PyProof.Rows.boot_isinstance (Za (pv 3) (Za (Wl rfl T.zsq) Zc))) Zc))))
  (Zb (pS 2 Yn.nd (Zs Vo (pv 2) (Z2 (Za (Zm (Z8 (K:=K) rfl) (by rfl) T.znn PyProof.Rows.boot_isinstance (Za (pv 3) (Za (Wl rfl T.zr4) Zc))) (Za (Zm (Z8 (K:=K) rfl) (by rfl) T.znn PyProof.Rows.boot_isinstance (Za (pv 3) (Za (Wl rfl T.zsd) Zc))) Zc)))))
  (Zb (pS 2 Yn.nd (Zs Vo (pv 2) (Z2 (Za (Zm (Z8 (K:=K) rfl) (by rfl) T.znn PyProof.Rows.boot_isinstance (Za (pv 3) (Za (Wl rfl T.zsa) Zc))) (Za (Zm (Z8 (K:=K) rfl) (by rfl) T.znn PyProof.Rows.boot_isinstance (Za (pv 3) (Za (Wl rfl T.ztu) Zc))) Zc)))))
  (Zb (pS 2 Yn.nd (Zs Vo (pv 2) (Z2 (Za (Zm (Z8 (K:=K) rfl) (by rfl) T.znn PyProof.Rows.boot_isinstance (Za (pv 3) (Za (Wl rfl T.zs3) Zc))) (Za (Zm (Z8 (K:=K) rfl) (by rfl) T.znn PyProof.Rows.boot_isinstance (Za (pv 3) (Za (Wl rfl T.zs0) Zc))) Zc)))))
  (Zb (pS 2 Yn.nd (Zs Vo (pv 2) (Z2 (Za (Zm (Z8 (K:=K) rfl) (by rfl) T.znn PyProof.Rows.boot_isinstance (Za (pv 3) (Za (Wl rfl T.ztm) Zc))) (Za (Zm (Z8 (K:=K) rfl) (by rfl) T.znn PyProof.Rows.boot_isinstance (Za (pv 3) (Za (Wl rfl T.zs9) Zc))) Zc)))))
  (Zb (pS 2 Yn.nd (Zs Vo (pv 2) (Z2 (Za (Zm (Z8 (K:=K) rfl) (by rfl) T.znn PyProof.Rows.boot_isinstance (Za (pv 3) (Za (Wl rfl T.zsu) Zc))) (Za (Zm (Z8 (K:=K) rfl) (by rfl) T.znn PyProof.Rows.boot_isinstance (Za (pv 3) (Za (Wl rfl T.ztv) Zc))) Zc)))))
  (Zb (pS 2 Yn.nd (Zs Vo (pv 2) (Z2 (Za (Zm (Z8 (K:=K) rfl) (by rfl) T.znn PyProof.Rows.boot_isinstance (Za (pv 3) (Za (Wl rfl T.ztt) Zc))) (Za (Zm (Z8 (K:=K) rfl) (by rfl) T.znn PyProof.Rows.boot_isinstance (Za (pv 3) (Za (Wl rfl T.zro) Zc))) Zc)))))
  (Zf (pS 2 Yn.nd (Zs Vo (pv 2) (Z2 (Za (Zm (Z8 (K:=K) rfl) (by rfl) T.znn PyProof.Rows.boot_isinstance (Za (pv 3) (Za (Wl rfl T.zsr) Zc))) (Za (Zm (Z8 (K:=K) rfl) (by rfl) T.znn PyProof.Rows.boot_isinstance (Za (pv 3) (Za (W8 rfl T.zq9 PyProof.Rows.Boot.«ValueError» (show RelV (.ty "ValueError") _ from rfl)) Zc))) Zc)))))))))))))))
 (Zb (pS 4 Yn.nd Zn)
 (Zb (pS 4 Yn.nd (Zs D5 (pv 4) Zn))
 (Zb (pS 4 Yn.nd (zi6 PySem.F.plainAttrs_str PySem.F.slot_str_split PySem.F.type_str_split zhd (Zs D5 (pv 4) Zn) (Za Zn Zc)))
 (Zf (Zl (Z9 (Za Zn (Za (X7 rfl (cT ["_law_words","_law_names"] [4,2]) (Xb rfl T.zog (Za Zg Zc)) (fun _ _ _ _ _=>Ir (Yx (pI (iL K) (pv 2) (pv 0)))) (fun _ _ _ _ _=>(pI (iL K) (pv 1) (pv 0)))) Zc)))))))))),?_⟩
 show let y1:TS:=_;let y2:TS:=Z1 _ y1;let y3:TS:=Z1 _ y2;let y4:TS:=Z1 _ y3;let y5:TS:=Z1 _ y4;Z1 _ y5 _ _ _;intro y1 y2 y3 y4 y5;refine#[ap,fun l0 hl0=>?_];have s0:Same H (upd H l0 (.lst [])):=Ze hl0;generalize upd H l0 (.lst [])=H0 at s0;refine⟨_,rfl,_,rfl,A',S,t,d,rfl,SA.same s0,hd.same s0,sd,co,po,hz,hoz,htot,hl,hol,hbk,fun r hr H1 s1=>?_,fun hn v A2 S2 H1 af SA2 nx fr fl=>?_⟩
 ·have hne:=zhf hr;have ei:=T.ei r hne;refine⟨_,rfl,T.mB r hne,fun e he=>?_⟩;have s2:=s0.trans (s1.trans (Ze (o:=excO e (.ref (r.cls (ca a)))) he));have hx:upd H1 e (excO e (.ref #[h,r.cls])) e=some (excO e (.ref #[h,r.cls])):=Zd;generalize upd H1 e (excO e (.ref (r.cls (ca a))))=H2 at s2 hx;refine⟨_,rfl,_,_,_,_,rfl,.exc rfl rfl hx ei,.inr ⟨_,rfl⟩,T.kit r .out hne,_,rfl,_,_,_,_,rfl,.exc rfl rfl hx ei,.inr ⟨_,rfl⟩,T.kit r .known hne,sz2,fun l1 hl1=>?_⟩;have s3:=s2.trans (Ze (o:=.lst [.bl (decide (r=.out)),.bl (decide (r=.known))]) hl1);have q3:upd H2 l1 (.lst [.bl (decide (r=.out)),.bl (decide (r=.known))]) l1=#[b,.lst,[.bl (decide (r=.out)),.bl (decide (r=.known))]]:=Zd;have x3:=Ze (o:=.lst [.bl (decide (r=.out)),.bl (decide (r=.known))]) hl1 _ _ hx;generalize upd H2 l1 (.lst [.bl (decide (r=.out)),.bl (decide (r=.known))])=H3 at s3 q3 x3;walk_at "if";refine cat2 x3 q3 (by show 2<=100;decide) ei (T.kit r .many hne) (T.kit r .unk hne) fun l2 H4 q4 x4 s4=>?_;refine cat2 x4 q4 (by show 4<=100;decide) ei (T.kit r .manyM hne) (T.kit r .same hne) fun l3 H5 q5 x5 s5=>?_;refine cat2 x5 q5 (by show 6<=100;decide) ei (T.kit r .noMatch hne) (T.kit r .noRound hne) fun l4 H6 q6 x6 s6=>?_;refine cat2 x6 q6 (by show 8<=100;decide) ei (T.kit r .over hne) (T.kit r .seaOver hne) fun l5 H7 q7 x7 s7=>?_;refine cat2 x7 q7 (by show 10<=100;decide) ei (T.kit r .away hne) (T.kit r .drawn hne) fun l6 H8 q8 x8 s8=>?_;refine cat2 x8 q8 (by show 12<=100;decide) ei (T.kit r .notDrawn hne) (T.kit r .nothing hne) fun l7 H9 q9 x9 s9=>?_;refine zmd x9 q9 (by show 14<=100;decide) ei (T.kit r .manyD hne) (T.kitV r hne) fun l8 H10 q10 s10=>?_;have sA:=s3.trans (s4.trans (s5.trans (s6.trans (s7.trans (s8.trans (s9.trans s10))))))
  replace q10:H10 l8=some #[i,refB,r]:=q10
  refine⟨_,rfl,_,_,rfl,rfl,by decide +kernel,?_⟩;refine⟨_,rfl,_,_,rfl,rfl,by decide +kernel,rfl,_,_,rfl,rfl,by decide +kernel,by decide +kernel,by decide +kernel,by decide +kernel,by decide +kernel,fun lw hlw=>?_⟩;rw[zez];have s11:=sA.trans (Ze (o:=.lst (refW.map V.str)) hlw);have q11:upd H10 lw #[i,refW.map,V.str] lw=some #[i,refW.map,V.str]:=Zd;have b11:=Ze (o:=.lst (refW.map V.str)) hlw _ _ q10;generalize upd H10 lw (.lst (refW.map V.str))=H11 at s11 q11 b11;refine⟨_,rfl,by decide,by decide,?_⟩;refine Cv (refP r) (fun i=>V.str (refW.getD i "")) ⋯ (fun j R hj k'=>?_) (fun j R hj _ k'=>?_) fun lz flz=>?_
  ·rw[zxt];exact⟨_,rfl,_,rfl,l8,_,_,_,rfl,rfl,SqL.of b11,Z7 (zhg r hj),_,rfl,k'⟩
  ·rw[zxt];exact⟨_,rfl,_,rfl,lw,_,_,_,rfl,rfl,SqL.of q11,Z7 (zhh hj),k'⟩
  rw[show Int.toNat 16=16 from rfl,zey];have s12:=s11.trans (Ze (o:=.lst [.str r.name,.str "ValueError"]) flz);have q12:upd H11 lz (.lst [.str r.name,.str "ValueError"]) lz=#[b,.lst,[.str r.name,.str "ValueError"]]:=Zd;generalize upd H11 lz (.lst [.str r.name,.str "ValueError"])=H12 at s12 q12;refine⟨sz2,fun u hu'=>hE r hr u lz _ Zd (Ze hu' _ _ q12) (s12.trans (Ze hu')) (s12.free hu')⟩
 ·refine⟨sz2,fun u hu'=>?_⟩;have s1:=Ze (o:=HO.tup [V.str "told",v]) hu';exact h hn u v A2 S2 _ Zd (af.same s1) (SA2.same s1) (nx.back s0) ((FrS.of A' s0).trans (fr.trans (FrS.of A' s1))) (SA2.newOk u hu')
abbrev Tc:Stmt:=top 86
theorem Wi:#[r,["_law_page","_law_deed","_law_word","_law_number","_law_grade","_law_club"],["_law_page","_law_deed"],Tc]:=fnS
theorem Ky(F:#[l,"_law_due_enrol","_law_due_enrol",Tc])(T:#[o]):FnOk P w K mg base #[k] 1 f fd ["_law_page","_law_deed"] (Gz K):=by
 refine #[p,Wi];obtain⟨ok,d,t,P0,n,g,c,rfl,PA,ht,hpp,h⟩:=h;have hu:=Xu hr;refine⟨_,(Zb (S5 (pv 1) (Xm (K:=K) (n:=4) rfl rfl (Zv (pN 2 Wi.nd) (Zv (pN 3 Wi.nd) (Zv (pN 4 Wi.nd) (Zv (pN 5 Wi.nd) Xl))))))
 (Zb (Zy (PW.pt (X3 (Zp Sn (pv 3) Zg (Zr _)) (X3 (Zp Ui (pv 3) Zg (Zr _)) (X3 (Zp Sn (pv 4) Zg (Zr _)) (X3 (Zp Ui (pv 4) Zg (Zr _)) (X3 (Zp Sn (pv 5) Zg (Zr _)) (Xt (Zp Ui (pv 5) Zg (Zr _)))))))))
  (Zf (Zl Zn))
  Zq)
 (Zf (Zl (pI (iL K) (Z2 (Za Zn (Za Zn Zc))) (Ys Ro (by rfl) T.zso PyProof.Rows.boot_int (Za (W9 (Ng (K:=K) rfl) (pv 3) (X7 rfl (cT [] []) (Yh (K:=K) rfl (pD hu (pv 0) Zn)) (fun _ _ _ _ _=>X5) (fun _ _ _ _ _=>(pI (iU K) (pv 0) Zg))) (by with_unfolding_all rfl)) Zc))))))),?_⟩
 refine⟨_,rfl,t,_,rfl,#[n,ht],rfl,_,_,rfl,_,_,rfl,_,_,rfl,_,_,rfl,rfl,?_⟩;walk_at "if";refine Yf (Y1 (b:=decide (n<1)||(decide (999<n)||(decide (g<1)||(decide (9<g)||(decide (c<1)||decide (99<c)))))) (Wu (fun Q q=>⟨_,rfl,_,_,rfl,rfl,_,rfl,q⟩) (Wu (fun Q q=>⟨_,rfl,_,_,rfl,rfl,_,rfl,q⟩) (Wu (fun Q q=>⟨_,rfl,_,_,rfl,rfl,_,rfl,q⟩) (Wu (fun Q q=>⟨_,rfl,_,_,rfl,rfl,_,rfl,q⟩) (Wu (fun Q q=>⟨_,rfl,_,_,rfl,rfl,_,rfl,q⟩) fun Q q=>⟨_,rfl,_,_,rfl,rfl,_,rfl,q⟩))))) #[ao])
 ·have hbad:badI n g c:=by unfold badI;simpa using hb
  have:=h H (.refl _);unfold Pq at this;rw[#[f,hbad]] at this;exact this
 have hgood:¬ badI n g c:=by unfold badI;simpa using hb
 refine⟨sz2,fun l1 f1=>?_⟩;have s1:=Ze (o:=.lst [.str "",.str "KnownReferee"]) f1;have q1:=Zd (H:=H) (a:=l1) (o:=.lst [.str "",.str "KnownReferee"]);generalize upd H l1 (.lst [.str "",.str "KnownReferee"])=H1 at s1 q1 ⊢;refine#[w,_,zan rfl (PA.same s1) hpp fun l2 H2 h2 s2 f2=>⟨l2,_,rfl,#[C,h2],rfl,Ca _,.inr ⟨_,rfl,l1,_,_,_,rfl,rfl,#[Q,s2,q1],Mx _,?_⟩⟩];have:=h H2 (s1.trans s2);unfold Pq at this;rw[#[c,hgood]] at this;rw[#[c,(show ¬ false=true by decide)],Iu];by_cases hk:n∈P0.ppl.map (·.1)
 ·rw[#[f,hk]] at this;rw[zws hk];exact this
 ·rw[#[c,hk]] at this;rw[zwx hk];exact this
abbrev Sj:Stmt:=top 87
theorem Vm:#[r,["_law_page","_law_deed","_law_word","_law_day","_law_number"],["_law_page","_law_deed"],Sj]:=fnS
theorem Ij(F:#[l,"_law_due_away","_law_due_away",Sj])(T:#[o]):FnOk P w K mg base #[k] 1 f fd ["_law_page","_law_deed"] (D7 K):=by
 refine #[p,Vm];obtain⟨ok,d,t,P0,i,n,rfl,PA,ht,hpp,h⟩:=h;have hu:=Xu hr;refine⟨_,(Zb (S5 (pv 1) (Xm (K:=K) (n:=3) rfl rfl (Zv (pN 2 Vm.nd) (Zv (pN 3 Vm.nd) (Zv (pN 4 Vm.nd) Xl)))))
 (Zb (Zy (PW.pt (X3 (Zp Sn (pv 3) Zg (Zr _)) (Xt (Zp Ui (pv 3) (pD hu (pv 0) Zn) (Zr _)))))
  (Zf (Zl Zn))
  Zq)
 (Zb (Zy (Zp zff (pv 3) (Zm (cL K) (by rfl) T.znu PySem.boot_len (Za (pD hu (pv 0) Zn) Zc)) (Zr _))
  (Zf (Zl Zn))
  Zq)
 (Zb (Zy (Zp (O4 (K:=K) rfl) (pv 4) (X7 rfl (cT [] []) (Yh (K:=K) rfl (pD hu (pv 0) Zn)) (fun _ _ _ _ _=>X5) (fun _ _ _ _ _=>(pI (iU K) (pv 0) Zg))) (by with_unfolding_all rfl))
  (Zf (Zl Zn))
  Zq)
 (Zf (Zl (pI (iL K) (Z2 (Za Zn (Za Zn Zc))) (Ys Ro (by rfl) T.zso PyProof.Rows.boot_int (Za (W9 (Qd (K:=K) rfl hr.units) (Z9 (Za (pv 3) (Za (pv 4) Zc))) (pD hu (pv 0) Zn) (by with_unfolding_all rfl)) Zc))))))))),?_⟩
 obtain⟨lp,lo,lv,dv,li,lg,lm,a1,PB,okd⟩:=id PA.split;obtain⟨vts,u1,u2,u3⟩:=PB.vv;obtain⟨ots,o1,o2,o3⟩:=PB.oo;have hvl:(vts.length:Int)=(P0.over.length:Int):=by rw[u2.length]
 have hh:=h;unfold Iz at hh;refine⟨_,rfl,t,_,rfl,#[n,ht],rfl,_,_,rfl,_,_,rfl,_,_,rfl,rfl,?_⟩;walk_at "if";refine Yf (Y1 (b:=decide (i<1)||decide ((P0.len:Int)<i)) (Wu (fun Q q=>⟨_,rfl,_,_,rfl,rfl,_,rfl,q⟩) fun Q q=>⟨_,rfl,_,rfl,d,_,rfl,DGet.k (k:=.inr "rounds") a1,_,_,rfl,rfl,_,rfl,q⟩) #[ao])
 ·have:=hh H (.refl _);rw[#[f,(by simpa using hb)]] at this;exact this
 have h1:¬ (i<1\/(P0.len:Int)<i):=by simpa using hb
 dsimp only;refine Yf (Y1 (b:=decide (i<=(P0.over.length:Int))) (fun Q q=>⟨_,rfl,_,rfl,d,_,rfl,#[an,a1],lv,vts,rfl,#[C,u1],_,_,rfl,rfl,_,rfl,by rw[hvl];exact q⟩) #[ao])
 ·have:=hh H (.refl _);rw[#[c,h1],if_pos (of_decide_eq_true hb)] at this;exact this
 have h2:=of_decide_eq_false hb;dsimp only;refine Yf (zgj (b:=!decide (n∈P0.ppl.map (·.1))) (fun Q q=>#[w,_,zan rfl PA hpp fun l2 H2 h2 s2 f2=>⟨l2,_,rfl,#[C,h2],rfl,Ca _,_,rfl,by rw[#[f,rfl],Iu];exact q _ s2⟩]) fun H1 s1=>#[ao])
 ·have:=hh H1 s1;rw[#[c,h1],#[c,h2],#[c,(by simpa using hb)]] at this;exact this
 have h3:n∈P0.ppl.map (·.1):=of_decide_eq_true (by rw[<- Bool.not_not (decide _),hb];rfl);dsimp only;refine⟨sz2,fun l1 f1=>?_⟩;have s2:=s1.trans (Ze (o:=.lst [.str "",.str "AwayAlready"]) f1);have q2:=Zd (H:=H1) (a:=l1) (o:=.lst [.str "",.str "AwayAlready"]);generalize upd H1 l1 (.lst [.str "",.str "AwayAlready"])=H2 at s2 q2 ⊢;refine⟨_,rfl,_,rfl,sz2,fun t3 f3=>?_⟩;have s3:=Ze (o:=.tup [.int i,.int n]) f3;have q3:=Zd (H:=H2) (a:=t3) (o:=.tup [.int i,.int n]);generalize upd H2 t3 (.tup [.int i,.int n])=H3 at s3 q3 ⊢;have s03:=s2.trans s3;refine⟨_,rfl,d,_,rfl,DGet.k (k:=.inr "out") (s03 _ _ a1),t3,lo,ots,_,_,P0.out,rfl,rfl,#[n,q3],#[Q,s03,o1],o2.same s03,.inr ⟨_,rfl,l1,_,_,_,rfl,rfl,#[Q,s3,q2],Mx _,?_⟩⟩;have:=hh H3 s03;rw[#[c,h1],#[c,h2],#[f,h3]] at this;rw[#[c,(show ¬ false=true by decide)]];by_cases hk:(i,n)∈P0.out
 ·rw[#[f,hk]] at this;rw[zws hk];exact this
 ·rw[#[c,hk]] at this;rw[zwx hk];exact this
abbrev Sk:Stmt:=top 88
theorem Vn:#[r,["_law_matches_here","_law_home","_law_guest","_law_grade"],["_law_matches_here"],Sk]:=fnS
theorem Ik(F:#[l,"_law_due_draw","_law_due_draw",Sk])(T:#[o]):FnOk P w K mg base #[k] 1 f fd ["_law_matches_here"] (D8 K):=by
 refine #[p,Vn];obtain⟨l,ts,ms,rfl,hl,tl,hml,h⟩:=h;refine⟨_,(Zb (Zy (Zp Ui #[ah,Zm,cL K,T.znu,Za (pv 0) Zc] Zg (Zr _))
  (Zf (Zl Zn))
  Zq)
 (Zb (Xc PassesOwn.leaving rfl (Yh (K:=K) rfl (pv 0)) (Xm (K:=K) (n:=3) rfl rfl (Zv (pN 1 Vn.nd) (Zv (pN 2 Vn.nd) (Zv (pN 3 Vn.nd) Xl))))
  (Zf (Zy (PW.pt (X3 (Zp Sn (Zm (zdy rfl) (by rfl) T.zts PyProof.Rows.boot_min (Za (pv 1) (Za (pv 2) (Za (pv 3) Zc)))) Zg (Zr _)) (X3 (Zp Ui (Zm (Oe rfl) (by rfl) T.zsw PyProof.Rows.boot_max (Za (pv 1) (Za (pv 2) Zc))) Zg (Zr _)) (Xt (Zp Ui (pv 3) Zg (Zr _))))))
   (Zf (Zl Zn))
   Zq)))
 (Zf (Zl (pI (iL K) (Z2 (Za Zn (Za Zn Zc))) (Ys Ro (by rfl) T.zso PyProof.Rows.boot_int (Za (Zm (zdz (K:=K) rfl rfl) (by rfl) T.zt1 PyProof.Rows.boot_any (Za (X7 rfl (cT [] []) (Yh (K:=K) rfl (pv 0)) (fun _ _ _ _ _=>X5) (fun _ _ _ _ _=>(W9 Y6 (pI (iU K) (pv 0) Zg) (pI (iU K) (pv 0) Zg) (Zr _)))) Zc)) Zc))))))),?_⟩
 have htl:ts.length=ms.length:=by rw[tl.length,zwm]
 have hh:=h;unfold I9 at hh
 haveI:Decidable (Vc ms):=Classical.propDecidable _
 refine Yf (Y1 (b:=decide ((20:Int)<(ts.length:Int))) (fun Q q=>⟨_,rfl,l,ts,rfl,#[C,hl],_,_,rfl,rfl,_,rfl,q⟩) #[ao])
 ·have:=hh H (.refl _);have:=of_decide_eq_true hb;rw[if_pos ⋯] at *
  assumption
 have h1:¬ 20<ms.length:=by have:=of_decide_eq_false hb;omega
 dsimp only
 let jv1:Nat->L2.St->Hp->Prop:=fun i σ H'=>(∃ v1 v2 v3,σ=[some (.ref l),v1,v2,v3])/\H'=H/\∀ m∈ms.take i,¬ badM m
 refine⟨_,rfl,l,rfl,⟨_,SqL.of hl⟩,Wy (K:=K) (a:=l) (xs:=ts) jv1 #[w,⟨_,_,_,rfl⟩,by simp] (fun i σ H' _ z=>by rw[z.2.1];exact SqL.of hl) ?_ ?_⟩
 ·rintro i x σ H' hx ⟨⟨v1,v2,v3,rfl⟩,rfl,hg⟩;obtain⟨tp,m,rfl,hm,htm⟩:=Ot tl hx;refine⟨tp,_,rfl,#[n,htm],rfl,_,_,rfl,_,_,rfl,_,_,rfl,rfl,?_⟩;walk_at "if";have etk:=Xo hm;refine Y1 (b:=decide ((if m.2.1<m.1 then if m.2.2<m.2.1 then m.2.2 else m.2.1 else if m.2.2<m.1 then m.2.2 else m.1)<1)||(decide (99<(if m.2.1>m.1 then m.2.1 else m.1))||decide (9<m.2.2))) (Wu (fun Q q=>⟨_,rfl,_,rfl,_,rfl,_,_,_,rfl,_,_,rfl,rfl,_,rfl,q⟩) (Wu (fun Q q=>⟨_,rfl,_,rfl,_,_,rfl,_,_,rfl,rfl,_,rfl,q⟩) fun Q q=>⟨_,rfl,_,_,rfl,rfl,_,rfl,q⟩)) #[ao]
  ·have:=hh H' (.refl _);have hbad:Up ms:=⟨m,zw0 hm,by
    rw[Bool.or_eq_true,Bool.or_eq_true,decide_eq_true_eq,decide_eq_true_eq,decide_eq_true_eq] at hb;unfold badM;rcases hb with z|z|z
    ·revert z;split<;>split<;>intro z<;>omega
    ·revert z;split<;>intro z<;>omega
    ·omega⟩
   rw[#[c,h1],#[f,hbad]] at this;exact this
  ·refine#[w,⟨_,_,_,rfl⟩,fun m' hm'=>?_];rw[etk] at hm';rcases zwy.mp hm' with z|z
   ·exact hg m' z
   ·rw[zwt.mp z];rw[Bool.or_eq_false_iff,Bool.or_eq_false_iff,decide_eq_false_iff_not,decide_eq_false_iff_not,decide_eq_false_iff_not] at hb;obtain⟨z1,z2,z3⟩:=hb;unfold badM
    revert z1 z2
    split<;>split<;>split<;>intro z1 z2<;>omega
 rintro σ H' ⟨⟨v1,v2,v3,rfl⟩,rfl,hg⟩;rw[htl,zw3] at hg;have h2:¬ Up ms:=fun ⟨m,hm,hb⟩=>hg m hm hb;dsimp only;refine⟨sz2,fun l1 f1=>?_⟩;have s1:=Ze (o:=.lst [.str "",.str "SameClub"]) f1;have q1:=Zd (H:=H') (a:=l1) (o:=.lst [.str "",.str "SameClub"]);generalize upd H' l1 (.lst [.str "",.str "SameClub"])=H1 at s1 q1 ⊢;have tl1:=tl.same s1;refine⟨_,rfl,l,rfl,⟨_,SqL.of (s1 _ _ hl)⟩,Wf (K:=K) (a:=l) (xs:=ts) (fun i ys Hy=>Hy=H1/\ys=((ms.take i).map fun m=>decide (m.1=m.2.1)).map V.bl) #[y,rfl] (fun i ys Hy _ z=>by rw[z.1];exact #[Q,s1,hl]) (szN ⋯) (fun i ys Hy z=>by rw[z.2,zwm,zwm];exact zxv _ _) ?_ ?_⟩
 ·rintro i x ys Hy hx ⟨rfl,rfl⟩;obtain⟨tp,m,rfl,hm,htm⟩:=Ot tl1 hx;unfold tYes;dsimp only;rw[#[f,rfl]];refine⟨_,rfl,tp,_,_,_,rfl,rfl,#[n,htm],show atI (pV m) 0=some _ from rfl,_,rfl,tp,_,_,_,rfl,rfl,#[n,htm],show atI (pV m) 1=some _ from rfl,rfl,rfl,?_⟩;rw[Xo hm,zwq,zwq];have e:#[g,V.int m.1=V.int m.2.1]=#[g,m.1=m.2.1]:=decide_eq_decide.mpr ⟨fun z=>V.int.inj z,fun z=>by rw[z]⟩;rw[e];rfl
 rintro ys Hy ⟨rfl,rfl⟩ lb flb;rw[htl,zw3];refine⟨lb,_,rfl,SqL.of Zd,.inr ⟨_,rfl,l1,_,_,_,rfl,rfl,SqL.of (Ze flb _ _ q1),Mx _,?_⟩⟩;have:=hh _ (s1.trans (Ze (o:=.lst ((ms.map fun m=>decide (m.1=m.2.1)).map V.bl)) flb));rw[#[c,h1],#[c,h2]] at this;have e:(List.map (fun m:P3=>decide (m.1=m.2.1)) ms).any id=decide (Vc ms):=by
  by_cases hs:Vc ms
  ·rw[zws hs,zyb];obtain⟨m,hm,z⟩:=hs;exact⟨true,zwv.mpr ⟨m,hm,zws z⟩,rfl⟩
  ·rw[zwx hs,Bool.eq_false_iff];intro z;obtain⟨b,hb,hb2⟩:=zyb.mp z;obtain⟨m,hm,rfl⟩:=zwv.mp hb;exact hs ⟨m,hm,of_decide_eq_true hb2⟩
 rw[e];by_cases hk:Vc ms
 ·rw[#[f,hk]] at this;rw[zws hk];exact this
 ·rw[#[c,hk]] at this;rw[zwx hk];exact this
abbrev Kz:Stmt:=top 89
theorem Fu:#[r,["_law_pages","_law_deed","_law_page"],["_law_pages","_law_deed"],Kz]:=fnS
theorem zca(F:#[l,"_law_due","_law_due",Kz])(T:#[o])(zqj:Z4 P w K mg base "_law_due_away" 1 ["_law_page","_law_deed"] (D7 K))(zp2:Z4 P w K mg base "_law_due_enrol" 1 ["_law_page","_law_deed"] (Gz K))(zqc:Z4 P w K mg base "_law_due_draw" 1 ["_law_matches_here"] (D8 K)):FnOk P w K mg base #[k] 2 f fd ["_law_pages","_law_deed"] (zdd K):=by
 refine #[p,Fu];obtain⟨ok,mb,l,t,ds,d,P0,S,D,nu,n,rfl,hl,PA,hD,sd,hdm,RB,so,hds,hst,hnu,h⟩:=h;have hu:=Xu hr;refine⟨_,(Zb (pS 2 Fu.nd (pI (iL K) (pv 0) (Td Vd Zg)))
 (Zb (Zy (Zp Y6 (pI (iU K) (pv 1) Zg) Zn (Zr _))
  (Zf (Zl (pI (iL K) (Z2 (Za Zn (Za Zn Zc))) (Ys Ro (by rfl) T.zso PyProof.Rows.boot_int (Za (W9 Y6 (Zm (cL K) (by rfl) T.znu PySem.boot_len (Za (pv 0) Zc)) Zg (Zr _)) Zc)))))
  Zq)
 (Zb (Zy (Zp Y6 (pI (iU K) (pv 1) Zg) Zn (Zr _))
  (Zf (Zl (pF zqj hr (Za (pv 2) (Za (pv 1) Zc)))))
  Zq)
 (Zb (Zy (Zp Y6 (Zm (cL K) (by rfl) T.znu PySem.boot_len (Za (pD hu (pv 2) Zn) Zc)) (pD hu (pv 2) Zn) (Zr _))
  (Zf (Zl Zn))
  Zq)
 (Zb (Zy (Zp Y6 (pI (iU K) (pv 1) Zg) Zn (Zr _))
  (Zf (Zl (pI (iL K) (Z2 (Za Zn (Za Zn Zc))) (Ys Ro (by rfl) T.zso PyProof.Rows.boot_int (Za (W9 Pa (pD hu (pv 2) Zn) Y8 (Zr _)) Zc)))))
  Zq)
 (Zb (Zy (Zp Tg (pD hu (pv 2) Zn) Y8 (Zr _))
  (Zf (Zl Zn))
  Zq)
 (Zb (Zy (Zp Y6 (pI (iU K) (pv 1) Zg) Zn (Zr _))
  (Zf (Zl (pF zp2 hr (Za (pv 2) (Za (pv 1) Zc)))))
  Zq)
 (Zf (Zl (pF zqc hr (Za (pI (iU K) (pv 1) Zg) Zc))))))))))),?_⟩
 show let y1:TS:=_;let y2:TS:=Z1 _ y1;let y3:TS:=Z1 _ y2;let y4:TS:=Z1 _ y3;let y5:TS:=Z1 _ y4;let y6:TS:=Z1 _ y5;let y7:TS:=Z1 _ y6;Z1 _ y7 _ _ _;intro y1 y2 y3 y4 y5 y6 y7;obtain⟨lp,lo,lv,dv,li,lg,lm,a1,PB,okd⟩:=id PA.split;obtain⟨vts,u1,u2,u3⟩:=PB.vv;have hls:=PB.li.some;have hat:atI ((ds++[d]).map V.ref) (-1)=#[b,V.ref,d]:=by rw[zwq];exact L2.atI_last _ _
 have hvl:(vts.length:Int)=(S.led.length:Int):=by
  have h1:=RB.olen;have h2:=so.olen;rw[u2.length];omega
 have hfew:S.ppl.length<30:=by
  have:=Bc (l:=S.ppl.map (·.1)) (m:=nu) so.nd fun x hx=>by obtain⟨y,hy,rfl⟩:=zwv.mp hx;exact(so.ppl y hy).1
  rw[zwm] at this;omega
 have hpp:P0.ppl.length<=100:=by rw[RB.ppl];omega
 have hh:=h;have hlen:=so.len;have hle:S.len<=S.led.length↔S.led.length=S.len:=by omega
 obtain⟨rw,hw⟩:=hD.word;have hw0:atI (V.str (Vy D) :: rw) 0=some (V.str (Vy D)):=Z7 (j:=0) rfl;refine⟨_,rfl,_,rfl,l,_,_,_,rfl,rfl,SqL.of hl,hat,?_⟩;walk_at "if";refine Yf ?_;refine⟨_,rfl,t,_,_,_,rfl,rfl,#[n,hw],hw0,rfl,_,rfl,?_⟩;rw[Om];by_cases hb:D=.back
 ·subst hb;refine iteT ⟨sz2,fun l1 f1=>?_⟩;have s1:=Ze (o:=.lst [.str "",.str "NothingToTakeBack"]) f1;have q1:=Zd (H:=H) (a:=l1) (o:=.lst [.str "",.str "NothingToTakeBack"]);generalize upd H l1 (.lst [.str "",.str "NothingToTakeBack"])=H1 at s1 q1 ⊢;refine⟨_,rfl,l,_,rfl,#[C,s1 _ _ hl],rfl,.inr ⟨_,rfl,l1,_,_,_,rfl,rfl,SqL.of q1,Mx _,?_⟩⟩;have:=hh H1 s1;unfold dueW at this;simp only[refS] at this;have e:#[g,V.int (((ds++[d]).map V.ref).length:Int)=V.int 1]=#[g,S.std=[]]:=decide_eq_decide.mpr ⟨fun z=>List.length_eq_zero_iff.mp (by have z:=V.int.inj z;rw[zwm,zwp] at z;have:[d].length=1:=rfl;omega),fun z=>congrArg V.int (by rw[zwm,zwp,hds,z];rfl)⟩;rw[e];by_cases hk:S.std=[]
  ·rw[#[f,hk]] at this;rw[zws hk];exact this
  ·rw[#[c,hk]] at this;rw[zwx hk];exact this
 rw[<- Om,Be hb];refine #[P];dsimp only;refine Yf ?_;refine⟨_,rfl,t,_,_,_,rfl,rfl,#[n,hw],hw0,rfl,_,rfl,?_⟩;by_cases haw:∃ i0 n0,D=.away i0 n0
 ·obtain⟨i0,n0,rfl⟩:=haw;rw[D3];refine iteT ⟨_,rfl,_,rfl,ok,d,t,P0,i0,n0,rfl,PA,hD,hpp,fun H1 s1=>?_⟩;have:=hh H1 s1;rw[zao hst] at this;rw[RB.len,RB.ppl,RB.out,show (P0.over.length:Int)=(S.led.length:Int) by rw[<- hvl,u2.length]];exact this
 rw[ziv haw];refine #[P];dsimp only;refine Yf (Y1 (b:=decide (V.int (S.led.length:Int)=V.int (S.len:Int))) (fun Q q=>⟨_,rfl,d,_,rfl,#[an,a1],lv,vts,rfl,#[C,u1],_,rfl,d,_,rfl,DGet.k (k:=.inr "rounds") a1,rfl,_,rfl,by rw[hvl,RB.len];exact q⟩) (itB (fun hb'=>?_) fun hb'=>Zt ?_))
 ·have e0:S.len<=S.led.length:=by have:=V.int.inj (of_decide_eq_true hb');omega
  have:=hh H (.refl _);have er:refS S D=some .seaOver:=by
   cases D with
   | enrol n g c=>exact #[f,e0]
   | draw ms=>exact #[f,e0]
   | close=>exact #[f,e0]
   | away i n=>exact absurd ⟨i,n,rfl⟩ haw
   | back=>exact absurd rfl hb
  rw[Kg er] at this;exact this
 have e0:¬ S.len<=S.led.length:=fun z=>of_decide_eq_false hb' (congrArg V.int ⋯);dsimp only;refine Yf ?_;refine⟨_,rfl,t,_,_,_,rfl,rfl,#[n,hw],hw0,rfl,_,rfl,?_⟩;have hno:#[g,li=V.non]=#[g,S.cur=none]:=by
  have e1:#[g,li=V.non]=!P0.lis.isSome:=by rw[<- hls,Bool.not_not]
  rw[e1,RB.lis];cases S.cur<;>rfl
 by_cases hc:D=.close
 ·subst hc;rw[show #[g,V.str (Vy .close)=V.str "close"]=true from zws rfl];refine iteT ⟨sz2,fun l1 f1=>?_⟩;have s1:=Ze (o:=.lst [.str "",.str "NotDrawn"]) f1;have q1:=Zd (H:=H) (a:=l1) (o:=.lst [.str "",.str "NotDrawn"]);generalize upd H l1 (.lst [.str "",.str "NotDrawn"])=H1 at s1 q1 ⊢;refine⟨_,rfl,d,_,rfl,DGet.k (k:=.inr "listed") (s1 _ _ a1),rfl,.inr ⟨_,rfl,l1,_,_,_,rfl,rfl,SqL.of q1,Mx _,?_⟩⟩;have:=hh H1 s1;unfold dueW at this;simp only[refS] at this;rw[#[c,e0]] at this;rw[hno];by_cases hk:S.cur=none
  ·rw[#[f,hk]] at this;rw[zws hk];exact this
  ·rw[#[c,hk]] at this;rw[zwx hk];exact this
 have hwc:#[g,V.str (Vy D)=V.str "close"]=false:=by
  cases D with
  | enrol n g c=>exact Wn (show #[g,("enrol":Str)="close"]=false by decide +kernel)
  | draw ms=>exact Wn (show decide (("draw up":Str)="close")=false by decide +kernel)
  | close=>exact absurd rfl hc
  | away i n=>exact absurd ⟨i,n,rfl⟩ haw
  | back=>exact absurd rfl hb
 rw[hwc];refine #[P];dsimp only;refine Yf (Y1 (b:=P0.lis.isSome) (fun Q q=>⟨_,rfl,d,_,rfl,DGet.k (k:=.inr "listed") a1,rfl,_,rfl,by rw[hls];exact q⟩) (itB (fun hb'=>?_) fun hb'=>Zt ?_))
 ·have e1:S.cur.isSome=true:=by rw[RB.lis] at hb';rw[<- hb'];cases S.cur<;>rfl
  have:=hh H (.refl _);have er:refS S D=some .drawn:=by
   cases D with
   | enrol n g c=>simp only[refS];rw[#[c,e0],#[f,e1]]
   | draw ms=>simp only[refS];rw[#[c,e0],#[f,e1]]
   | close=>exact absurd rfl hc
   | away i n=>exact absurd ⟨i,n,rfl⟩ haw
   | back=>exact absurd rfl hb
  rw[Kg er] at this;exact this
 have e1:¬ S.cur.isSome=true:=by rw[RB.lis] at hb';intro z;revert hb';cases hq:S.cur with
  | none=>rw[hq] at z;cases z
  | some s=>exact nofun
 dsimp only;refine Yf ?_;refine⟨_,rfl,t,_,_,_,rfl,rfl,#[n,hw],hw0,rfl,_,rfl,?_⟩;cases D with
 | close=>exact absurd rfl hc
 | away i n=>exact absurd ⟨i,n,rfl⟩ haw
 | back=>exact absurd rfl hb
 | enrol n' g c =>
   rw[show #[g,V.str (Vy (.enrol n' g c))=V.str "enrol"]=true from zws rfl];refine iteT ⟨_,rfl,_,rfl,ok,d,t,P0,n',g,c,rfl,PA,hD,hpp,fun H1 s1=>?_⟩;have:=hh H1 s1;rw[Bf e0 e1 hfew hst] at this;rw[RB.ppl];exact this
 | draw ms =>
   rw[show #[g,V.str (Vy (.draw ms))=V.str "enrol"]=false from Wn (show decide (("draw up":Str)="enrol")=false by decide +kernel)];refine #[P];dsimp only;obtain⟨ll,ts,t1,t2,t3,t4⟩:=id hD;refine⟨_,rfl,t,_,_,_,rfl,rfl,#[n,t1],rfl,ll,ts,ms,rfl,t2,t3,hdm ms rfl,fun H1 s1=>?_⟩;have:=hh H1 s1;rw[zap e0 e1 hst] at this;exact this
abbrev Me:Stmt:=top 90
theorem za1:#[r,["_law_pages","_law_deed","_law_told"],["_law_pages","_law_deed","_law_told"],Me]:=fnS
theorem za2(F:#[l,"_law_fits","_law_fits",Me])(T:#[o])(znw:Z4 P w K mg base "_law_one_is" 2 #[X] Og)(zoz:Z4 P w K mg base "_law_deed_is" 3 #[X] Gy):FnOk P w K mg base #[k] 4 f fd ["_law_pages","_law_deed","_law_told"] (zaq K):=by
 refine #[p,za1];obtain⟨ok,l,t,ds,d,P0,S,S',D,v,rfl,hl,PA,hD,hat,af,hbk,h⟩:=h;have hu:=Xu hr;refine⟨_,(Zb (Zy (Zp Y6 (pI (iU K) (pv 1) Zg) Zn (Zr _))
  (Zf (Zl (W9 Pa (pv 2) Y8 (Zr _))))
  Zq)
 (Zb (Zy (Zp Y6 (pI (iU K) (pv 1) Zg) Zn (Zr _))
  (Zf (Zl (pF znw hr (Za (pv 2) (Za (Zs Yo (Zm (cL K) (by rfl) T.znu PySem.boot_len (Za (pD hu (pI (iL K) (pv 0) (Td Vd Zg)) Zn) Zc)) Zg) Zc)))))
  Zq)
 (Zb (Zy (Zp Y6 (pI (iU K) (pv 1) Zg) Zn (Zr _))
  (Zf (Zl (pF zoz hr (Za (pv 2) (Za (pD hu (pI (iL K) (pv 0) (Td Vd Zg)) Zn) Zc)))))
  Zq)
 (Zf (Zl (Zm (Z8 (K:=K) rfl) (by rfl) T.znn PyProof.Rows.boot_isinstance (Za (pv 2) (Za (W8 rfl T.zo0 PyProof.Rows.boot_list (show RelV (.ty "list") _ from rfl)) Zc)))))))),?_⟩
 obtain⟨lp,lo,lv,dv,li,lg,lm,a1,PB,okd⟩:=id PA.split;obtain⟨vts,u1,u2,u3⟩:=PB.vv;have hvl:(vts.length:Int)+1=atV S:=by rw[u2.length];exact hat
 have hlast:atI ((ds++[d]).map V.ref) (-1)=#[b,V.ref,d]:=by rw[zwq];exact L2.atI_last _ _
 obtain⟨rw,hw⟩:=hD.word;have hw0:atI (V.str (Vy D) :: rw) 0=some (V.str (Vy D)):=Z7 (j:=0) rfl;refine Yf ?_;refine⟨_,rfl,t,_,_,_,rfl,rfl,#[n,hw],hw0,rfl,_,rfl,?_⟩;by_cases he:∃ n g c,D=.enrol n g c
 ·obtain⟨n,g,c,rfl⟩:=he;rw[show #[g,V.str (Vy (.enrol n g c))=V.str "enrol"]=true from zws rfl];cases af with
  | enrol n g c=>exact iteT ⟨_,rfl,rfl,h H (.refl _)⟩
 have e1:#[g,V.str (Vy D)=V.str "enrol"]=false:=by
  cases D with
  | enrol n g c=>exact absurd ⟨n,g,c,rfl⟩ he
  | draw ms=>exact Wn (show decide (("draw up":Str)="enrol")=false by decide +kernel)
  | close=>exact Wn (show #[g,("close":Str)="enrol"]=false by decide +kernel)
  | away i n=>exact Wn (show #[g,("away":Str)="enrol"]=false by decide +kernel)
  | back=>exact Wn (show #[g,("take back":Str)="enrol"]=false by decide +kernel)
 rw[e1];refine #[P];dsimp only;refine Yf ?_;refine⟨_,rfl,t,_,_,_,rfl,rfl,#[n,hw],hw0,rfl,_,rfl,?_⟩;by_cases hc:D=.close
 ·subst hc;rw[show #[g,V.str (Vy .close)=V.str "close"]=true from zws rfl];cases af with
  | close hs=>exact iteT ⟨_,rfl,_,rfl,_,rfl,l,_,_,_,rfl,rfl,SqL.of hl,hlast,d,_,rfl,#[an,a1],lv,vts,rfl,#[C,u1],_,_,rfl,rfl,.int (atV S),(by rw[hvl];rfl),.inr ⟨_,rfl⟩,h H (.refl _)⟩
 have e2:#[g,V.str (Vy D)=V.str "close"]=false:=by
  cases D with
  | enrol n g c=>exact absurd ⟨n,g,c,rfl⟩ he
  | draw ms=>exact Wn (show decide (("draw up":Str)="close")=false by decide +kernel)
  | close=>exact absurd rfl hc
  | away i n=>exact Wn (show #[g,("away":Str)="close"]=false by decide +kernel)
  | back=>exact Wn (show #[g,("take back":Str)="close"]=false by decide +kernel)
 rw[e2];refine #[P];dsimp only;refine Yf ?_;refine⟨_,rfl,t,_,_,_,rfl,rfl,#[n,hw],hw0,rfl,_,rfl,?_⟩;by_cases hb:D=.back
 ·subst hb;rw[Om];cases af with
  | @back S0 dd tt hs ht hst =>
    have hdd:=hbk rfl _ _ _ hs;obtain⟨td,ed,htd⟩:∃ td,dv=.ref td/\H td=some (.tup (W3 dd)):=by have:=PB.dd;rw[hdd] at this;exact this
    subst ed;exact iteT ⟨_,rfl,_,rfl,_,rfl,l,_,_,_,rfl,rfl,SqL.of hl,hlast,d,_,rfl,DGet.k (k:=.inr "deed") a1,tt,td,dd,rfl,ht,htd,h H (.refl _)⟩
 rw[Be hb];refine #[P];dsimp only;have hv:∃ lv xs,v=.ref lv/\H lv=#[x,xs]:=by
  cases af with
  | enrol n g c=>exact absurd ⟨n,g,c,rfl⟩ he
  | awayN _ hl=>exact⟨_,_,rfl,hl⟩
  | awayF _ _ hl=>exact⟨_,_,rfl,hl⟩
  | awayC _ _ hl _ _=>exact⟨_,_,rfl,hl⟩
  | draw hl _ _=>exact⟨_,_,rfl,hl⟩
  | close _=>exact absurd rfl hc
  | back _ _ _=>exact absurd rfl hb
 obtain⟨lw,xs,rfl,hlw⟩:=hv;exact⟨_,rfl,_,_,_,_,rfl,.of (.lst hlw),#[T,_,rfl],Lw K,h H (.refl _)⟩
abbrev Rn:Stmt:=top 91
theorem Ue:#[r,["_law_match","_law_cell_here","_law_home","_law_guest","_law_grade"],["_law_match","_law_cell_here"],Rn]:=fnS
theorem Fv(F:#[l,"_law_spoiled","_law_spoiled",Rn])(T:#[o]):FnOk P w K mg base #[k] 1 f fd ["_law_match","_law_cell_here"] (Cb K):=by
 refine #[p,Ue];obtain⟨t,m,c,rfl,ht,hs,h⟩:=h;refine⟨_,(Zb (S5 (pv 0) (Xm (K:=K) (n:=3) rfl rfl (Zv (pN 2 Ue.nd) (Zv (pN 3 Ue.nd) (Zv (pN 4 Ue.nd) Xl)))))
 (Zb (Zy (Zp Y6 (Zs Ye (pv 1) Zg) Zg (Zr _))
  (Zf (Zl (Z9 (Za (pv 2) (Za (pv 2) (Za (pv 4) Zc))))))
  Zq)
 (Zb (Zy (Zp Y6 (Zs Ye (pv 1) Zg) Zg (Zr _))
  (Zf (Zl (Z9 (Za (pv 2) (Za (pv 3) (Za (pI (iL K) (Z2 (Za Zg (Za Zg (Za (Td Vd Zg) (Za (Zs Hh Zg Zg) Zc))))) (Zs Ye (Zs Yt (pv 1) Zg) Zg)) Zc))))))
  Zq)
 (Zb (Zy (PW.pt (Hf (Zp Y6 (Zs Ye (pv 1) Zg) Zg (Zr _)) (Mg (Zp Y6 (Zs Ye (Zs Yt (pv 1) Zg) Zg) Zg (Zr _)))))
  (Zf (Zl (Z9 (Za (pI (iL K) (Z2 (Za Zg (Za Zg (Za (Td Vd Zg) (Za (Zs Hh Zg Zg) Zc))))) (Zs Ye (Zs Yt (pv 1) Zg) Zg)) (Za (pv 3) (Za (pv 4) Zc))))))
  Zq)
 (Zb (Zy (Zp Y6 (Zs Ye (pv 1) Zg) Zg (Zr _))
  (Zf (Zl (Z9 (Za (pv 2) (Za (pI (iL K) (Z2 (Za Zg (Za Zg (Za (Td Vd Zg) (Za (Zs Hh Zg Zg) Zc))))) (Zs Ye (Zs Yt (pv 1) Zg) Zg)) (Za (pv 4) Zc))))))
  Zq)
 (Zf (Zl (pv 0)))))))),?_⟩
 show let y1:TS:=_;let y2:TS:=Z1 _ y1;let y3:TS:=Z1 _ y2;let y4:TS:=Z1 _ y3;let y5:TS:=Z1 _ y4;Z1 _ y5 _ _ _;intro y1 y2 y3 y4 y5;refine⟨_,rfl,t,_,rfl,#[n,ht],rfl,_,_,rfl,_,_,rfl,_,_,rfl,rfl,?_⟩;walk_at "if";have hr:∀ i:Nat,∀ ls:#[t],ls.length=4->(∀ x∈ls,Yc x)->i<4->∃ x,atI (ls.map V.int) (i:Int)=#[q,x]/\Yc x:=fun i ls hl hx hi=>⟨ls[i]'⋯,Z7 (by rw[zwu,zwn ⋯];rfl),hx _ (zxg _)⟩
 refine Yf (Y1 (b:=decide (V.int (c%4)=V.int 1)) (fun Q q=>⟨_,rfl,_,_,rfl,rfl,⋯,rfl,_,rfl,q⟩) #[ao])
 ·refine⟨_,rfl,_,rfl,_,rfl,(by show 3<=sizeLine;rw[sizeLine_eq];decide),fun t1 f1=>?_⟩;exact h t1 (m.1,m.1,m.2.2) _ Zd ⟨hs.1,hs.1,hs.2.2⟩ (Ze f1)
 dsimp only;have b40:Yc (10 ^ (40:Int).toNat):=by unfold Yc;decide +kernel
 have b30:Yc (10 ^ (30:Int).toNat):=by unfold Yc;decide +kernel
 obtain⟨k,hk,hk4⟩:∃ k:Nat,c/4%4=(k:Int)/\k<4:=⟨(c/4%4).toNat,by omega,by omega⟩;obtain⟨x1,hx1,sx1⟩:=hr k [0,10,-1,10 ^ (30:Int).toNat] rfl (fun x hx=>by
  simp only[zwr,zxf,or_false] at hx;rcases hx with rfl|rfl|rfl|rfl
  ·exact Z0 ⋯ ⋯
  ·exact Z0 ⋯ ⋯
  ·exact Z0 ⋯ ⋯
  ·exact b30) hk4
 obtain⟨x2,hx2,sx2⟩:=hr k [0,100,-5,10 ^ (40:Int).toNat] rfl (fun x hx=>by
  simp only[zwr,zxf,or_false] at hx;rcases hx with rfl|rfl|rfl|rfl
  ·exact Z0 ⋯ ⋯
  ·exact Z0 ⋯ ⋯
  ·exact Z0 ⋯ ⋯
  ·exact b40) hk4
 rw[<- hk] at hx1 hx2;refine Yf (Y1 (b:=decide (V.int (c%4)=V.int 2)) (fun Q q=>⟨_,rfl,_,_,rfl,rfl,⋯,rfl,_,rfl,q⟩) #[ao])
 ·refine⟨_,rfl,_,rfl,_,rfl,_,_,rfl,rfl,⟨by decide,by decide,by decide⟩,sz4,fun l1 f1=>?_⟩;have s1:=Ze (o:=.lst [.int 0,.int 10,.int (-1),.int (10 ^ (30:Int).toNat)]) f1;have q1:=Zd (H:=H) (a:=l1) (o:=.lst [.int 0,.int 10,.int (-1),.int (10 ^ (30:Int).toNat)]);generalize upd H l1 (.lst [.int 0,.int 10,.int (-1),.int (10 ^ (30:Int).toNat)])=H1 at s1 q1 ⊢;refine⟨_,rfl,_,_,rfl,rfl,⟨by decide,by decide⟩,_,_,rfl,rfl,⋯,l1,_,_,_,rfl,rfl,SqL.of q1,hx1,(by show 3<=sizeLine;rw[sizeLine_eq];decide),fun t1 f1=>?_⟩;exact h t1 (m.1,m.2.1,x1) _ Zd ⟨hs.1,hs.2.1,sx1⟩ (s1.trans (Ze f1))
 dsimp only;refine Yf (Y1 (b:=decide (V.int (c%4)=V.int 3)&&decide (V.int (c/16%2)=V.int 0)) (zd6 (fun Q q=>⟨_,rfl,_,_,rfl,rfl,⋯,rfl,_,rfl,q⟩) fun Q q=>⟨_,rfl,_,_,rfl,rfl,⟨by decide,by decide⟩,_,_,rfl,rfl,⋯,rfl,_,rfl,q⟩) #[ao])
 ·refine⟨_,rfl,_,_,rfl,rfl,⟨by decide,by decide,by decide⟩,sz4,fun l1 f1=>?_⟩;have s1:=Ze (o:=.lst [.int 0,.int 100,.int (-5),.int (10 ^ (40:Int).toNat)]) f1;have q1:=Zd (H:=H) (a:=l1) (o:=.lst [.int 0,.int 100,.int (-5),.int (10 ^ (40:Int).toNat)]);generalize upd H l1 (.lst [.int 0,.int 100,.int (-5),.int (10 ^ (40:Int).toNat)])=H1 at s1 q1 ⊢;refine⟨_,rfl,_,_,rfl,rfl,⟨by decide,by decide⟩,_,_,rfl,rfl,⋯,l1,_,_,_,rfl,rfl,SqL.of q1,hx2,_,rfl,_,rfl,(by show 3<=sizeLine;rw[sizeLine_eq];decide),fun t1 f1=>?_⟩;exact h t1 (x2,m.2.1,m.2.2) _ Zd ⟨sx2,hs.2.1,hs.2.2⟩ (s1.trans (Ze f1))
 dsimp only;refine Yf (Y1 (b:=decide (V.int (c%4)=V.int 3)) (fun Q q=>⟨_,rfl,_,_,rfl,rfl,⋯,rfl,_,rfl,q⟩) #[ao])
 ·refine⟨_,rfl,_,rfl,_,_,rfl,rfl,⟨by decide,by decide,by decide⟩,sz4,fun l1 f1=>?_⟩;have s1:=Ze (o:=.lst [.int 0,.int 100,.int (-5),.int (10 ^ (40:Int).toNat)]) f1;have q1:=Zd (H:=H) (a:=l1) (o:=.lst [.int 0,.int 100,.int (-5),.int (10 ^ (40:Int).toNat)]);generalize upd H l1 (.lst [.int 0,.int 100,.int (-5),.int (10 ^ (40:Int).toNat)])=H1 at s1 q1 ⊢;refine⟨_,rfl,_,_,rfl,rfl,⟨by decide,by decide⟩,_,_,rfl,rfl,⋯,l1,_,_,_,rfl,rfl,SqL.of q1,hx2,_,rfl,(by show 3<=sizeLine;rw[sizeLine_eq];decide),fun t1 f1=>?_⟩;exact h t1 (m.1,x2,m.2.2) _ Zd ⟨hs.1,sx2,hs.2.2⟩ (s1.trans (Ze f1))
 exact#[w,_,h t m H ht hs (.refl _)]
abbrev Sl:Stmt:=top 92
theorem Yj:#[r,["_law_pages","_law_cell_here","_law_pool_here","_law_mixed","_law_clubs_here","_law_numbers_here","_law_rest_here","_law_known","_law_who","_law_far","_law_day","_law_grade","_law_matches_here","_law_k"],["_law_pages","_law_cell_here","_law_pool_here","_law_mixed"],Sl]:=fnS
theorem Il(F:#[l,"_law_any_deed","_law_any_deed",Sl])(T:#[o])(zq1:Z4 P w K mg base "_law_matches" 2 ["_law_cell_here","_law_clubs_here","_law_most","_law_mixed"] (Jd K))(zqv:Z4 P w K mg base "_law_spoiled" 1 ["_law_match","_law_cell_here"] (Cb K)):FnOk P w K mg base #[k] 3 f fd ["_law_pages","_law_cell_here","_law_pool_here","_law_mixed"] (Cc K):=by
 refine #[p,Yj];obtain⟨ok,l,t,lc,ln,ds,d,P0,cell,cs,nu,mixed,rfl,hl,PA,PL,hmx,hpp,hov,hnu3,hsub,h⟩:=h;have hu:=Xu hr;refine⟨_,(Zb (S5 (pv 2) (Xm (K:=K) (n:=2) rfl rfl (Zv (pN 4 Yj.nd) (Zv (pN 5 Yj.nd) Xl))))
 (Zb (pS 6 Yj.nd (Zs Yt (pv 1) Zg))
 (Zb (Sw (i:=7) Yj.nd rfl rfl rfl (cT [] []) (Yh (K:=K) rfl (pD hu (pI (iL K) (pv 0) (Td Vd Zg)) Zn)) (fun _ _ _ _ _=>X5) (fun _ _ _ _ _=>(pI (iU K) (pv 0) Zg)))
 (Zb (pS 8 Yj.nd (pI (iL K) (Zs Vo (Zs Vo (pv 7) (Mi (Mn (K:=K) rfl) (pv 5) Ip (Iq Zg))) (Z2 (Za Zg (Za (Td Vd Zg) (Za Zg (Za (Zs Hh Zg Zg) Zc)))))) (Zs Ye (pv 6) (Zs Yo (Zm (cL K) (by rfl) T.znu PySem.boot_len (Za (pv 7) Zc)) Zg))))
 (Zb (pS 9 Yj.nd (Zs Yt (pv 6) (Zs Yo (Zm (cL K) (by rfl) T.znu PySem.boot_len (Za (pv 7) Zc)) Zg)))
 (Zb (pS 10 Yj.nd (Zs Yo (Zm (cL K) (by rfl) T.znu PySem.boot_len (Za (pD hu (pI (iL K) (pv 0) (Td Vd Zg)) Zn) Zc)) Zg))
 (Zb (Zy (Zp Sn (Zs Ye (pv 1) Zg) Zg (Zr _))
  (Zf (Zl (Z9 (Za Zn (Za (Zs Yo (pv 10) (pI (iL K) (Z2 (Za Zg (Za Zg (Za Zg (Za Zg (Za (Td Vd Zg) (Za (Td Vd Zg) (Za Zg (Za (Zs Hh Zg Zg) Zc))))))))) (Zs Ye (pv 9) Zg))) (Za (pv 8) Zc))))))
  Zq)
 (Zb (Zy (Zp Sn (Zs Ye (pv 1) Zg) Zg (Zr _))
  (Zb (pS 11 Yj.nd (pI (iL K) (Z2 (Za Zg (Za Zg (Za Zg (Za Zg (Za Zg (Za Zg (Za Zg (Za Zg Zc))))))))) (Zs Ye (pv 9) Zg)))
  (Zf (Zl (Z9 (Za Zn (Za (pv 8) (Za (pv 11) (Za (pI (iL K) (Zs Vo (pv 4) (Z2 (Za Zg (Za Zg Zc)))) (Zs Ye (Zs Yt (pv 9) Zg) (Zs Yo (Zm (cL K) (by rfl) T.znu PySem.boot_len (Za (pv 4) Zc)) Zg))) Zc))))))))
  Zq)
 (Zb (Zy (Zp Sn (Zs Ye (pv 1) Zg) Zg (Zr _))
  (Zb (pS 12 Yj.nd (pF zq1 hr (Za (pv 9) (Za (pv 4) (Za Zg (Za (pv 3) Zc))))))
  (Zb (Xc PassesOwn.leaving rfl (Xb rfl T.zog (Za (Zm (cL K) (by rfl) T.znu PySem.boot_len (Za (pv 12) Zc)) Zc)) (pN 13 Yj.nd)
   (Zf (Zy (Zp Y6 (Zs Ye (pv 6) Zg) Zg (Zr _))
    (Zf (S5 (pF zqv hr (Za (pI (iL K) (pv 12) (pv 13)) (Za (Zs Yt (Zs Yo (pv 9) Zg) (Zs Yo (pv 13) Zg)) Zc))) (zfb (pv 12) (pv 13) B6)))
    Zq)))
  (Zf (Zl (Z9 (Za Zn (Za (Zs zj5 (pv 12) (pI (iL K) (Z2 (Za Zg (Za Zg (Za Zg (Za Zg Zc))))) (Zs Ye (Zs Yt (pv 6) Zg) Zg))) Zc)))))))
  Zq)
 (Zf (Zl (pI (iL K) (Z2 (Za (Z9 (Za Zn Zc)) (Za (Z9 (Za Zn Zc)) (Za (Z9 (Za Zn Zc)) Zc)))) (Zs S6 (Zs Ye (pv 1) Zg) Zg))))))))))))),?_⟩
 show let y1:TS:=_;let y2:TS:=Z1 _ y1;let y3:TS:=_;let y4:TS:=Z1 (Cf _ (Z1 _ y2) _) y3;let y5:TS:=Z1 _ y4;let y6:TS:=Z1 _ y5;let y7:TS:=Z1 _ y6;let y8:TS:=Z1 _ y7;let y9:TS:=Z1 _ y8;let y10:TS:=Z1 _ y9;let y11:TS:=Z1 _ y10;Z1 _ y11 _ _ _;intro y1 y2 y3 y4 y5 y6 y7 y8 y9 y10 y11;obtain⟨lp,lo,lv,dv,li,lg,lm,a1,PB,okd⟩:=id PA.split;obtain⟨vts,u1,u2,u3⟩:=PB.vv;have few:=PL.few;have nfew:=PL.nfew;have hlast:atI ((ds++[d]).map V.ref) (-1)=#[b,V.ref,d]:=by rw[zwq];exact L2.atI_last _ _
 refine⟨_,rfl,t,_,rfl,#[n,PL.tup],rfl,_,_,rfl,_,_,rfl,rfl,?_⟩;walk_at "if";refine⟨_,rfl,_,_,rfl,rfl,⟨by omega,by omega⟩,?_⟩;obtain⟨R,hR⟩:∃ R,R=cell/12:=#[y,_];rw[<- hR];walk_at "if";refine D9 (fun q=>⟨_,rfl,_,rfl,l,_,_,_,rfl,rfl,SqL.of hl,hlast,q⟩) PA hpp fun lk H1 hk s1 fk=>?_;obtain⟨kn,hkn⟩:∃ kn,kn=P0.ppl.map (·.1):=#[y,_];have hkl:kn.length<=100:=by rw[hkn,zwm];exact hpp
 rw[<- hkn] at hk hsub;walk_at "if";refine⟨_,rfl,_,rfl,_,rfl,ln,_,rfl,#[Q,s1,PL.nums],fun l3 f3=>?_⟩;rw[show Nd (nu.map V.int) none (some 3)=(nu.take 3).map V.int by rw[List.map_take];exact zii _ 3];have s2:=Ze (o:=.lst ((nu.take 3).map V.int)) f3;have q2:=Zd (H:=H1) (a:=l3) (o:=.lst ((nu.take 3).map V.int));generalize upd H1 l3 (.lst ((nu.take 3).map V.int))=H2 at s2 q2 ⊢;refine⟨lk,l3,_,_,rfl,rfl,s2 _ _ hk,q2,szN (by rw[zwm,zwm,zx6];omega),fun l4 f4=>?_⟩;rw[<- zwq];have s3:=Ze (o:=.lst ((kn++nu.take 3).map V.int)) f4;have q3:=Zd (H:=H2) (a:=l4) (o:=.lst ((kn++nu.take 3).map V.int));generalize upd H2 l4 (.lst ((kn++nu.take 3).map V.int))=H3 at s3 q3 ⊢;refine⟨_,rfl,_,_,rfl,rfl,⟨by decide,by decide,by decide⟩,sz4,fun l5 f5=>?_⟩;have s4:=Ze (o:=.lst [.int 0,.int (-1),.int 1000,.int (10 ^ (20:Int).toNat)]) f5;have q4:=Zd (H:=H3) (a:=l5) (o:=.lst [.int 0,.int (-1),.int 1000,.int (10 ^ (20:Int).toNat)]);generalize upd H3 l5 (.lst [.int 0,.int (-1),.int 1000,.int (10 ^ (20:Int).toNat)])=H4 at s4 q4 ⊢;refine⟨l4,l5,_,_,rfl,rfl,s4 _ _ q3,q4,szN (by rw[zwm,zwp,zx6];show _+4<=1000;omega),fun l6 f6=>?_⟩;obtain⟨W,hW⟩:∃ W:#[t],W=kn++nu.take 3++[0,-1,1000,10 ^ (20:Int).toNat]:=#[y,_];have eW:(kn++nu.take 3).map V.int++[.int 0,.int (-1),.int 1000,.int (10 ^ (20:Int).toNat)]=W.map V.int:=by rw[hW];simp only[zwq,zwz,zyt]
 rw[eW];have hWl:W.length=kn.length+7:=by rw[hW,zwp,zwp,zx6];show _+4=_;omega
 have hWm:∀ w∈W,Yc w/\(w∈nu\/w<1\/999<w):=fun w hw=>by
  rw[hW] at hw;rcases zwy.mp hw with hw|hw
  ·have hn:w∈nu:=by
    rcases zwy.mp hw with hw|hw
    ·exact hsub w hw
    ·exact List.mem_of_mem_take hw
   have:=PL.nrng w hn;exact⟨Z0 ⋯ ⋯,.inl hn⟩
  ·simp only[zwr,zxf,or_false] at hw;rcases hw with rfl|rfl|rfl|rfl
   ·exact⟨Z0 ⋯ ⋯,.inr (.inl ⋯)⟩
   ·exact⟨Z0 ⋯ ⋯,.inr (.inl ⋯)⟩
   ·exact⟨Z0 ⋯ ⋯,.inr (.inr ⋯)⟩
   ·exact⟨by unfold Yc;decide +kernel,.inr (.inr ⋯)⟩
 clear eW hW;have s5:=Ze (o:=.lst (W.map V.int)) f6;have q5:=Zd (H:=H4) (a:=l6) (o:=.lst (W.map V.int));generalize upd H4 l6 (.lst (W.map V.int))=H5 at s5 q5 ⊢;have s25:=s2.trans (s3.trans (s4.trans s5));have s05:=s1.trans s25;have y0:=zxq R (show ((kn.length:Int)+7)≠0 by omega);have y1:=zxm R (show (0:Int)<(kn.length:Int)+7 by omega);have hix:=Wg (xs:=W) y0 ⋯;have hwm:=hWm _ (Ur (ns:=W) (i:=(R%((kn.length:Int)+7)).toNat) ⋯);generalize W.getD (R%((kn.length:Int)+7)).toNat 0=wh at hix hwm;refine⟨_,rfl,_,rfl,lk,_,rfl,#[C,s25 _ _ hk],?_⟩;rw[zwm];refine⟨_,_,rfl,rfl,_,_,rfl,rfl,⋯,l6,_,_,_,rfl,rfl,SqL.of q5,hix,?_⟩;walk_at "if";refine⟨_,rfl,_,rfl,lk,_,rfl,#[C,s25 _ _ hk],?_⟩;rw[zwm];refine⟨_,_,rfl,rfl,_,_,rfl,rfl,⟨by omega,by omega⟩,?_⟩;obtain⟨far,hfar⟩:∃ far,far=R/((kn.length:Int)+7):=#[y,_];rw[<- hfar];walk_at "if";refine⟨_,rfl,_,rfl,l,_,_,_,rfl,rfl,#[Q,s05,hl],hlast,d,_,rfl,#[an,s05 _ _ a1],lv,vts,rfl,#[C,s05 _ _ u1],_,_,rfl,rfl,?_⟩;rw[u2.length];walk_at "if";show y6 _ [#[e,l],#[q,cell],#[e,t],#[q,mixed],#[e,lc],#[e,ln],#[q,R],#[e,lk],#[q,wh],#[q,far],#[q,(P0.over.length:Int)+1],none,none,none] H5;have sz3:3<=sizeLine:=by rw[sizeLine_eq];decide
 have sz8:8<=sizeLine:=by rw[sizeLine_eq];decide
 have sz1:1<=sizeLine:=by rw[sizeLine_eq];decide
 have fr:∀ {x:Addr} {H':Hp},Same H5 H'->H' x=none->H x=none:=fun e z=>s05.free (e.free z);have w0:=zxq far (show (8:Int)≠0 by decide);have w1:=zxm far (show (0:Int)<8 by decide);refine Yf (Y1 (b:=decide (cell%12<4)) (fun Q q=>⟨_,rfl,_,_,rfl,rfl,⋯,_,_,rfl,rfl,_,rfl,q⟩) #[ao])
 ·refine⟨_,rfl,_,rfl,_,rfl,_,_,rfl,rfl,⟨by decide,by decide,by decide⟩,sz8,fun l7 f7=>?_⟩;obtain⟨O,hO⟩:∃ O:#[t],O=[0,0,0,1,-1,-2,2,10 ^ (20:Int).toNat]:=#[y,_];have eO:([.int 0,.int 0,.int 0,.int 1,.int (-1),.int (-2),.int 2,.int (10 ^ (20:Int).toNat)]:List V)=O.map V.int:=by rw[hO];rfl
  have hOl:O.length=8:=by rw[hO];rfl
  have hOm:∀ x∈O,x.natAbs<=10 ^ 21:=by rw[hO];decide +kernel
  show tOp _ _ _ _ (upd H5 l7 (.lst [.int 0,.int 0,.int 0,.int 1,.int (-1),.int (-2),.int 2,.int (10 ^ (20:Int).toNat)])) _;rw[eO];clear hO eO;have s6:=Ze (o:=.lst (O.map V.int)) f7;have q6:=Zd (H:=H5) (a:=l7) (o:=.lst (O.map V.int));generalize upd H5 l7 (.lst (O.map V.int))=H6 at s6 q6 ⊢;have hof:=Wg (xs:=O) w0 ⋯;have hom:=hOm _ (Ur (ns:=O) (i:=(far%8).toNat) ⋯);generalize O.getD (far%8).toNat 0=off at hof hom;refine⟨_,rfl,_,_,rfl,rfl,⋯,l7,_,_,_,rfl,rfl,SqL.of q6,hof,_,_,rfl,rfl,_,rfl,sz3,fun tt ft=>?_⟩;exact h tt (.away ((P0.over.length:Int)+1+off) wh) _ Zd ⟨Yk ⋯,hwm.1⟩ nofun nofun (s05.trans (s6.trans (Ze ft))) (fr s6 ft)
 dsimp only;refine Yf (Y1 (b:=decide (cell%12<6)) (fun Q q=>⟨_,rfl,_,_,rfl,rfl,⋯,_,_,rfl,rfl,_,rfl,q⟩) #[ao])
 ·refine Yf ?_;refine⟨sz8,fun l8 f8=>?_⟩;obtain⟨O,hO⟩:∃ O:#[t],O=[1,3,5,7,9,9,10,0]:=#[y,_];have eO:([.int 1,.int 3,.int 5,.int 7,.int 9,.int 9,.int 10,.int 0]:List V)=O.map V.int:=by rw[hO];rfl
  have hOl:O.length=8:=by rw[hO];rfl
  have hOm:∀ x∈O,0<=x/\x<=10:=by rw[hO];decide +kernel
  show tOp _ _ _ _ (upd H5 l8 (.lst [.int 1,.int 3,.int 5,.int 7,.int 9,.int 9,.int 10,.int 0])) _;rw[eO];clear hO eO;have s6:=Ze (o:=.lst (O.map V.int)) f8;have q6:=Zd (H:=H5) (a:=l8) (o:=.lst (O.map V.int));generalize upd H5 l8 (.lst (O.map V.int))=H6 at s6 q6 ⊢;have hgr:=Wg (xs:=O) w0 ⋯;have hgm:=hOm _ (Ur (ns:=O) (i:=(far%8).toNat) ⋯);generalize O.getD (far%8).toNat 0=gr at hgr hgm;refine⟨_,rfl,_,_,rfl,rfl,⋯,l8,_,_,_,rfl,rfl,SqL.of q6,hgr,?_⟩;dsimp only[Ws,List.set];refine⟨_,rfl,_,rfl,_,rfl,sz2,fun l9 f9=>?_⟩;have s7:=Ze (o:=.lst [.int 100,.int 0]) f9;have q7:=Zd (H:=H6) (a:=l9) (o:=.lst [.int 100,.int 0]);generalize upd H6 l9 (.lst [.int 100,.int 0])=H7 at s7 q7 ⊢;have s07:=s05.trans (s6.trans s7);refine⟨lc,l9,_,_,rfl,rfl,s07 _ _ PL.clubs,q7,szN (by rw[zwm];show _+2<=1000;omega),fun l10 f10=>?_⟩;obtain⟨C,hC⟩:∃ C:#[t],C=cs++[100,0]:=#[y,_];have eC:cs.map V.int++#[M,100,0]=C.map V.int:=by rw[hC];simp only[zwq,zwz,zyt]
  have hCl:C.length=cs.length+2:=by rw[hC,zwp];rfl
  have hCm:∀ x∈C,0<=x/\x<=100:=fun x hx=>by
   rw[hC] at hx;rcases zwy.mp hx with hx|hx
   ·have:=PL.crng x hx;omega
   ·simp only[zwr,zxf,or_false] at hx;omega
  rw[eC];clear hC eC;have s8:=Ze (o:=.lst (C.map V.int)) f10;have q8:=Zd (H:=H7) (a:=l10) (o:=.lst (C.map V.int));generalize upd H7 l10 (.lst (C.map V.int))=H8 at s8 q8 ⊢;have x0:=zxq (far/8) (show ((cs.length:Int)+2)≠0 by omega);have x1:=zxm (far/8) (show (0:Int)<(cs.length:Int)+2 by omega);have hcl:=Wg (xs:=C) x0 ⋯;have hcm:=hCm _ (Ur (ns:=C) (i:=(far/8%((cs.length:Int)+2)).toNat) ⋯);generalize C.getD (far/8%((cs.length:Int)+2)).toNat 0=c at hcl hcm;refine⟨_,rfl,_,_,rfl,rfl,⟨by decide,by decide⟩,_,rfl,lc,_,rfl,#[C,(s07.trans s8) _ _ PL.clubs],?_⟩;rw[zwm];refine⟨_,_,rfl,rfl,_,_,rfl,rfl,⋯,l10,_,_,_,rfl,rfl,SqL.of q8,hcl,sz4,fun tt ft=>?_⟩;have s58:=s6.trans (s7.trans s8);refine h tt (.enrol wh gr c) _ Zd ⟨hwm.1,Z0 ⋯ ⋯,Z0 ⋯ ⋯⟩ nofun (fun n g c' e=>?_) (s05.trans (s58.trans (Ze ft))) (fr s58 ft);cases e;rcases hwm.2 with z|z|z
  ·exact .inl z
  ·exact .inr (.inl z)
  ·exact .inr (.inr (.inl z))
 dsimp only;refine Yf (Y1 (b:=decide (cell%12<9)) (fun Q q=>⟨_,rfl,_,_,rfl,rfl,⋯,_,_,rfl,rfl,_,rfl,q⟩) #[ao])
 ·refine Yf ?_;refine⟨_,rfl,_,rfl,_,rfl,lc,cs,far,5,mixed,rfl,s05 _ _ PL.clubs,by omega,by omega,PL.cnd,PL.crng,by decide,hmx,fun lm' ts0 ms0 H7 hlm tl0 hml gm s7 flm=>?_⟩;dsimp only[Ws,List.set];have flm0:H lm'=none:=s05.free flm;have s07:=s05.trans s7;have htl0:ts0.length=ms0.length:=by rw[tl0.length,zwm]
  have gsm:∀ m∈ms0,S7 m:=fun m hm=>by
   have:=gm.1 m hm;unfold badM at this;exact⟨Z0 ⋯ ⋯,Z0 ⋯ ⋯,Z0 ⋯ ⋯⟩
  let jv1:Nat->L2.St->Hp->Prop:=fun i σ H'=>(∃ v,σ=[some (.ref l),some (.int cell),some (.ref t),some (.int mixed),some (.ref lc),some (.ref ln),some (.int R),some (.ref lk),some (.int wh),some (.int far),some (.int ((P0.over.length:Int)+1)),none,some (.ref lm'),v])/\(∀ x o,H7 x=some o->x≠lm'->H' x=some o)/\∃ ts ms,H' lm'=#[x,ts]/\#[L,H',(ms:List P3).map,pV]/\ms.length=ms0.length/\∀ m∈ms,S7 m
  refine⟨_,rfl,lm',_,rfl,#[C,hlm],_,rfl,by omega,by omega,Xs jv1 ⟨#[y,_],fun _ _ e _=>e,ts0,ms0,hlm,tl0,rfl,gsm⟩ ?_ ?_⟩
  ·rintro i σ H8 hi ⟨⟨v,rfl⟩,kp,ts,ms,hts,tl,hmsl,hsm⟩;rw[zw2] at hi;rw[zxt];have htl:ts.length=ms.length:=by rw[tl.length,zwm]
   obtain⟨tm,m,ex,hm,htm⟩:=Ot tl (zwn (show i<ts.length by omega));have hti:ts[i]?=#[e,tm]:=by rw[zwn (show i<ts.length by omega),ex]
   walk_at "if";refine Y1 (b:=decide (V.int (R%3)=V.int 2)) (fun Q q=>⟨_,rfl,_,_,rfl,rfl,⋯,rfl,_,rfl,q⟩) (itB (fun hb=>?_) fun hb=>Zt ⟨#[y,_],kp,ts,ms,hts,tl,hmsl,hsm⟩);refine⟨_,rfl,_,rfl,lm',_,_,_,rfl,rfl,SqL.of hts,Z7 hti,_,rfl,_,_,rfl,rfl,_,rfl,_,_,rfl,rfl,_,_,rfl,rfl,⟨by omega,by omega⟩,tm,m,_,rfl,htm,hsm m (zw0 hm),fun t' m' H9 ht' sm' s9=>?_⟩;refine⟨_,rfl,_,rfl,lm',ts,(i:Int),i,rfl,rfl,s9 _ _ hts,?_,?_⟩
   ·show ixN _ ((i:Nat):Int)=some _;unfold ixN;rw[if_pos ⋯,if_pos ⋯,zw2]
   have k10:∀ x o,H9 x=#[d]->x≠lm'->upd H9 lm' (.lst (ts.set i (.ref t'))) x=#[d]:=fun x o e n=>by rw[Zh n];exact e
   have kt10:∀ x ys,H9 x=#[E,ys]->upd H9 lm' (.lst (ts.set i (.ref t'))) x=#[E,ys]:=fun x ys e=>k10 _ _ e #[ak,Yu,e,s9 _ _ hts];refine⟨#[y,_],fun x o e n=>k10 _ _ (s9 _ _ (kp _ _ e n)) n,ts.set i (.ref t'),ms.set i m',Zd,?_,by rw[zx3];exact hmsl,fun x hx=>?_⟩
   ·rw[List.map_set];exact TupL.set (kt10 _ _ ht') i ((tl.same s9).mono kt10)
   ·rcases List.mem_or_eq_of_mem_set hx with z|z
    ·exact hsm x z
    ·rw[z];exact sm'
  ·rintro σ H8 ⟨⟨v,rfl⟩,kp,ts,ms,hts,tl,hmsl,hsm⟩;have htl:ts.length=ms.length:=by rw[tl.length,zwm]
   have s8:Same H H8:=fun x o e=>kp _ _ (s07 _ _ e) (Zi e flm0);obtain⟨k,hk,hk4⟩:∃ k:Nat,R/3%4=(k:Int)/\k<4:=⟨(R/3%4).toNat,by omega,by omega⟩;obtain⟨q,hq,hq8⟩:∃ q:Nat,atI ([.int 1,.int 1,.int 1,.int 8]:#[a]) (k:Int)=#[q,(q:Nat)]/\q<=8:=by
    match k,hk4 with
    | 0,_=>exact#[w,1,by decide]
    | 1,_=>exact#[w,1,by decide]
    | 2,_=>exact#[w,1,by decide]
    | 3,_=>exact#[w,8,by decide]
   have hqm:ts.length*q<=40:=zw6 (Nat.mul_le_mul (show ts.length<=5 by omega) hq8) ⋯;refine⟨_,rfl,sz4,fun l9 f9=>?_⟩;have s9:=Ze (o:=.lst [.int 1,.int 1,.int 1,.int 8]) f9;have q9:=Zd (H:=H8) (a:=l9) (o:=.lst [.int 1,.int 1,.int 1,.int 8]);generalize upd H8 l9 (.lst [.int 1,.int 1,.int 1,.int 8])=H9 at s9 q9 ⊢;refine⟨_,rfl,_,_,rfl,rfl,⟨by decide,by decide⟩,_,_,rfl,rfl,⋯,l9,_,_,_,rfl,rfl,SqL.of q9,(by rw[hk];exact hq),lm',(q:Int),ts,rfl,rfl,s9 _ _ hts,by omega,by omega,szN (by rw[zw2];omega),fun l10 f10=>⟨sz2,fun tt ft=>?_⟩⟩;have s10:=Ze (o:=.lst (List.replicate ((q:Nat):Int).toNat ts).flatten) f10;have q10:=Zd (H:=H9) (a:=l10) (o:=.lst (List.replicate ((q:Nat):Int).toNat ts).flatten);generalize upd H9 l10 (.lst (List.replicate ((q:Nat):Int).toNat ts).flatten)=H10 at s10 q10 ft ⊢;rw[zw2] at q10;have s11:=Ze (o:=.tup [.str "draw up",.ref l10]) ft;have s810:=s9.trans s10;have hml':(List.replicate q ms).flatten.length<=40:=by rw[zco,Nat.mul_comm,<- htl];exact hqm
   refine h tt (.draw (List.replicate q ms).flatten) _ ⟨l10,_,Zd,s11 _ _ q10,((tl.same s810).rep q).same s11,(s8.trans s9).free f10⟩ ⟨fun m hm=>?_,by omega⟩ (fun ms' e=>by cases e;omega) nofun (s8.trans (s810.trans s11)) ((s8.trans s810).free ft);obtain⟨z,hz,hm⟩:=List.mem_flatten.mp hm;rw[List.eq_of_mem_replicate hz] at hm;exact hsm m hm
 dsimp only;refine⟨sz1,fun t1 f1=>⟨sz1,fun t2 f2=>⟨sz1,fun t3 f3=>⟨sz3,fun l7 f7=>?_⟩⟩⟩⟩;have s6:=Ze (o:=.tup [.str "close"]) f1;have q6:=Zd (H:=H5) (a:=t1) (o:=.tup [.str "close"]);generalize upd H5 t1 (.tup [.str "close"])=H6 at s6 q6 f2 f3 f7 ⊢;have s7:=Ze (o:=.tup [.str "close"]) f2;have q7:=Zd (H:=H6) (a:=t2) (o:=.tup [.str "close"]);generalize upd H6 t2 (.tup [.str "close"])=H7 at s7 q7 f3 f7 ⊢;have s8:=Ze (o:=.tup [.str "take back"]) f3;have q8:=Zd (H:=H7) (a:=t3) (o:=.tup [.str "take back"]);generalize upd H7 t3 (.tup [.str "take back"])=H8 at s8 q8 f7 ⊢;have s9:=Ze (o:=.lst [.ref t1,.ref t2,.ref t3]) f7;have q9:=Zd (H:=H8) (a:=l7) (o:=.lst [.ref t1,.ref t2,.ref t3]);generalize upd H8 l7 (.lst [.ref t1,.ref t2,.ref t3])=H9 at s9 q9 ⊢;have s69:=s7.trans (s8.trans s9);have s09:=s05.trans (s6.trans s69);have c9:=of_decide_eq_false hb;obtain⟨k,hk,hk3⟩:∃ k:Nat,cell%12-9=(k:Int)/\k<3:=⟨(cell%12-9).toNat,by omega,by omega⟩;obtain⟨tt,D,htt,hD,hs,hnd,hne,hfr⟩:∃ tt D,atI ([.ref t1,.ref t2,.ref t3]:#[a]) (k:Int)=#[e,tt]/\Xy (fun x=>H x=none) H9 tt D/\Qf D/\(∀ ms,D≠.draw ms)/\(∀ n g c,D≠.enrol n g c)/\H tt=none:=by
  match k,hk3 with
  | 0,_=>exact⟨t1,.close,rfl,s69 _ _ q6,True.intro,nofun,nofun,s05.free f1⟩
  | 1,_=>exact⟨t2,.close,rfl,(s8.trans s9) _ _ q7,True.intro,nofun,nofun,(s05.trans s6).free f2⟩
  | 2,_=>exact⟨t3,.back,rfl,s9 _ _ q8,True.intro,nofun,nofun,(s05.trans (s6.trans s7)).free f3⟩
 refine⟨_,rfl,_,_,rfl,rfl,⋯,_,_,rfl,rfl,l7,_,_,_,rfl,rfl,SqL.of q9,(by rw[hk];exact htt),?_⟩;exact h tt D H9 hD hs (fun ms e=>absurd e (hnd ms)) (fun n g c e=>absurd e (hne n g c)) s09 hfr
theorem zky{EE:XK}{σ:L2.St}{H:Hp}{A:SAd}{S:Sea}{s p:Nat}{A1p l d:Addr}{ds:#[B]}{P0:Pg}{mb:Bool}{ok:Addr->Prop}{nu:#[t]}{n:Nat}{R:Bool->Hp->Prop}(hs:σ[s]?=some #[e,A1p])(hp:σ[p]?=some #[e,l])(SA:Zz (ca a) H A S)(eAp:A.p=A1p)(hl:H l=some #[i,(ds++[d]).map,V.ref])(F:Vf mb ok H nu n ds d P0 S)(hn:n<=500)(k:∀ H',Same H H'->R true H') :
  tB (zcg (Nw K) [] EE (Te (Bx a.znk "deeds" (C4 (ca a)) [] EE (tVar s) tNil) (Te (Ab (Bv K (tSl (zj1 K) (tVar p) (zi4 (tC (V.int 1))) zck)) [] tYes (B3 (tVar 0) (tC (V.str "deed")))) tNil))) σ H R:=by
 obtain⟨⟨dx,vv,ob,_⟩,_⟩:=id SA;rw[eAp] at ob;obtain⟨hbk1,hbk2⟩:=F.bk.deeds;rw[zwp] at hbk1;simp only[zw9,zyw] at hbk1;have hsn:=F.so.num.2;refine⟨_,hs,A1p,dx,_,rfl,ob,Yd ⋯,A,S,(by rw[eAp];rfl),SA,by omega,fun lq tq H1 hlq tlq s1 _=>?_⟩;refine⟨_,hp,_,rfl,l,_,rfl,#[Q,s1,hl],fun lc flc=>?_⟩;rw[ze0];have s2:=s1.trans (Ze (o:=.lst (((ds++[d]).map V.ref).drop 1)) flc);have q2:upd H1 lc #[i,((ds++[d]).map V.ref).drop,1] lc=some #[i,((ds++[d]).map V.ref).drop,1]:=Zd;have t2:=Ze (o:=.lst (((ds++[d]).map V.ref).drop 1)) flc _ _ hlq
 replace tlq:=tlq.same (Ze (o:=.lst (((ds++[d]).map V.ref).drop 1)) flc)
 generalize upd H1 lc (.lst (((ds++[d]).map V.ref).drop 1))=H2 at s2 q2 t2 tlq ⊢;have hdl:(((ds++[d]).map V.ref).drop 1).length=S.std.length:=by
  rw[zyn,zwm,zwp];simp only[zw9,zyw];omega
 refine⟨lc,rfl,⟨_,SqL.of q2⟩,Wf (K:=K) (a:=lc) (xs:=((ds++[d]).map V.ref).drop 1) (fun i ys H'=>H'=H2/\TupL H2 ys (((S.std.map (·.1)).take i).map W3)) ⟨rfl,.nil⟩ (fun i ys H' _ z=>by rw[z.1];exact SqL.of q2) (szN ⋯) (fun i ys H' z=>by rw[z.2.length,zwm];exact zxv _ _) ?_ ?_⟩
 ·rintro i x ys H' hx ⟨rfl,tl⟩;have hi:i<S.std.length:=by rw[<- hdl];exact(zwo.mp hx).1
  obtain⟨e,Pe,xd,e1,e2,e3,e4⟩:=hbk2 i hi;have ex:x=.ref e:=by
   rw[List.getElem?_drop,Nat.add_comm 1 i,zwu,e1] at hx;exact(Option.some.inj hx).symm
  subst ex;obtain⟨lpe,loe,lve,dve,lie,lge,lme,ae1,PBe,_⟩:=(e2.same s2).split;have dd:=PBe.dd;rw[e3] at dd;obtain⟨t,rfl,ht⟩:=dd;unfold tYes;dsimp only;rw[#[f,rfl]];refine⟨_,rfl,e,_,rfl,DGet.k (k:=.inr "deed") ae1,rfl,?_⟩;rw[Xo e4,zwq];exact tl.snoc ht
 rintro ys H' ⟨rfl,tl⟩ lz flz;rw[hdl,show (S.std.map (·.1)).take S.std.length=S.std.map (·.1) from List.take_of_length_le (by rw[zwm];exact zww _)] at tl;refine⟨lq,lz,tq,ys,S.std.map (·.1),rfl,Ze flz _ _ t2,Zd,?_,tl.same (Ze flz),by rw[zwm];omega,true,rfl,k _ (s2.trans (Ze flz))⟩;rw[zyd];exact tlq.same (Ze flz)
abbrev Ug:Stmt:=top 84
theorem X1:#[r,["_law_season","_law_pages","_law_page","_law_at_here","_law_k","_law_row"],["_law_season","_law_pages"],Ug]:=fnS
theorem Mf(F:#[l,"_law_shows_short","_law_shows_short",Ug])(T:#[o])(znw:Z4 P w K mg base "_law_one_is" 2 #[X] Og)(znm:Zw P w K mg base a.znk "at_hand" 2 ["self"] #[h,V1])(zpz:Z4 P w K mg base "_law_facts_are" 5 ["_law_found","_law_page"] (Gx K))(zqh:Zw P w K mg base a.znk "facts" 3 ["self"] #[h,D4])(zp1:Z4 P w K mg base "_law_deeds_are" 4 #[X] (Nw K))(zqe:Zw P w K mg base a.znk "deeds" 1 ["self"] #[h,C4])(zo9:Z4 P w K mg base "_law_shows_people" 4 ["_law_season","_law_page"] (O6 K (ca a)))(zou:Z4 P w K mg base "_law_open" 2 ["_law_page"] (C6 K))(zon:Z4 P w K mg base "_law_list_is" 3 #[X] (Hv K))(zrg:Zw P w K mg base a.znk "may" 3 ["self","place"] #[h,zja])(zox:Zw P w K mg base a.znk "goes" 4 ["self","at"] #[h,zbr])(zop:Z4 P w K mg base "_law_rows_are" 4 #[X] (Lz K))(zpq:Zw P w K mg base a.znk "matches" 4 ["self","at"] #[h,Dy]):FnOk P w K mg base #[k] 6 f fd ["_law_season","_law_pages"] (My K (ca a)):=by
 refine #[p,X1];obtain⟨A',S,l,d,ds,P0,nu,n,rfl,SA,hl,F,hn,h⟩:=h;have hu:=Xu hr;refine⟨_,(Zb (pS 2 X1.nd (pI (iL K) (pv 1) (Td Vd Zg)))
 (Zb (pS 3 X1.nd (Zs Yo (Zm (cL K) (by rfl) T.znu PySem.boot_len (Za (pD hu (pv 2) Zn) Zc)) Zg))
 (Zb (Zy (PW.pt (X3 (Xa (Yx (pF znw hr (Za (Ym (pv 0) T.znl znm (hr.mono ⋯) Zk) (Za (pv 3) Zc))))) (Xt (Xa (Yx (pF zpz hr (Za (Ym (pv 0) T.znl zqh (hr.mono ⋯) Zk) (Za (pv 2) Zc))))))))
  (Zf (Zl Xe))
  Zq)
 (Zb (Zy (Xa (Yx (pF zp1 hr (Za (Ym (pv 0) T.znl zqe (hr.mono ⋯) Zk) (Za (X7 rfl (cT [] []) (Yh (K:=K) rfl (Mi (Mn (K:=K) rfl) (pv 1) (Iq Zg) Ip)) (fun _ _ _ _ _=>X5) (fun _ _ _ _ _=>(pD hu (pv 0) Zn))) Zc)))))
  (Zf (Zl Xe))
  Zq)
 (Zb (Zy (Xa (Yx (pF zo9 hr (Za (pv 0) (Za (pv 2) Zc)))))
  (Zf (Zl Xe))
  Zq)
 (Zb (Zy (Zp Pa (pD hu (pv 2) Zn) Y8 (Zr _))
  (Zf (Zl Xe))
  Zq)
 (Zb (Xc PassesOwn.leaving rfl (zcy (K:=K) rfl rfl T.zqr (Za (pF zou hr (Za (pv 2) Zc)) Zc)) (Xm (K:=K) (n:=2) rfl rfl (Zv (pN 4 X1.nd) (Zv (pN 5 X1.nd) Xl)))
  (Zf (Zy (Xa (Yx (pF zon hr (Za (Y0 (pv 0) T.znl zrg (hr.mono ⋯) Zk (Za (pv 4) Zc)) (Za (pv 5) Zc)))))
   (Zf (Zl Xe))
   Zq)))
 (Zf (Zl (Ln (pF zon hr (Za (Y0 (pv 0) T.znl zox (hr.mono ⋯) Zk (Za (pv 3) Zc)) (Za (pD hu (pv 2) Zn) Zc))) (Hg (pF zop hr (Za (Y0 (pv 0) T.znl zpq (hr.mono ⋯) Zk (Za (pv 3) Zc)) (Za (pD hu (pv 2) Zn) Zc)))))))))))))),?_⟩
 show let y1:TS:=_;let y2:TS:=Z1 _ y1;let y3:TS:=Z1 _ y2;let y4:TS:=Z1 _ y3;let y5:TS:=Z1 _ y4;let y6:TS:=Z1 _ y5;let y7:TS:=Z1 _ y6;Z1 _ y7 _ _ _;intro y1 y2 y3 y4 y5 y6 y7;obtain⟨lp,lo,lv,dv,li,lg,lm,a1,PB,okd⟩:=id F.pg.split;obtain⟨vts,u1,u2,u3⟩:=PB.vv;obtain⟨gg1,gg2⟩:=PB.gg;have hls:=PB.li.some;have hat:atI ((ds++[d]).map V.ref) (-1)=#[b,V.ref,d]:=by rw[zwq];exact L2.atI_last _ _
 have RB:=F.re.b;have so:=F.so;have hlen:=so.len;have hvl:(vts.length:Int)+1=atV S:=by rw[u2.length];exact RB.at so
 have hpl:P0.ppl.length<=100:=by rw[RB.ppl];have:=so.few;omega
 obtain⟨⟨dx,vv,ob,_⟩,_⟩:=id SA;refine⟨_,rfl,_,rfl,l,_,_,_,rfl,rfl,SqL.of hl,hat,?_⟩;walk_at "if";refine⟨_,rfl,d,_,rfl,#[an,a1],lv,vts,rfl,#[C,u1],_,_,rfl,rfl,?_⟩;walk_at "if";rw[hvl];refine Yf ?_;refine⟨_,rfl,A'.p,dx,_,rfl,ob,Yd ⋯,A',S,rfl,SA,_,rfl,.int (atV S),rfl,.inr ⟨_,rfl⟩,true,rfl,iteF ?_⟩;refine⟨_,rfl,A'.p,dx,_,rfl,ob,Yd ⋯,A',S,rfl,SA,by omega,fun lf lfs H5 hlf rlf s5 _ _=>?_⟩;refine⟨_,rfl,(·∉A'.fp),lf,d,lfs,P0,rfl,hlf,F.pg.same s5,RB.ovok so,(by rw[RB.rows,<- so.led];exact rlf),fun H6 s6=>#[w,true,#[P]]⟩;have s06:=s5.trans s6;dsimp only;refine Yf ?_;refine zky rfl rfl (SA.same s06) rfl (s06 _ _ hl) (F.same s06) hn fun H7 s7=>#[P];have s07:=s06.trans s7;dsimp only;refine Yf ?_;refine⟨_,rfl,_,rfl,(·∉A'.fp),false,A',S,d,P0,nu,n,rfl,SA.same s07,F.pg.same s07,RB,so,hn,fun H8 s8=>#[w,true,#[P]]⟩;have s08:=s07.trans s8;dsimp only;clear s5 s6 s7 s8 s06 s07 hlf rlf;refine Yf ?_;refine⟨_,rfl,d,_,rfl,DGet.k (k:=.inr "listed") (s08 _ _ a1),rfl,_,rfl,?_⟩;rw[show #[g,li=V.non]=!P0.lis.isSome by rw[<- hls,Bool.not_not]];cases hc:S.cur with
 | none =>
   have hno:P0.lis.isSome=false:=by rw[RB.lis,hc];rfl
   rw[hno];exact iteT (h H8 s08)
 | some sh =>
   have hyes:P0.lis.isSome=true:=by rw[RB.lis,hc];rfl
   rw[hyes];refine #[P];dsimp only;have hlis:P0.lis=some sh.ms:=by rw[RB.lis,hc];rfl
   obtain⟨ll,ts,eli,t1,t2,t3⟩:∃ l ts,li=.ref l/\H l=#[x,ts]/\#[L,H,sh.ms.map,pV]/\l∉A'.fp:=by have:=PB.li;rw[hlis] at this;exact this
   obtain⟨k1,k2,k3,k4,k5⟩:=so.cur sh hc;have hml:sh.may.length=sh.ms.length:=by rw[k4];unfold mayS;rw[zwm]
   have hgl:sh.gv.length=sh.may.length:=k2.len;have hgv:=F.re.gv sh hc;refine⟨_,rfl,(·∉A'.fp),d,P0,sh.ms,rfl,F.pg.same s08,RB.ovok so,hlis,by omega,hpl,fun lw lls H9 hlw ilw s9 flw _=>?_⟩;rw[RB.may so,<- k4] at ilw;have hlsl:lls.length=sh.may.length:=ilw.length;have s09:=s08.trans s9
   let jv1:Nat->L2.St->Hp->Prop:=fun i σ H'=>(∃ v4 v5,σ=[some (.ref A'.p),some (.ref l),some (.ref d),some (.int (atV S)),v4,v5])/\Same H9 H'
   refine⟨lw,rfl,⟨_,SqL.of hlw⟩,Am (K:=K) (a:=lw) (xs:=lls.map V.ref) jv1 ⟨⟨_,_,rfl⟩,.refl _⟩ (fun i σ H' _ ⟨_,z⟩=>#[Q,z,hlw]) ?_ ?_⟩
   ·rintro i x p σ H10 hx ⟨⟨v4,v5,rfl⟩,s10⟩ hp;rw[zwu] at hx;obtain⟨lr,hlr,rfl⟩:=zyg.mp hx;have s11:=s10.trans (Ze (o:=.tup [.int (i:Nat),.ref lr]) hp);have q11:=Zd (H:=H10) (a:=p) (o:=.tup [.int (i:Nat),.ref lr]);generalize upd H10 p (.tup [.int (i:Nat),.ref lr])=H11 at s11 q11 ⊢;obtain⟨r,hr,hrl⟩:=ilw.getL hlr;have hi:i<sh.ms.length:=by have:=(zwo.mp hr).1;omega
    have s011:=s09.trans s11;have hr100:r.length<=100:=by
     have:=zw0 hr;rw[k4] at this;unfold mayS at this;obtain⟨m',_,rfl⟩:=zwv.mp this;unfold Gh;rw[zwm];exact zw6 (zxw _ _) (by have:=so.few;omega)
    refine⟨p,_,rfl,#[n,q11],rfl,_,_,rfl,_,_,rfl,rfl,?_⟩;walk_at "if";refine⟨_,rfl,A'.p,dx,_,rfl,s011 _ _ ob,Yd ⋯,_,rfl,A',S,(i:Int),rfl,SA.same s011,Z0 ⋯ ⋯,(fun z=>by rw[hc] at z;cases z),fun s hs=>?_⟩;rw[hc] at hs;cases hs;refine⟨hml,fun z=>by omega,fun k r' hk hr' lq H12 hlq s12 _=>?_⟩;have ek:k=i:=by omega
    subst ek;rw[hr] at hr';cases hr';exact⟨_,rfl,lq,lr,_,rfl,hlq,#[Q,s11.trans s12,hrl],fun x hx=>(by obtain⟨y,_,rfl⟩:=zwv.mp hx;exact .inr ⟨_,rfl⟩),by rw[zwm];omega,true,rfl,iteF (Zt ⟨⟨_,_,rfl⟩,s11.trans s12⟩)⟩
   rintro σ H10 ⟨⟨v4,v5,rfl⟩,s10⟩;have s010:=s09.trans s10;dsimp only;refine⟨_,rfl,A'.p,dx,_,rfl,s010 _ _ ob,Yd ⋯,_,rfl,A',S,atV S,rfl,SA.same s010,zb1 so hc fun lq H12 hlq s12 _=>?_⟩;refine⟨_,rfl,d,_,rfl,DGet.k (k:=.inr "goes") (s12 _ _ (s010 _ _ a1)),lq,lg,sh.gv,rfl,hlq,SqL.of (by rw[<- hgv];exact s12 _ _ (s010 _ _ gg1)),k2.one,by omega,true,rfl,iteT ?_⟩;have s012:=s010.trans s12;refine⟨_,rfl,A'.p,dx,_,rfl,s012 _ _ ob,Yd ⋯,_,rfl,A',S,atV S,rfl,SA.same s012,zb1 so hc fun lq2 ts2 H13 hlq2 tl2 s13 _=>?_⟩;have s013:=s012.trans s13;exact⟨_,rfl,d,_,rfl,DGet.k (k:=.inr "listed") (s013 _ _ a1),lq2,ll,ts2,ts,sh.ms.map pV,(by rw[eli];rfl),hlq2,#[Q,s013,t1],tl2,t2.same s013,fun r hr=>(by
    obtain⟨m,_,rfl⟩:=zwv.mp hr;exact⟨(by show 3<=1000;decide),fun x hx=>(by
     simp only[pV,zwr,zxf,or_false] at hx;rcases hx with rfl|rfl|rfl<;>exact .inr ⟨_,rfl⟩)⟩),by rw[zwm];omega,h H13 s013⟩
abbrev Cd:Stmt:=top 93
theorem U1:#[r,["_law_script","_law_mixed","_law_rounds","_law_season","_law_pool_here","_law_pages","_law_k","_law_deed","_law_due_here","_law_told","_law_page"],["_law_script"],Cd]:=fnS
theorem zkz(F:#[l,"law","law",Cd])(T:#[o])(zn3:Z4 P w K mg base "_law_at" 1 ["_law_script","_law_k"] (zd0 K))(zs1:Tt P w K mg base "Season" a.znk 3 ["self","rounds","rest"] #[h,zc6])(zrb:Z4 P w K mg base "_law_rest" 2 ["_law_script"] (A7 K))(zr3:Z4 P w K mg base "_law_pool" 2 ["_law_script","_law_crowd"] (A9 K))(zrp:Z4 P w K mg base "_law_first" 1 ["_law_rounds","_law_rest_here"] zda)(zqi:Z4 P w K mg base "_law_enrolled" 9 ["_law_season","_law_pages","_law_deeds"] (Gu K (ca a)))(zrc:Z4 P w K mg base "_law_people" 2 ["_law_script","_law_pool_here"] (Gs K))(zqm:Z4 P w K mg base "_law_any_deed" 3 ["_law_pages","_law_cell_here","_law_pool_here","_law_mixed"] (Cc K))(zr0:Z4 P w K mg base "_law_cell" 2 ["_law_script","_law_k"] (A8 K))(zsk:Z4 P w K mg base "_law_due" 2 ["_law_pages","_law_deed"] (zdd K))(zr5:Z4 P w K mg base "_law_done" 9 ["_law_season","_law_deed"] (zhe K (ca a)))(zry:Z4 P w K mg base "_law_fits" 4 ["_law_pages","_law_deed","_law_told"] (zaq K))(zpe:Z4 P w K mg base "_law_paged" 3 ["_law_pages","_law_deed"] (C8 K))(zox:Zw P w K mg base a.znk "goes" 4 ["self","at"] #[h,zbr])(zpl:Z4 P w K mg base "_law_is_filling" 2 ["_law_may","_law_given"] (K8 K))(zou:Z4 P w K mg base "_law_open" 2 ["_law_page"] (C6 K))(zo1:Z4 P w K mg base "_law_shows_short" 6 ["_law_season","_law_pages"] (My K (ca a))):FnOk P w K mg base #[k] 10 f fd ["_law_script"] (zcu K):=by
 refine #[p,U1];obtain⟨b,ns,rfl,hS,hlen,h⟩:=h;have hu:=Xu hr;refine⟨_,(Zb (pS 1 U1.nd (Zs Ye (pF zn3 hr (Za (pv 0) (Za Zg Zc))) Zg))
 (Zb (pS 2 U1.nd (Zs Ye (Zs Yt (pF zn3 hr (Za (pv 0) (Za Zg Zc))) Zg) Zg))
 (Zb (pS 3 U1.nd (Cr zs1 (hr.mono ⋯) Zk rfl (Za (pv 2) (Za (pF zrb hr (Za (pv 0) Zc)) Zc))))
 (Zb (pS 4 U1.nd (pF zr3 hr (Za (pv 0) (Za Zg Zc))))
 (Zb (pS 5 U1.nd (Z2 (Za (pF zrp hr (Za (pv 2) (Za (pF zrb hr (Za (pv 0) Zc)) Zc))) Zc)))
 (Zb (Zy (Zp Ui (pv 2) Zg (Zr _))
  (Zf (pS 5 U1.nd (pF zqi hr (Za (pv 3) (Za (pv 5) (Za (pF zrc hr (Za (pv 0) (Za (pv 4) Zc))) Zc))))))
  Zq)
 (Zb (Xc PassesOwn.leaving rfl (Lo rfl T.zog (Za Zg (Za (Zm (E2 rfl) (by rfl) T.zts PyProof.Rows.boot_min (Za Zg (Za (Zm (cL K) (by rfl) T.znu PySem.boot_len (Za (pv 0) Zc)) Zc))) Zc))) (pN 6 U1.nd)
  (Zb (pS 7 U1.nd (pF zqm hr (Za (pv 5) (Za (pF zr0 hr (Za (pv 0) (Za (pv 6) Zc))) (Za (pv 4) (Za (pv 1) Zc))))))
  (Zb (pS 8 U1.nd (pF zsk hr (Za (pv 5) (Za (pv 7) Zc))))
  (Zb (pS 9 U1.nd (pF zr5 hr (Za (pv 3) (Za (pv 7) Zc))))
  (Zb (Zy (PW.pt (Hf (Zp Q9 (pv 8) Zn (Zr _)) (Mg (PW.pt (X3 (Zp Q9 (pI (iU K) (pv 9) Zg) Zn (Zr _)) (Xt (Zp (zia (K:=K) rfl hr.units) (pI (iU K) (pv 9) Zg) (Z2 (Za (pv 8) (Za Zn Zc))) (Zr _))))))))
   (Zf (Zl Xe))
   Zq)
  (Zb (Zy (PW.pt (Hf (Zp Y6 (pv 8) Zn (Zr _)) (Mg (PW.pt (X3 (Zp Q9 (pI (iU K) (pv 9) Zg) Zn (Zr _)) (Xt (Xa (Yx (pF zry hr (Za (pv 5) (Za (pv 7) (Za (pI (iU K) (pv 9) Zg) Zc))))))))))))
   (Zf (Zl Xe))
   Zq)
  (Zb (Zy (Zp Y6 (pv 8) Zn (Zr _))
   (Zb (pS 5 U1.nd (pF zpe hr (Za (pv 5) (Za (pv 7) Zc))))
   (Zb (pS 10 U1.nd (pI (iL K) (pv 5) (Td Vd Zg)))
   (Zf (Zy (PW.pt (Hf (Zp Tg (pD hu (pv 10) Zn) Y8 (Zr _)) (Mg (Zp Q9 (pI (iU K) (pv 7) Zg) Zn (Zr _)))))
    (Zb (Yy hu (pv 10) Zn (Ys (Xf (K:=K) rfl) (by rfl) T.zo0 PyProof.Rows.boot_list (Za (Y0 (pv 3) T.znl zox (hr.mono ⋯) Zk (Za (Zs Yo (Zm (cL K) (by rfl) T.znu PySem.boot_len (Za (pD hu (pv 10) Zn) Zc)) Zg) Zc)) Zc)) rfl)
    (Zf (Zy (Xa (Yx (pF zpl hr (Za (pF zou hr (Za (pv 10) Zc)) (Za (pD hu (pv 10) Zn) Zc)))))
     (Zf (Zl Xe))
     Zq)))
    Zq))))
   Zq)
  (Zf (Zy (Xa (Yx (pF zo1 hr (Za (pv 3) (Za (pv 5) Zc)))))
   (Zf (Zl Xe))
   Zq)))))))))
 (Zf (Zl (pF zo1 hr (Za (pv 3) (Za (pv 5) Zc)))))))))))),?_⟩
 show let y1:TS:=_;let y2:TS:=(Cf _ (Z1 _ y1) _);let y3:TS:=Z1 _ y2;let y4:TS:=_;let y5:TS:=Z1 (Cf _ (Z1 _ y3) _) y4;let y6:TS:=Z1 _ y5;let y7:TS:=Z1 _ y6;let y8:TS:=Z1 _ y7;let y9:TS:=Z1 _ y8;let y10:TS:=_;let y11:TS:=Z1 (zhn _ _ (Z1 _ y9)) y10;let y12:TS:=Z1 _ y11;let y13:TS:=Z1 _ y12;let y14:TS:=Z1 _ y13;let y15:TS:=Z1 _ y14;let y16:TS:=Z1 _ y15;Z1 _ y16 _ _ _;intro y1 y2 y3 y4 y5 y6 y7 y8 y9 y10 y11 y12 y13 y14 y15 y16;refine⟨_,rfl,b,ns,0,rfl,hS,_,_,rfl,rfl,(show (0:Int)<2 by decide),?_⟩;obtain⟨mx,hmx,hmx1⟩:∃ mx:Nat,Wb ns 0%2=(mx:Int)/\mx<=1:=⟨(Wb ns 0%2).toNat,by omega,by omega⟩;walk_at "if";rw[hmx];refine⟨_,rfl,b,ns,1,rfl,hS,_,_,rfl,rfl,⟨by decide,by decide⟩,_,_,rfl,rfl,(show (0:Int)<8 by decide),?_⟩;obtain⟨rr,hrr,hr7⟩:∃ rr:Nat,Wb ns 1/22%8=(rr:Int)/\rr<=7:=⟨(Wb ns 1/22%8).toNat,by omega,by omega⟩;have hr60:rr<=60:=by omega
 walk_at "if";rw[hrr];refine⟨_,rfl,_,rfl,b,ns,rfl,hS,fun rq H2 hrq hq10 s2=>?_⟩;have hS2:=s2.seq hS;intro p0 dx0 hp0 hdx0 ne0;refine⟨p0,dx0,rr,rq,rfl,Zd,Z0 ⋯ ⋯,Z0 ⋯ ⋯,?_⟩;rw[if_neg ⋯,if_neg ⋯];intro A1 H4 hAp SA4 k4 f4;rw[zw2,zw2] at SA4;have s4:Same H2 H4:=fun x o e=>k4 x o (by rw[Zh (Zi e hp0),Zh (Zi e hdx0)];exact e) (Zi e hp0);have ff:∀ x∈A1.fp,H2 x=none:=fun x hx=>by
  by_cases z:x=p0
  ·rw[z];exact hp0
  ·have:=f4 x hx z;rw[Zh z] at this;by_cases w:x=dx0
   ·rw[w];exact hdx0
   ·rw[Zh w] at this;exact this
 have SC4:T1 K A1 H4 b (ns.map V.int):=.make hS2 A1 H4 s4 ff;clear f4 k4;subst hAp;refine⟨rfl,?_⟩;walk_at "if";refine⟨_,rfl,b,ns,7,rfl,SC4.sq,by decide,by decide,fun t lc ln cs nu H6 PL hnu s6 ft flc fln=>?_⟩;have SA6:=SA4.same s6;have SC6:=SC4.fr (.of s6);have no5:=SA4.newOk;have PO6:O5 A1 H6 t lc ln cs nu:=⟨PL,no5 _ ft,no5 _ flc,no5 _ fln⟩;walk_at "if";refine⟨_,rfl,_,rfl,b,ns,rfl,SC6.sq,fun rq' H8 hrq' _ s8=>?_⟩;cases (hrq'.trans hrq.symm);refine⟨rr,rq,rfl,fun d9 H9 pg9 s9 fd9=>⟨(by show 1<=sizeLine;rw[sizeLine_eq];decide),fun l10 fl10=>?_⟩⟩;have SC9:=((SC6.fr (.of s8)).fr (.of s9));have SA9:=(SA6.same s8).same s9;have PO9:=(PO6.fr (.of s8)).fr (.of s9);have no8:=(SA6.same s8).newOk;have F9:=zb0 (mb:=false) (nu:=nu) (n:=0) (pg9.imp (ok':=(·∉A1.fp)) fun x _ hx=>no8 x hx) hr60 hq10;have s10:=Ze (o:=.lst [.ref d9]) fl10;have q10:=Zd (H:=H9) (a:=l10) (o:=.lst [.ref d9]);have o10:=SA9.newOk _ fl10;walk_at "if";generalize upd H9 l10 (.lst [.ref d9])=H10 at s10 q10 ⊢;have SA10:=SA9.same s10;have SC10:=SC9.fr (.of s10);have PO10:=PO9.fr (.of s10);have F10:=F9.same s10;show Z1 _ _ _ [#[e,b],#[q,mx],#[q,rr],#[e,A1.p],#[e,t],#[e,l10],none,none,none,none,none] H10;clear SA9 SC9 PO9 F9 SA6 SC6 PO6 PL SC4 SA4 no5 no8 pg9 hS hS2;have nfew:=PO10.at_.nfew;have go:∀ {A2:SAd} {l2:Addr} {ds2:List Addr} {d2:Addr} {P2:Pg} {S2:Sea} {H12:Hp},Zz (ca a) H12 A2 S2->H12 l2=some #[i,(ds2++[d2]).map,V.ref]->l2∉A2.fp->Vf false (·∉A2.fp) H12 nu 30 ds2 d2 P2 S2->T1 K A2 H12 b (ns.map V.int)->O5 A2 H12 t lc ln cs nu->A2.p=A1.p->y11 { nx:=fun x H'=>Q V.non H',rt:=Q } [#[e,b],#[q,mx],#[q,rr],#[e,A1.p],#[e,t],#[e,l2],none,none,none,none,none] H12:=by
  clear SA10 SC10 PO10 F10 q10 o10;intro A2 l2 ds2 d2 P2 S2 H12 SA12 hl12 ho12 F12 SC12 PO12 hAp;refine⟨_,rfl,b,_,rfl,.inl SC12.sq,?_⟩;rw[zwm];refine⟨_,_,rfl,6,_,rfl,⟨by omega,by omega,by split<;>omega,by split<;>omega⟩,?_⟩;obtain⟨N0,hN0,hN1⟩:∃ N0:Nat,((if (ns.length:Int)<63 then (ns.length:Int) else 63)-6).toNat=N0/\∀ i:Nat,i<N0->6+i<ns.length:=#[w,_,fun i hi=>by split at hi<;>omega];have hN57:N0<=57:=by rw[<- hN0];split<;>omega
  rw[hN0]
  let jv1:Nat->L2.St->Hp->Prop:=fun i σ H'=>∃ A2 l2 ds2 d2 P2 S2 v6 v7 v8 v9 v10,σ=[#[e,b],#[q,mx],#[q,rr],#[e,A1.p],#[e,t],#[e,l2],v6,v7,v8,v9,v10]/\Zz (ca a) H' A2 S2/\H' l2=some #[i,(ds2++[d2]).map,V.ref]/\l2∉A2.fp/\Vf false (·∉A2.fp) H' nu (30+i) ds2 d2 P2 S2/\T1 K A2 H' b (ns.map V.int)/\O5 A2 H' t lc ln cs nu/\A2.p=A1.p
  refine Xs jv1
   ⟨A2,l2,ds2,d2,P2,S2,_,_,_,_,_,rfl,SA12,hl12,ho12,F12,SC12,PO12,hAp⟩ ?_ ?_
  ·clear SA12 hl12 ho12 F12 SC12 PO12 hAp;rintro i σ H1 hi ⟨A2,l2,ds2,d2,P2,S2,v6,v7,v8,v9,v10,rfl,SA,hl2,ho2,F,SC,PO,eAp⟩;have hki:=hN1 i hi;have e6:(6:Int)+(i:Int)=((6+i:Nat):Int):=by omega
   rw[e6];walk_at "if";have so:=F.so;have hlen60:=so.len;have hst:=so.num;have hatl:atI ((ds2++[d2]).map V.ref) (-1)=#[b,V.ref,d2]:=by rw[zwq];exact L2.atI_last _ _
   have hpp:P2.ppl.length<=100:=by rw[F.re.b.ppl];have:=so.few;omega
   have hov:P2.over.length<=1000:=by have h1:=F.re.b.olen;have h2:=so.olen;omega
   have hsub:∀ n∈P2.ppl.map (·.1),n∈nu:=fun n hn=>by
    rw[F.re.b.ppl] at hn;obtain⟨y,hy,rfl⟩:=zwv.mp hn;exact(so.ppl y hy).1
   refine⟨_,rfl,_,rfl,_,rfl,b,ns,6+i,rfl,SC.sq,hki,fun cell H2 s2=>⟨_,rfl,_,rfl,(·∉A2.fp),l2,t,lc,ln,ds2,d2,P2,cell,cs,nu,mx,rfl,s2 _ _ hl2,F.pg.same s2,PO.at_.same s2,hmx1,hpp,hov,by omega,hsub,fun t' D H4 hD sd hdm hen s4 ft'=>?_⟩⟩;have s04:=s2.trans s4;have hD4:=ziu (SA.same s2) hD;walk_at "if";refine⟨_,rfl,_,rfl,(·∉A2.fp),false,l2,t',ds2,d2,P2,S2,D,nu,30+i,rfl,s04 _ _ hl2,F.pg.same s04,hD4,sd,hdm,F.re.b,so,F.len,by omega,by omega,fun H5 s5=>?_⟩;have s05:=s04.trans s5;have SA5:=SA.same s05;have F5:=F.same s05;have hD5:=hD4.same s5;have SC5:=SC.fr (.of s05);have PO5:=PO.fr (.of s05);have hl5:=s05 _ _ hl2;have htot:=so.tot;have hol:=so.olen;clear SA F SC PO hD hD4;walk_at "if";refine⟨_,rfl,_,rfl,A2,S2,t',D,(by rw[<- eAp];rfl),SA5,hD5,sd,so.cur,so.pok,by omega,by omega,by omega,by omega,by omega,fun _ z=>F5.step z,fun r hr u lr H6 hu hlr s6 fu=>?_,fun hno u v A3 S3 H6 hu af SA6 nx fr ou=>?_⟩
   ·rw[Kg hr];have hfn:#[g,V.str r.name=V.str ""]=false:=Wn (zix r);walk_at "if";refine Yf ?_;refine⟨_,rfl,rfl,_,rfl,?_⟩;rw[hfn];refine iteT ?_;refine⟨_,rfl,u,_,_,_,rfl,rfl,#[n,hu],rfl,rfl,_,rfl,?_⟩;rw[Ov];refine iteF ?_;refine⟨_,rfl,u,_,_,_,rfl,rfl,#[n,hu],rfl,_,rfl,sz2,fun l7 f7=>?_⟩;refine⟨#[i,[r.name,"ValueError"].map,Dt.str],#[i,[r.name,"ValueError"].map,Dt.str],.lst (SqL.of (Ze f7 _ _ hlr)) (Qe [r.name,"ValueError"]),.lst (SqL.of Zd) (Qe [r.name,"ValueError"]),C7 _ (zdc r),C7 _ (zdc r),false,?_,#[P]⟩
    ·rw[#[f,rfl],Ac];rfl
    have s7:=s6.trans (Ze (o:=.lst [.str r.name,.str "ValueError"]) f7);generalize upd H6 l7 (.lst [.str r.name,.str "ValueError"])=H7 at s7 ⊢;dsimp only;refine Yf ?_;refine⟨_,rfl,rfl,_,rfl,?_⟩;rw[hfn];refine iteF (iteF (Zt ?_));dsimp only;refine Yf ?_;refine⟨_,rfl,rfl,_,rfl,?_⟩;rw[hfn];refine #[P];dsimp only;exact⟨_,rfl,_,rfl,A2,S2,l2,d2,ds2,P2,nu,30+(i+1),(by rw[eAp];rfl),SA5.same s7,s7 _ _ hl5,(F5.same s7).mono ⋯,by omega,fun H8 s8=>#[w,true,iteF (Zt ⟨A2,l2,ds2,d2,P2,S2,_,_,_,_,_,rfl,(SA5.same s7).same s8,s8 _ _ (s7 _ _ hl5),ho2,((F5.same s7).same s8).mono ⋯,(SC5.fr (.of s7)).fr (.of s8),(PO5.fr (.of s7)).fr (.of s8),eAp⟩)]⟩
   ·have g:Pn S2 D:=(zex hno fun ms e m hm=>by subst e;exact sd.1 m hm).1;have hkn:∀ k gr c,D=.enrol k gr c->k∈nu:=fun k gr c e=>by
     rcases hen k gr c e with z|z
     ·exact z
     ·rw[e] at g;exact absurd z g.2.2.1
    have f6:=FrN.next SA5 nx fr;have hD6:=hD5.fr f6;obtain⟨rw6,hw6⟩:=hD6.word;have hw0:atI (V.str (Vy D) :: rw6) 0=some (V.str (Vy D)):=Z7 (j:=0) rfl;rw[ze1 hno];walk_at "if";refine Yf ?_;refine⟨_,rfl,rfl,_,rfl,?_⟩;rw[Ov];refine iteF (iteF (Zt ?_));dsimp only;refine Yf ?_;refine⟨_,rfl,rfl,_,rfl,?_⟩;rw[Ov];refine iteT ?_;refine⟨_,rfl,u,_,_,_,rfl,rfl,#[n,hu],rfl,rfl,_,rfl,?_⟩;rw[Ov];refine iteF ?_;refine⟨_,rfl,_,rfl,_,rfl,u,_,_,_,rfl,rfl,#[n,hu],rfl,(·∉A3.fp),l2,t',ds2,d2,P2,S2,S3,D,v,rfl,(f6.k _ _ hl5 ho2).1,F5.pg.fr f6,hD6,F5.re.b.at so,af,fun _ dd s0 std e=>F5.last e,fun H7 s7=>#[w,true,#[P]]⟩
    dsimp only;have f7:=f6.trans (.of s7);obtain⟨c1,c2,c3,c4,c5⟩:=F5.pre2 g ⋯;refine Yf ?_;refine⟨_,rfl,rfl,_,rfl,?_⟩;rw[Ov];refine iteT (Yf ?_);refine⟨_,rfl,_,rfl,(·∉A3.fp),l2,t',ds2,d2,P2,D,rfl,(f7.k _ _ hl5 ho2).1,F5.pg.fr f7,hD5.fr f7,c1,c2,c3,c4,c5,fun l8 d8 H8 hl8 pg8 s8 fl8 fd8=>?_⟩;obtain⟨ds7,d7,P7,ek,Pe,eP,eR⟩:=turn F5 SA5 (af.same s7) (SA6.same s7) nx (fun x o e n=>s7 _ _ (fr x o e n)) g hkn pg8 s8 fd8;have SA8:=(SA6.same s7).same s8;have o8:=(SA6.same s7).newOk _ fl8;have f8:=f7.trans (.of s8);have SC8:=SC5.fr f8;have PO8:=PO5.fr f8;have eAp8:=f6.p.trans eAp;rw[ek] at hl8;have hw8:=s8 _ _ (s7 _ _ hw6);have eN:30+i+1=30+(i+1):=by omega
    rw[eN] at Pe;clear SA5 F5 SC5 PO5 hD5 hD6 SA6 pg8;have hat7:atI ((ds7++[d7]).map V.ref) (-1)=#[b,V.ref,d7]:=by rw[zwq];exact L2.atI_last _ _
    walk_at "if";refine⟨_,rfl,_,rfl,l8,_,_,_,rfl,rfl,SqL.of hl8,hat7,?_⟩;walk_at "if";obtain⟨lp7,lo7,lv7,dv7,li7,lg7,lm7,y1',y2',y3'⟩:=id Pe.pg.split;have hls:=y2'.li.some;have fin:∀ {Hz:Hp} {Pz:Pg} {v10':Option V},Zz (ca a) Hz A3 S3->Vf false (·∉A3.fp) Hz nu (30+(i+1)) ds7 d7 Pz S3->Hz l8=some #[i,(ds7++[d7]).map,V.ref]->T1 K A3 Hz b (ns.map V.int)->O5 A3 Hz t lc ln cs nu->y4 { nx:=jv1 (i+1),rt:=Q,bk:=y10 { nx:=fun x H'=>Q V.non H',rt:=Q },ct:=jv1 (i+1) } [#[e,b],#[q,mx],#[q,rr],#[e,A1.p],#[e,t],#[e,l8],#[q,(6+i:Nat)],#[e,t'],#[b,.str,""],#[e,u],v10'] Hz:=fun {Hz Pz v10'} x1 x2 x3 x4 x5=>⟨_,rfl,_,rfl,A3,S3,l8,d7,ds7,Pz,nu,30+(i+1),(by rw[eAp8];rfl),x1,x3,x2,by omega,fun H9 s9=>#[w,true,iteF (Zt ⟨A3,l8,ds7,d7,Pz,S3,_,_,_,_,_,rfl,x1.same s9,s9 _ _ x3,o8,x2.same s9,x4.fr (.of s9),x5.fr (.of s9),eAp8⟩)]⟩
    cases hc:S3.cur with
    | none =>
      have hno7:P7.lis.isSome=false:=by rw[Pe.rb.lis,hc];rfl
      refine⟨_,rfl,d7,_,rfl,DGet.k (k:=.inr "listed") y1',rfl,_,rfl,?_⟩;rw[hls,hno7];refine iteF (iteF (Zt ?_));exact fin SA8 (Pe.full (fun s hs=>by rw[hc] at hs;cases hs) (fun z=>nomatch z)) hl8 SC8 PO8
    | some sh =>
      have hyes:P7.lis.isSome=true:=by rw[Pe.rb.lis,hc];rfl
      refine⟨_,rfl,d7,_,rfl,DGet.k (k:=.inr "listed") y1',rfl,_,rfl,?_⟩;rw[hls,hyes];refine iteT ?_;refine⟨_,rfl,t',_,_,_,rfl,rfl,#[n,hw8],hw0,rfl,_,rfl,?_⟩;by_cases hb:D=.back
      ·have e1:#[g,V.str (Vy D)=V.str "take back"]=true:=by rw[hb];exact Ov
       rw[e1];refine #[P];exact fin SA8 (Pe.full (eR (.inl hb)).1 (fun z=>nomatch z)) hl8 SC8 PO8
      rw[Be hb];obtain⟨k1,k2,k3,k4,k5⟩:=Pe.so.cur sh hc;have hml:sh.may.length=sh.ms.length:=by rw[k4];unfold mayS;rw[zwm]
      have hgl:sh.gv.length=sh.may.length:=k2.len;obtain⟨vts7,z1,z2,z3⟩:=y2'.vv;have hvl7:(vts7.length:Int)+1=atV S3:=by rw[z2.length];exact Pe.rb.at Pe.so
      have hpl7:P7.ppl.length<=100:=by rw[Pe.rb.ppl];have:=Pe.so.few;omega
      have hms:P7.lis=some sh.ms:=by rw[Pe.rb.lis,hc];rfl
      obtain⟨⟨dx7,vv7,ob7,_⟩,_⟩:=id SA8;rw[eAp8] at ob7;refine iteT (Yf ?_);refine⟨_,rfl,A1.p,dx7,_,rfl,ob7,Yd ⋯,_,rfl,d7,_,rfl,#[an,y1'],lv7,vts7,rfl,#[C,z1],_,_,rfl,rfl,A3,S3,atV S3,(by rw[eAp8,hvl7];rfl),SA8,zb1 Pe.so hc fun lf H9 hlf s9 flf=>⟨lf,_,rfl,#[C,hlf],fun lg' flg=>?_⟩⟩;have s10:=s9.trans (Ze (o:=.lst sh.gv) flg);have q10:=Zd (H:=H9) (a:=lg') (o:=.lst sh.gv);have o10:=(SA8.same s9).newOk _ flg;generalize upd H9 lg' (.lst sh.gv)=H10 at s10 q10 ⊢;obtain⟨kvs,b1,b2,F11⟩:=(Pe.same s10).goes q10 o10 (fun s hs=>by rw[hc] at hs;cases hs;rfl) (fun z=>nomatch z);refine⟨_,rfl,d7,_,rfl,DPut.k (k:=.inr "goes") b1 b2,?_⟩;have SA11:=(SA8.same s10).dictW (kvs':=putK kvs (.inr "goes") (.ref lg')) b1 y3';have l11:=(Xz.dict b1 (kvs':=putK kvs (.inr "goes") (.ref lg'))).1 _ _ (s10 _ _ hl8);have SC11:=(SC8.fr (.of s10)).dictW (kvs':=putK kvs (.inr "goes") (.ref lg')) b1;have PO11:=(PO8.fr (.of s10)).dictW (kvs':=putK kvs (.inr "goes") (.ref lg')) b1;generalize upd H10 d7 (.dK (putK kvs (.inr "goes") (.ref lg')))=H11 at F11 SA11 l11 SC11 PO11 ⊢;dsimp only;refine⟨_,rfl,(·∉A3.fp),d7,_,sh.ms,rfl,F11.pg,F11.re.b.ovok Pe.so,hms,by omega,hpl7,fun lw ls H12 hlw ilw s12 flw _=>?_⟩;rw[F11.re.b.may Pe.so,<- k4] at ilw;obtain⟨_,_,_,_,_,_,_,w1,w2,_⟩:=(F11.same s12).pg.split;refine⟨_,rfl,d7,_,rfl,DGet.k (k:=.inr "goes") w1,lw,_,ls,sh.may,sh.gv,rfl,hlw,ilw,by omega,w2.gg.1,k2,fun H13 s13=>#[w,true,#[P]]⟩;have s113:=s12.trans s13;exact fin (SA11.same s113) (F11.same s113) (s113 _ _ l11) (SC11.fr (.of s113)) (PO11.fr (.of s113))
  ·rintro σ H1 ⟨A2,l2,ds2,d2,P2,S2,v6,v7,v8,v9,v10,rfl,SA,hl2,ho2,F,SC,PO,eAp⟩;dsimp only;exact⟨_,rfl,_,rfl,A2,S2,l2,d2,ds2,P2,nu,_,(by rw[eAp];rfl),SA,hl2,F,by omega,fun H' _=>h H'⟩
 refine Yf (Y1 (b:=decide ((0:Int)<(rr:Int))) (fun Q q=>⟨_,rfl,_,_,rfl,rfl,_,rfl,q⟩) #[ao])
 ·have hr1:1<=rr:=by have:=of_decide_eq_true hb;omega
  refine⟨_,rfl,_,rfl,_,rfl,_,rfl,b,t,lc,ln,ns,cs,nu,rfl,SC10.sq,PO10.at_,fun le ts es H11 hle tl en el eok s11 fle=>?_⟩;have SA11:=SA10.same s11;have nd11:(es.map (·.1)).Nodup:=by rw[en];exact PO10.at_.nnd.sublist (List.take_sublist _ _)
  refine⟨false,A1,l10,le,ts,es,[],d9,_,_,nu,0,rfl,SA11,s11 _ _ q10,o10,F10.same s11,hle,SA10.newOk _ fle,tl,nd11,fun x hx=>?_,(by show 0+es.length<=30;omega),by omega,rfl,(by show 0<rr;omega),fun A2 l2 ds2 d2 P2 S2 H12 SA12 hl12 ho12 F12 f12 hc12 he12 hn12=>?_⟩
  ·obtain⟨x1,x2,x3⟩:=eok x hx;have hxn:x.1∈nu:=by
    have:x.1∈es.map (·.1):=zwv.mpr ⟨x,hx,rfl⟩;rw[en] at this;exact List.mem_of_mem_take this
   refine⟨hxn,?_,nofun⟩;have:=PO10.at_.nrng _ hxn;have:=PO10.at_.crng _ x3;unfold badI;omega
  have SC12:=(SC10.fr (.of s11)).fr f12;have PO12:=(PO10.fr (.of s11)).fr f12;have hAp:=f12.p;exact go SA12 hl12 ho12 (F12.mono ⋯) SC12 PO12 hAp
 ·exact go (ds2:=[]) (d2:=d9) SA10 q10 o10 (F10.mono ⋯) SC10 PO10 rfl
end
end K38
namespace K38
open PySem PySem.Spec PyProof.Rows L2 G PySem.W
theorem zk0{l:OpenLaw}{w:World}{K:Frag}{h:Heap}{mg:#[U]}{fa zov zn6 zoj zn5 zn7 zn8 zpd zol zod zo2 zos zom zpu zpc zn1 zoi zno znq znp znk f100:Addr}{tk0 tk1 tk2 tk3 tk4 tk5 tk6 tk7:Tok}{u100 n100:Option Addr}{z100:Array (Option Value)}{o100 v100 d100 m100 c100 t100:Value}(X:K.In h)(G:h.Ns mainGlobals mg)(hfa:mg "law"=#[b,.ref,fa])
  (zsn:NsB K "BookError" zov)
  (zrh:NsB K "OutOfRange" zn6)
  (zqd:NsB K "KnownReferee" zoj)
  (zpi:NsB K "TooManyReferees" zn5)
  (zpj:NsB K "UnknownReferee" zn7)
  (zps:NsB K "TooManyMatches" zn8)
  (zrz:NsB K "SameClub" zpd)
  (zqz:NsB K "NoSuchMatch" zol)
  (zq0:NsB K "NoSuchRound" zod)
  (zrk:NsB K "RoundOver" zo2)
  (zrf:NsB K "SeasonOver" zos)
  (zq3:NsB K "AwayAlready" zom)
  (zsf:NsB K "DrawnUp" zpu)
  (zr2:NsB K "NotDrawn" zpc)
  (zo5:NsB K "NothingToTakeBack" zn1)
  (zqg:NsB K "TooManyDeeds" zoi)
  (zs2:NsB K "Ledger" zno)
  (zsv:NsB K "Roster" znq)
  (ztl:NsB K "Sheet" znp)
  (zs6:NsB K "Season" znk)
  (zte:zhj K zno)
  (zpt:#[am,K,zno,"rounds"])
  (zpr:#[am,K,zno,"meetings"])
  (ztf:zhj K znq)
  (zow:#[am,K,znq,"entries"])
  (ztq:zhj K znp)
  (zpv:#[am,K,znp,"listed"])
  (zss:#[am,K,znp,"lists"])
  (zqs:#[am,K,znp,"given"])
  (zsi:#[am,K,znp,"gaps"])
  (ztg:zhj K znk)
  (zrm:#[am,K,znk,"length"])
  (ztn:#[am,K,znk,"rest"])
  (zor:#[am,K,znk,"roster"])
  (zo7:#[am,K,znk,"ledger"])
  (zpx:#[am,K,znk,"absent"])
  (zrq:#[am,K,znk,"sheets"])
  (zoh:#[am,K,znk,"sheet"])
  (zot:#[am,K,znk,"standing"])
  (zrw:XcB K zod)
  (zsb:XcB K zn6)
  (zq7:XcB K zn8)
  (zst:XcB K zpd)
  (zrl:XcB K zoj)
  (zqq:XcB K zn5)
  (zq5:XcB K zn7)
  (zru:XcB K zol)
  (zr7:XcB K zos)
  (ztd:XcB K zpu)
  (zrr:XcB K zoi)
  (zsz:XcB K zpc)
  (zsp:XcB K zo2)
  (zrv:XcB K zom)
  (zp3:XcB K zn1)
  (zsw:NzB K "max")
  (znu:NzB K "len")
  (zse:NzB K "tuple")
  (zo0:NzB K "list")
  (zqr:NzB K "enumerate")
  (zog:NzB K "range")
  (zt3:NzB K "zip")
  (znn:NzB K "isinstance")
  (zso:NzB K "int")
  (zth:NzB K "bool")
  (zt2:NzB K "str")
  (ztx:NzB K "dict")
  (zts:NzB K "min")
  (zq9:NzB K "ValueError")
  (zt1:NzB K "any")
  (zto:typeIn K (.ref zov)=#[b,.type,"type"])
  (zr8:mroIn K zov (.type "BaseException")=some true)
  (rk:zm6 K (CA.mk znk znp znq zno zn6 zoj zn5 zn7 zn8 zpd zol zod zo2 zos zom zpu zpc zn1 zoi) zov fun r=>r≠.noMatch)
  (gt:specialIn K (.builtin "object.__class__") "__get__"=some #[b,.builtin,"getset_descriptor.__get__"])
  (tk:takesIn K (.builtin "object.__class__")=some true)
  (zqw:nsIn K mainGlobals "MOST_NUMBER"=#[b,some,.int 999 tk0])
  (zp6:nsIn K mainGlobals "MOST_GRADE"=#[b,some,.int 9 tk1])
  (zpw:nsIn K mainGlobals "MOST_CLUB"=#[b,some,.int 99 tk2])
  (zo8:nsIn K mainGlobals "MOST_REFEREES"=#[b,some,.int 30 tk3])
  (zph:nsIn K mainGlobals "MOST_MATCHES"=#[b,some,.int 20 tk4])
  (zqy:nsIn K mainGlobals "MOST_ROUNDS"=#[b,some,.int 60 tk5])
  (zri:nsIn K mainGlobals "MOST_REST"=#[b,some,.int 10 tk6])
  (zp5:nsIn K mainGlobals "MOST_DEEDS"=#[b,some,.int 100 tk7])
  (l0:LNe K "met_lately" Qg)
  (l1:LNe K "reasons" Kh)
  (l2:LNe K "takers" G6)
  (l3:LMe K zno "__init__" "Ledger.__init__" V4)
  (l4:LMe K zno "write" "Ledger.write" T2)
  (l5:LMe K zno "over" "Ledger.over" S8)
  (l6:LMe K zno "facts" "Ledger.facts" T3)
  (l7:LMe K zno "met" "Ledger.met" Qh)
  (l8:LNe K "check_range" S9)
  (l9:LNe K "check_count" Ra)
  (l10:LNe K "check_ranges" T4)
  (l11:LNe K "check_clubs" Rb)
  (l12:LNe K "checked" Ki)
  (l13:LMe K znq "__init__" "Roster.__init__" V6)
  (l14:LMe K znq "check_new" "Roster.check_new" Vr)
  (l15:LMe K znq "check_known" "Roster.check_known" W6)
  (l16:LMe K znq "add" "Roster.add" Qi)
  (l17:LMe K znq "strike" "Roster.strike" U6)
  (l18:LMe K znq "numbers" "Roster.numbers" Us)
  (l19:LMe K znq "entry" "Roster.entry" T5)
  (l20:LMe K znq "person" "Roster.person" U7)
  (l21:LNe K "places_taken" T6)
  (l22:LNe K "steps_into" Qj)
  (l23:LNe K "free_referee" T7)
  (l24:LNe K "traced" G7)
  (l25:LNe K "chain" Bg)
  (l26:LNe K "stepped" Kn)
  (l27:LNe K "fill" zb7)
  (l28:LNe K "place_of" N3)
  (l29:LMe K znp "__init__" "Sheet.__init__" Ut)
  (l30:LMe K znp "barred" "Sheet.barred" T8)
  (l31:LMe K znp "fallen_out" "Sheet.fallen_out" Vs)
  (l32:LMe K znp "matches" "Sheet.matches" U8)
  (l33:LMe K znp "may" "Sheet.may" Pu)
  (l34:LMe K znp "check_place" "Sheet.check_place" Vg)
  (l35:LMe K znp "goes" "Sheet.goes" Ql)
  (l36:LMe K znp "where" "Sheet.where" Rc)
  (l37:LMe K znp "chains" "Sheet.chains" T9)
  (l38:LMe K znp "rows" "Sheet.rows" Qm)
  (l39:LNe K "drawn_sheet" Rf)
  (l40:LMe K znk "__init__" "Season.__init__" V7)
  (l41:LMe K znk "check_not_over" "Season.check_not_over" Wh)
  (l42:LMe K znk "check_undrawn" "Season.check_undrawn" Wo)
  (l43:LMe K znk "check_round" "Season.check_round" W7)
  (l44:LMe K znk "check_room" "Season.check_room" Vh)
  (l45:LMe K znk "note" "Season.note" Ri)
  (l46:LMe K znk "sheet_at_hand" "Season.sheet_at_hand" Wq)
  (l47:LMe K znk "sheet_of" "Season.sheet_of" V8)
  (l48:LMe K znk "takers_of" "Season.takers_of" Vt)
  (l49:LMe K znk "enrol" "Season.enrol" Sa)
  (l50:LMe K znk "draw_up" "Season.draw_up" Uu)
  (l51:LMe K znk "away" "Season.away" Rj)
  (l52:LMe K znk "step_in" "Season.step_in" Uv)
  (l53:LMe K znk "close" "Season.close" Sb)
  (l54:LMe K znk "take_back" "Season.take_back" Vu)
  (l55:LMe K znk "at_hand" "Season.at_hand" Uw)
  (l56:LMe K znk "deeds" "Season.deeds" Sd)
  (l57:LMe K znk "referees" "Season.referees" Ua)
  (l58:LMe K znk "referee" "Season.referee" Ux)
  (l59:LMe K znk "is_away" "Season.is_away" Uy)
  (l60:LMe K znk "matches" "Season.matches" Uz)
  (l61:LMe K znk "goes" "Season.goes" Rk)
  (l62:LMe K znk "may" "Season.may" Qn)
  (l63:LMe K znk "facts" "Season.facts" Se)
  (l64:LNe K "_law_whole" P5)
  (l65:LNe K "_law_at" Fj)
  (l66:LNe K "_law_mix" Kq)
  (l67:LNe K "_law_numbers" Yq)
  (l68:LNe K "_law_clubs" Xk)
  (l69:LNe K "_law_one_is" Qp)
  (l70:LNe K "_law_list_is" Rl)
  (l71:LNe K "_law_tuple_is" Sf)
  (l72:LNe K "_law_rows_are" Sg)
  (l73:LNe K "_law_is_filling" U0)
  (l74:LNe K "_law_deed_is" Rm)
  (l75:LNe K "_law_deeds_are" U9)
  (l76:LNe K "_law_truth_is" Sh)
  (l77:LNe K "_law_first" Oa)
  (l78:LNe K "_law_met" Ku)
  (l79:LNe K "_law_bars" Ma)
  (l80:LNe K "_law_open" Mb)
  (l81:LNe K "_law_paged" Ob)
  (l82:LNe K "_law_matches" Yl)
  (l83:LNe K "_law_do" Ft)
  (l84:LNe K "_law_pool" X0)
  (l85:LNe K "_law_people" Yi)
  (l86:LNe K "_law_enrolled" Si)
  (l87:LNe K "_law_rest" Wr)
  (l88:LNe K "_law_cell" Mc)
  (l89:LNe K "_law_shows_people" Vw)
  (l90:LNe K "_law_facts_are" Tb)
  (l91:LNe K "_law_shows_short" Ug)
  (l92:LNe K "_law_done" Md)
  (l93:LNe K "_law_due_enrol" Tc)
  (l94:LNe K "_law_due_away" Sj)
  (l95:LNe K "_law_due_draw" Sk)
  (l96:LNe K "_law_due" Kz)
  (l97:LNe K "_law_fits" Me)
  (l98:LNe K "_law_spoiled" Rn)
  (l99:LNe K "_law_any_deed" Sl)
  (zt4:LN K "law" "law" Cd f100 o100 v100 d100 m100 c100 t100 u100 n100 z100)
  : ∃ fd:FuncData,(∀ (s:Shared) (v:Value),BindsTo s fd ⟨[v],[]⟩ [("_law_script",v)])/\∀ base:Heap,K.In base->base.Ns mainGlobals mg->FnOk l.prog w K mg base (CX1 l.prog w) 10 fa fd ["_law_script"] (zcu K):=by
 have e:=hfa.symm.trans (mg_of X G zt4.b);cases e
 let a:Ad:=⟨zov,zn6,zoj,zn5,zn7,zn8,zpd,zol,zod,zo2,zos,zom,zpu,zpc,zn1,zoi,zno,znq,znp,znk⟩
 obtain⟨pg_Ledger,hd_Ledger,po_Ledger,sa_Ledger,_,_⟩:=id zte;obtain⟨pg_Roster,hd_Roster,po_Roster,sa_Roster,_,_⟩:=id ztf;obtain⟨pg_Sheet,hd_Sheet,po_Sheet,sa_Sheet,_,_⟩:=id ztq;obtain⟨pg_Season,hd_Season,po_Season,sa_Season,_,_⟩:=id ztg;obtain⟨ga,gk,at_,mx,mo,mB,kit,kitV⟩:=rk;have T:#[o]:=⟨⟨pg_Ledger,hd_Ledger,po_Ledger,sa_Ledger⟩,
  zpt,
  zpr,
  ⟨pg_Roster,hd_Roster,po_Roster,sa_Roster⟩,
  zow,
  ⟨pg_Sheet,hd_Sheet,po_Sheet,sa_Sheet⟩,
  zpv,
  zss,
  zqs,
  zsi,
  ⟨pg_Season,hd_Season,po_Season,sa_Season⟩,
  zrm,
  ztn,
  zor,
  zo7,
  zpx,
  zrq,
  zoh,
  zot,
  ⟨mg_of X G zq0,zrw⟩,
  ⟨mg_of X G zrh,zsb⟩,
  ⟨mg_of X G zps,zq7⟩,
  ⟨mg_of X G zrz,zst⟩,
  ⟨mg_of X G zqd,zrl⟩,
  ⟨mg_of X G zpi,zqq⟩,
  ⟨mg_of X G zpj,zq5⟩,
  ⟨mg_of X G zqz,zru⟩,
  ⟨mg_of X G zrf,zr7⟩,
  ⟨mg_of X G zsf,ztd⟩,
  ⟨mg_of X G zqg,zrr⟩,
  ⟨mg_of X G zr2,zsz⟩,
  ⟨mg_of X G zrk,zsp⟩,
  ⟨mg_of X G zq3,zrv⟩,
  ⟨mg_of X G zo5,zp3⟩,
  mg_none_of X G zsw,
  mg_none_of X G znu,
  mg_none_of X G zse,
  mg_none_of X G zo0,
  mg_none_of X G zqr,
  mg_none_of X G zog,
  mg_none_of X G zt3,
  mg_none_of X G znn,
  mg_none_of X G zso,
  mg_none_of X G zth,
  mg_none_of X G zt2,
  mg_none_of X G ztx,
  mg_none_of X G zts,
  mg_none_of X G zq9,
  mg_none_of X G zt1,
  mg_of X G zsn,
  mg_of X G zrh,
  mg_of X G zqd,
  mg_of X G zpi,
  mg_of X G zpj,
  mg_of X G zps,
  mg_of X G zrz,
  mg_of X G zqz,
  mg_of X G zq0,
  mg_of X G zrk,
  mg_of X G zrf,
  mg_of X G zq3,
  mg_of X G zsf,
  mg_of X G zr2,
  mg_of X G zo5,
  mg_of X G zqg,
  mg_of X G zs2,
  mg_of X G zsv,
  mg_of X G ztl,
  mg_of X G zs6,
  ⟨zto,Hs zr8,zr8⟩,
  fun r h=>⟨ga r h,gk r h,Hs (mo r h),at_ r h,gt,tk,mo r h,mx r h⟩,
  mB,
  kit,
  kitV,
  ⟨_,mg_of X G zqw⟩,
  ⟨_,mg_of X G zp6⟩,
  ⟨_,mg_of X G zpw⟩,
  ⟨_,mg_of X G zo8⟩,
  ⟨_,mg_of X G zph⟩,
  ⟨_,mg_of X G zqy⟩,
  ⟨_,mg_of X G zri⟩,
  ⟨_,mg_of X G zp5⟩⟩
 refine⟨fnOf "law" "law" (Sr Cd) (Zx Cd) (Zj Cd) .none v100 d100 m100 n100 c100 t100,fun s v=>.of_eq rfl,fun base KX NX=>?_⟩;have Z:XG l.prog w base K mg h:=⟨X,G⟩;have zs7:=nE Z l3 zte zs2 fun F=>Nz F T;have zqb:=mE Z l4 fun F=>Jk F T;have znv:=mE Z l5 fun F=>G1 F T;have zqk:=mE Z l6 fun F=>Jm F T;have zre:=mE Z l7 fun F=>Ee F T;have zny:=#[af,l8,G3];have zq2:=#[af,l9,G4];have zqx:=#[af,l11,G5];have zsy:=nE Z l13 ztf zsv fun F=>N2 F T;have znt:=mE Z l15 fun F=>Q4 F T;have zp0:=mE Z l17 fun F=>Kk F T;have zoa:=mE Z l18 fun F=>M0 F T;have zqn:=#[af,l21,Jq];have zra:=#[af,l22,Eh];have zql:=#[af,l23,Jr];have zr9:=#[af,l24,ze4];have zpk:=#[af,l26,zb6];have zr1:=#[af,l28,zas];have zp7:=nE Z l29 ztq ztl fun F=>M4 F T;have zok:=mE Z l32 fun F=>Kp F T;have zo6:=mE Z l34 fun F=>Px F T;have zo4:=mE Z l35 fun F=>Ej F T;have zp8:=mE Z l37 fun F=>Jv F T;have zq8:=mE Z l38 fun F=>El F T;have zns:=mE Z l43 fun F=>Q6 F T;have znx:=mE Z l44 fun F=>P4 F T;have zoe:=mE Z l45 fun F=>Fe F T;have znr:=mE Z l46 fun F=>R6 F T;have zqe:=mE Z l56 fun F=>J0 F T;have zpf:=#[af,l64,Bl];have zn3:=#[af,l65,ze6];have zo3:=#[af,l66,zb8];have zq4:=#[af,l67,Fl];have zrn:=#[af,l68,Bm];have zqf:=#[af,l76,Ie];have zrp:=#[af,l77,Bn];have zsl:=#[af,l78,zb9];have zr6:=#[af,l79,zat];have zp2:=#[af,l93,Ky];have zqj:=#[af,l94,Ij];have zqc:=#[af,l95,Ik];have zqv:=#[af,l98,Fv];have zp4:=dE Z l0 fun F=>Ec F T znv zre;have zqp:=dE Z l10 fun F=>Jn F T zny;have zoc:=mE Z l14 fun F=>Oy F T zny;have zoq:=mE Z l19 fun F=>Jp F T znt;have zrs:=dE Z l25 fun F=>zhk F T zqn zra zql zr9;have zrj:=mE Z l33 fun F=>Bi F T zo6;have zoy:=mE Z l36 fun F=>G9 F T zr1;have zpb:=mE Z l54 fun F=>O1 F T zp0;have znm:=mE Z l55 fun F=>M8 F T znv;have zpg:=mE Z l57 fun F=>N9 F T zoa;have zpo:=mE Z l59 fun F=>Ld F T zns znt;have znw:=dE Z l69 fun F=>Ep F T zpf;have zpl:=dE Z l73 fun F=>Lj F T zpf;have zou:=dE Z l80 fun F=>zau F T zsl zr6;have zq1:=dE Z l82 fun F=>Fs F T zo3;have zr3:=dE Z l84 fun F=>zav F T zn3 zrn zq4;have zrc:=dE Z l85 fun F=>Eu F T zn3 zo3;have zrb:=dE Z l87 fun F=>zax F T zn3;have zr0:=dE Z l88 fun F=>zaz F T zn3 zo3;have zsk:=dE Z l96 fun F=>zca F T zqj zp2 zqc;have zsm:=dE Z l1 fun F=>zb3 F T zp4;have zsg:=dE Z l12 fun F=>zb5 F T zq2 zqp zqx;have zrd:=mE Z l16 fun F=>Eg F T zoc;have zpy:=mE Z l20 fun F=>Km F T zoq;have zty:=dE Z l27 fun F=>zi1 F T zpk zrs;have zp9:=mE Z l30 fun F=>Jt F T zp7;have zpa:=mE Z l31 fun F=>Oz F T zoy zpk zrs zp7;have zs1:=nE Z l40 ztg zs6 fun F=>N5 F T zny zsy zs7;have zn0:=mE Z l41 fun F=>Rh F T znm;have zof:=mE Z l47 fun F=>N7 F T zns znv znm znr;have zpn:=mE Z l58 fun F=>Lb F T zoq;have zrg:=mE Z l62 fun F=>En F T znr zrj;have zqh:=mE Z l63 fun F=>J2 F T znm zqk;have zon:=dE Z l70 fun F=>Fo F T znw;have zoo:=dE Z l71 fun F=>J9 F T znw;have zoz:=dE Z l74 fun F=>Fq F T znw;have zpe:=dE Z l81 fun F=>Bo F T zou;have zqm:=dE Z l99 fun F=>Il F T zq1 zqv;have zs4:=dE Z l2 fun F=>ze3 F T zsm;have zqt:=dE Z l39 fun F=>Fc F T zp7 zty;have zn2:=mE Z l42 fun F=>R1 F T zn0;have zqo:=mE Z l53 fun F=>Jy F T zn0 znr zqb zq8 znv;have zpq:=mE Z l60 fun F=>Lg F T zof zok;have zox:=mE Z l61 fun F=>Fi F T zof zo4;have zop:=dE Z l72 fun F=>Ia F T zoo;have zp1:=dE Z l75 fun F=>Kt F T zoz;have zo9:=dE Z l89 fun F=>O2 F T zon zpg zoo zpn zqf zpo;have zry:=dE Z l97 fun F=>za2 F T znw zoz;have zob:=mE Z l48 fun F=>O0 F T zoa zpy znm zs4;have zqa:=mE Z l49 fun F=>Jx F T zn2 zoc znx zoe znm zrd;have zpz:=dE Z l90 fun F=>Kx F T zop;have zpp:=mE Z l50 fun F=>M5 F T zn2 zsg znx zoe znm zqt zob zo4;have zpm:=mE Z l52 fun F=>M6 F T zob zok zoy zp9 zpa zp8;have zo1:=dE Z l91 fun F=>Mf F T znw znm zpz zqh zp1 zqe zo9 zou zon zrg zox zop zpq;have zqu:=mE Z l51 fun F=>Fg F T zns znv znt znx zoe znm zpm;have zq6:=dE Z l83 fun F=>ze8 F T zqa zqu zpp zqo zpb;have zqi:=dE Z l86 fun F=>Ii F T zq6 zpe;have zr5:=dE Z l92 fun F=>za0 F T zq6;exact zkz (Nf zt4.l zt4.c zt4.k) T zn3 zs1 zrb zr3 zrp zqi zrc zqm zr0 zsk zr5 zry zpe zox zpl zou zo1
theorem walk{l:OpenLaw}{q:Program}{loose:#[D]}{XP:#[U]->Heap->Prop}{YP:World->Heap->Prop}{d:DefRec}{K:Params->Frag}(hn:l.most=some 63)(hdf:d.params.defaults=[])
  (hY:∀ (w:World) (h:Heap),YP w h->(K w.params).In h)
  (F:∀ (w:World) (mg:#[U]) (fa:Addr) (h:Heap),(K w.params).In h->h.Ns mainGlobals mg->mg d.name=#[e,fa] ->
   ∃ fd:FuncData,(∀ (s:Shared) (u:Value),BindsTo s fd ⟨[u],[]⟩ [("_law_script",u)])/\∀ base:Heap,(K w.params).In base->base.Ns mainGlobals mg->FnOk l.prog w (K w.params) mg base (CX1 l.prog w) 10 fa fd ["_law_script"] (zcu (K w.params))) :
  WalkO q loose XP YP l.row.toRowW d [] (fun f vs=>PySem.call f vs) :=
 L2.zh5 (n:=63) (k:=10) (x:="_law_script") (CX:=fun w=>CX1 l.prog w) (sp:=fun w=>zcu (K w.params)) hn ⋯ hdf ⟨rfl,by decide,by decide⟩ hY F (fun _ _ a ns hl _ hS=>⟨a,ns,rfl,hS,hl,fun _=>rfl⟩) fun _ _ _ _ _ z=>by obtain⟨_,_,_,_,_,_,_,_,_,_,z⟩:=z;exact z
end K38
open PySem PySem.W PyProof.Rows
local macro_rules|`(command|universe $x*)=>do return Lean.mkNullNode (<-x.mapM fun i=>let n:=i.getId.toString.foldl (fun n c=>let k:=c.toNat;n*62+(if k<58 then k-48 else if k<91 then k-55 else k-61)) 0;let i:=Lean.mkIdent (.mkSimple s!"tw{n-10*62^10}");`(command|def $i:ident:=Nat))
namespace PySem.W.Fast
universe CPmQu6ibJxt VyDQ5xv0P8a JGk6eiuic4h JQ8IyQhhPFR FNdQau6Hk9p RuvPOvdFPI6 SAjdai86R3O CG8dNBXy2zp Qeh2bqhK9CO DlWWe2OwYB7 PD0uotMXnI8 AgPBOLooP6H BjQntAjnBpL KtTABuikSFo VUY4jEdOu4W QcZqDEDdM1u IBnMnEd2IPJ NnCrwfXDuow PctsIZJZAWg JLgHPpIXGzL FZibiwKVbhi NYtTFgu4prf D81MuxKDOiY JF9Rb4dbHlj S2wCGvovDoP FbOgTzop9iS JGsj3g7ooGD AAWE99egr5u IFgDgw9dphK DYORkHGKlgg DQgWQTJevYR VHHkGgYEwFD JATHmiViUN8 Pi9wwQdfBca BBW0dcZ2nkg Li5h0yMgCNV BbsDSfToTAM T5U1Ru92aLb SaK2d19JAix VJB5b8x0zfP O42xhD3koG0 BTaUTJ7cCxd VqAmPIixyJT QInkr74VTC3 Tz4mPl3g5GY HXekLSqtjqy I0ZTbWoB2NL U6oL2rA6Evc JfRpqKB6lc8 V59yldKBf2i JygOnyaHEwA Ihg662sw2vi DKz4X5lwBYe LCZm5mzbOvM Cvx14TZsxIt UJHmiIq2nXJ BM9pGpCu0bP EiiVwUcBj2N CAAm6gsfdyb GsxUMagwjq7 I8loAFeptUD QGvNw5tr8QG HHa4N5eecXh CCZ3o3jZdmd EU9XOWwFhW7 Gj6xspOOpUu Q7EFiLf9Lsy QgBVE86l4s3 NbsrUaLdG6v NBEAUHb3Jk2 AsnhC32rX3K QdBC9UEtJPp EjA2YbFFL4J Amf7A7QEAug IfkIR3yc990 QnPE1CUxmC3 N51hg1FbatP HGvLjvgtIOR ElXAi09bhzy DrpNIrSIEFa N8EWMONzyhU HuMT4Br27R4 PDdOimWg8Jw U11uPr8wpT6 GB4rEFLq4H7 DkRQ3MjpEPd Tpajt9SSQNW MHcf13PVuBb FaY0iGulSYd Fc1u5kZd5ue AjZDTG8kUlO J0nvMXNA8Bz VECrS5q3Mgt KJl3qstprdc OvDnAlqAZYK C5cxd9INBRT McyYkLkbYHA GU92ykahHwB L86LuYXtSTI CqrUaEqd4wk T7RGJYFH88q D8nKrgq0ZTd UY8XxQQqV8p AsBKtT4wW2I DRJmlRce86P Guwjcx2dSyy FwBfEm7e2yC Oej7YLUJgSY NbLPBVnA3QP RAGBiTeT8Rh TntVxjzkDz2 Dy7fizn1W5P MNFubGYpV5s Cyv5rzrwN8l KBgrioTqxeN Se4neUg665i JYCBJTxW46h VU8JSGJjw04 IFYxl3q6KYj UufAUpOPvL7 JY5XIUzD2r4 KR6MoERFOjA AKm84mS7WRi PLFFa99w6YU GEzOEOP5rKV N4pSddXQ681 T6RQYSxHADQ NAsyMqbHEuF E12MJmUcVPC MSqEky4Ikm7 T4o9uIHPlfJ SCOawxqdQ9A K47WcB320bz JoGDi8J2NIi SfyVBf2gLQr JOEnOF3gnKV DYbEIjgnZN4 T6L39DNNIRx QI0V4TIOmOg S8bxY5ac74C GdI7dORsURP VnAcq5Twntk QMuuEXUkfEb UfWrReSObBB NK4It1ZAACm I2NUcAeokpZ E6cdTQdSydS Og1qi4h2rYr Ji9Dzng08PD IaU2XsK5YLN VcNGmEGO4am BFKo2F8Jmym TZlmPnXdzi6 QRIlq4q1FL3 SPNxljSp3lI FkNjbtHylwE KiQdie9jZD5 MAzVjkGxNlk FF6eDAyOI4c BKBrhHjnRaL IwvdR8mZwYg MI4riCZ1Wd2 IqCgZGrFeY4 FbzfI9OPTag O0h7koV98dK EPhUD2aM6OB MdJZtahQ5rT PwECDic3rJq OC2efrze82g R6e8sqOOEzU Ez9GGoAhLEg QJjUiS8PZyl Ika6U7V8iuF Dg9fwddzbF3 UAdJx48EtUT TpMH3B3gVLi GWJgkhFjeJm PwHitvK7Mm2 PAKZweKe93E FHcaIMWh5OI IXl1zAtSQzy BqdN6rBe22v UtQf0XWgWxK HJYWBgDpyh0 FU5pSy8U4lN Aagz28GgICr UoMaKUXDJbh CsnoQCP0HQq RQSWqNkCZ8v EBgJ1rAOhf3 CPq8bN7kUc5 IPS9VkJLF16 EbGB7ZuGNyc Fetd0hjs8s6 JWpOLDLA0g0 JGanGRnt7vW CzFztkceGUv MJrAqBduMpE SkHIbKtd97e TEwbpxQxCiR S2BPaThtK0B NmmxL6OcKmH Isa7EPysfy3 BJ3j0mbVtgx R9tZK5LLvis OLWcpunpIVu Splxwt3Jx3S TQH0eayTXyY R0iKSdOHR85 BrJSn58Uj6o EeDdHkU6A9W RoLUKGA9kgM LQt87N7OPTX HZyEpH1XwlM SplWAvapOtn O0RdyE7Gh2s DWBRHryzvLo HQwcl7obbCN GcoA803U704 CwxDIbUAQfj RazqbzGQb6Q NsFLPxQqztY DZ3OSUMX4wQ T5oHfnklfW2 MoAa8GIxyRZ H80TRWhVajz CR36tyacfrJ JXp3Ej7A8n5 IcsVdg26Awj LeKkwTOOPBw EEe8ulNXcix EuCFulyWWcQ InbodPQUiPa VXhQVe5ZY9e Ks9JfBowcdW OLFTjBjv6Ws NDSByE8IQxY VK57hlhDPzD BFOH4E69YNV Pzwbxat7OLi QYPDeGPOcs4 PSmtkayueys DQKpAGmqPgh OAicji8SN3v QLfM7bqfNGJ BJSy8dKQu6E UWNxHQ3Ie45 UJhAs19iGSX GOOzPjBK4UH F5ikFAQoHWy QWP6wD2gtXp M9bpCZlXVdf CPfPRMQq55h FXBAm5hD7sr Tj2QAqlaT6C RLbM4CcfKci MgqTEBJjRXZ Ck0UV79b1Jv KDPTTv2eCau SLRPB4Skusd B8b798G4mvl KxNGSYNujHb NGtpS6Rx9bi Th1LriUryRP VMt6EFduZnE MICOjI26MuE MJncEDqDUJJ EztOMyUZ3VN IPaMHmXT3kL E623T2vxICj NkXeliLu2xu KCt8YT75sZz IeroiuWClrq LI6qQENr6Ic SSzq9zZCbpf G1iOKXyHfKA R6AYwkSnOOQ FyEIwjR22i1 Uyncn3kgSZd F8qtFkXX0nD RSZpdkQfS9e LPoiL2HGlA9 TeuwISQpTh2 PWqMLXjRAFI Ml3eaoWANDy Vozqse5CWa4 JWSjJlzJN6U BASgeQTDQO8 T5ZDbAr9OIL EWZs6QnkOgT JxknywBN72K GmXCfHpCjuH PAPMQPalJSu DUv8sDOPiOp H2evJnXD4Pi BYusrbgfQgh AnITedPtMdt HjPcdEHb4Oj BNhGwFa3tRe EWOmFwQtiiI RXHCzcMiy0B JfsyVfHIomh F0FewCehblk CwkTmrwdYlA So3oQSqbQ0C Hn4z04699yi QVQg8OkhtGs KKwSV9IGR9Z RnRX34AxQSy FrpO1eFovdF QZosS7abNFC NgsHypamsEQ DTDabmNQORG Jpo4UKOUsJn R0PPG8tChdb BoasPjlOiud T2fwpscbNg3 TH4lrtJIx1g Gx7nEM5UCus PnZkeHhrFb9 GhTmwgDEti5 BowZlX3HSN7 ESvsHtLbiSO SIswgZE8u4h ArpaVwE5P1j As9pphVEhL8 QRx67dkEPzM OMVzLmPgIK6 LuyiirHP3Wz UxhvNUIqzqh ArgRmxkvo4F Ue4rtLbSeKI DptpRP1E068 Mut2lETRFjp HNumsTJffsW SBHuhcKWAv5 HvU0kDBnCIZ GBG9UeNfYFD M7zyDHxTkwA On7wtjyDFqx JtyEZBhDbAt UCPsCcppiPV FwPtKBZaq2H VB4RWKTRmuZ HmsElXS9vzR IFZpZyddhLs UaX6p7F2ob4 SKfCU0FU97O FPArktN21Yi Dz77gxTdXVJ MkgScBVtVq0 LmTIfkQpud5 MgEqxwkZTLe ITOAvvfitrN KSy46v4QHSF OLbAj6wVy3D Mxh0HmlqfEP OQOreHxc6zG EXOacoKxXeU V0JJarh9cvE DnH21BPFHFc Uabg6oP5Qw8 SqePjBIF09x GSu0jPWZMPH MoSJrRnbkAZ JRgCkNr0d0W GyURgGB30Cm RTz1osSLfen Pklr4qV2rcX FBJtRqDip25 SSBFE9v7XYo I4VN4laIIiz QGAfD7Gjz0m BK2eQmnayr5 JamjgUHtjqS CBueJxim6iA LRO1zG9QaDP BxS4ZkUDVuf Q2JvnkLCtlj DGLhnQVZGvM BFkBSUDbR8r HPFZx1XfDSm IK7xjSIv893 VmF1TpugCGs NiUeClbLifW VYCrR3h5EDF QyO7EVhxBg6 VPGaBhDdjF7 Rn8Mxe6nJpD Vxwv18aBvzs IVz2y8QrugE ETAtQiK41D9 HVpk67dxobw LCRQFJtu1SI U5vZcmVif1Z HBaTVVpD6bJ V2RMZHN3kVU QkBmkpquqHK Su6q5VIIgbL JA5qNeHdRvU GmS3IzMZ3VP K8pIV9Dp3MU O3n8trR8NKp GAgCu1Th8Bx UlTY0lqkgQJ VZqUpCuxEFm SRt3WmOhDRW Ru4PhUoFBFP JPN4Yhkwghr M3bO7BRFQ5p UjbhkxPn2y8 SYpfWpPJpio DtYp17rnaYD I6k6oWEQzmf Icqq0R8NLtb IF3JZp5pDny TKClzDUbVOQ HhddWp6TAxU HFtMrfVN7mn PpPFw994qKZ NxdechU3C41 ESopOdTbyFX K4ZLfRQvffV LjGOuPN55Bq P55KsKvSNxC FMT8C9XVBpp CCmNJYBxKao NFZAzXHbdqL IyhKQzG6tJ9 C08CVJbnNPz Fwaj57TPiQS J1TCKt3pw8T J1cyTxk2sql U23kVkAWJXj LNuJ12sirYS IPF2fKBg3gF UwooF6YdPW4 BDiCmkYe9s4 CvirsSfkVGD V1z6RPKr3fo AkoiyfHjAgg EwWwCCqKu1V Hr6JbhIUaDf TUIP4CR2J77 QvuhKoT6OeO PypACGiXyE2 VNbF1AEqSwg PaUJgJSwzNl CecbnJLHEOq FgKhvd8yVCj NBfx0dJU691 GO2MZl5eEkO NtvOoyy8Nc2 Ksokkbm0eEa RNAjVb7m2FO SWcN5WjOAsu CLNnWNpuwFY R7NMafEhI6M PITAHXGqEgo VjZ0sXQuBdS LIr8U4FhX0c GmKiapNrvnd DBD4YqD4GBs Cu2ZPqPS5bQ OZ0Oqzr8on9 DN1au4ic9yt IBupRqZ4wUK NctAvjZh28a V5PjQO9YARP PO38favmzO0 IxXedfR5i9F JtqNUkxdURA FRb7ppPn3gP QHrm9shsAKU Uy1dJYfjMG1 G19elDotOm4 HguPixIliwS AGtq16lD3Bf VXcPVzzaJ7k PrAglKJ3t7U TctiDINOSit PcJCWnAS7gr ODuCmFoGXJp OrtIMqeSxVV QBZHfVilzKa Oh3DPUXAqSc Mvuzbkw8Z1n BicKeYps6jw E11kN9rJ2zK Bt1wgHwNqKR QjCKL9JJmpj PIVzOZjEpQW HonVPutlgRh Q6VyYCyrr6H K2sqL1xDqRu AlGJE0fmyv9 OXR2CGhIHyF DUFfjdwaQXv FLEjOM8YluJ RUjhcBxNCkJ HeJTE5sSVyg RndQc1oiVL8 GQBJ2D5v8cH Gx7fIfwIcTz GSMXwChTs7s VLP0K5oylmD KRfPEgfk3D6 EeWT8W9JmuE HuJWWpVc1b9 I1RWgCbKAwa P1Y99lgaNGN S5I74MGFCT0 Qh6V4CPvJnj BeR1wKQcA5h HZfVjoFMRct JYSaC4zlMf4 VI08jz5IuTH BGxqNmXy0eD GGvaMIoeci7 K6WzX0Y0fgq BmMWRS3MKVh KogEAYudV6C LCgcmIu3DGS NigIX5A2hF4 KoU0FW9erDG FDYMNkedCjG MN40RL3rh7o Q3ak7PVj8Rv B3e0uuC5tJH Et3nEXVPM25 Aak0PPSkUJ3 HvkdPs6fUZU GMc0VtfXSmQ O105J5vuhXI BVaoDVo1qhN CWyk5NcDMrI Je0Goej3bGg UYq9R8sCYR2 JoFk5LXckf2 K4L0DeErolo CPD3KVENaGR Nqxa5iNB590 H14tcNEY9Lm VuSBFLHCXVU DTchrIMGAu4 A39sp1UICk2 Q4eFmmifuQ1 N8Z9VOI68Z3 M9Omj1yyJJR DEzW4fkP8iS TturXap5FTF O6eG48zlmkM AUawzTuDm57 GnZlOt0LLEO NLY5vLDOGqB E0wTq8NQcgA OAkq7TyeiBb GM4yRkPHiss E2VAqnoWFwt Kgx1u9NWsFm OPDz1chYUDI FVOc2qNEaoo TGPXkop7LM4 HNQd4jOpfuC Amwcfzbrmum S8DCrMGj2wP J1noRXoZBDJ BMvp00F0vPw LYnB02M8eqM UqMULsEvJmF CeLpST7veYO GitqZpPTfLb LNTbXPadkPl QG5qt9KPYio DFyyv8p68Qc R6dYUWLL5Np TMrILt5n73o J8VBdSGXQdY DFzHEaZgja4 Fmonztj1lmi UpmBNJOstTY V1QRaJgKJH3 F4bEioBrHf1 OX9wmSODi6E OGzA9dHs2qP MtGfdAJwNOi Ey8zelFZ1cD K36C6cIHBBO QTQJIaUNBs3 P9ChIqKIvVH OlGFKkIOYso TtK9eDvqRuI Set9SPaKuHX SpHQDpH5fjf DMmX8E10glw A352XhDLjf3 HxmoK8f2lI1 MkmkvGkBzjJ L4BClIpTjRg CtaA0VoLpeG JBQHK15fYa4 MljkJ5r4FBV UEW1NFgSLCb C0O470yN46X TaMaZtKfQH7 U5exbDnRj3D VJwlry8Bmuy FWcPBoTplIy FKzFOekjlTh QEr06QEXsgZ G65FU36dcuP Lvid8dwuIh9 F9S8gNrpkGq Fg6Ph7jZKW2 PYabblVbaEA LnPo873DXeY C8FmVVNK7Dd QLMaYaoKA6c HJbUytuaJ5b PDV367vF9CT FZqr3Is8h7m UmRfJL8f3WD RAAcAgqW7WL DTYwItzFmKa UBYGfaZYhJC UgAilglpz6g JZsYTsXAGkX RRQN2OMhStF JZ8eNOCSxIG KtARcJiS6Zq EtCvEjOZEcr A5Jf3irsGry J8HwxZOO0nl Gb3iyvrDgYa CLBUjQt2USE NUoDBJr47Ma CdEfO0ky0ZW FzFRlokwTBO C8H031LI38d K5adzvKCm07 Os9tZqms7sg FVQfaeXDRJY MHhDzykc3Gw RiGOy9cyMBn Hd9IBboTG54 J4L83pQelbU BlOM8cBD7sp UFTbYFZh5BA JqVVPT1JbEd NFiFLqq9hzl ASltlODi1u8 TIHxSzy7uTO DRjDBlXsM6u Q2TZVcF5Ehd ETxEmF2QYuH VETi4MdHeiG CGuhhiig9Z2 VkFEZaLRBLe VLv0oqzZghV B2yi24CUGrx N2aLUheAEsS Qiampz0JjU3 HPgA3I1Bs0U CnBfUyh9VJB V2jX34yRyJJ TkYg5SPHLG6 Iev6vbp30Iy PK98UYw6W4N NRl1VjxpfXS Lb8mi8C4OOf KrGXypW9ADA MYSCdtAran4 FF9YdW82Ipo ODnnIy6a2GJ IfVJuiYngcI NXxMZsgKDb7 Cfx72IbLwTP FzhehRkrWeu Fku9bhTGjJp CMU2ZLJmq9a Kf7Zy1AWoy8 AqIX4QRjhAY Bus27jSZ6uK H6LLNWshmeK DljbZbPqTuk MyiIE4yT9yw PVBWRyKKoxi AXt1i8wRu9l Nr5JF129QIL LGCdqj6pqyO VLP0dTOS13E DTHGKS73dWc PNr1EBA8liI NxkqfpSeGmn O8dLNV8f2Ci EvubDw57Bco UOjDv1mj0IX TtK78Amu3ML GPXrqlbW3Zn VaxSwTUDtuw CILDSetOZTi L9VBZz33qMs AG1u3MB0Bhi Og6jB1BIw0z D8NnJoj26Cw Tl0MGVexjAY MDYInsBqgEj Abw6qlqtfQ2 NZBKS6cwovU SDJnUcPHubr V8Ea1vJmyCd I54W3rY4xYh TPUtykSIVLD QU7YnlJWmWb Gj9XuvNRkOa Qupis12KdV8 Syepfd4BRHq PXYc15DGHgt JpM9HfSQgwo DrIRF7RFLXr Q3rLjNcEquE HppHhPIlyuK Ms9WF4Hm6p9 NEeLeYi3vHM Hxdl9MJW3oz IRW0vUYco3F LrixDIRA77P HaPjrv9Qavh KsOAXKFG6mB OqXu4Ldm0cW IVmU0Rt9Xx3 Dq3RXQoQO3o PTrsaFVRz5O F6K5Vm1nxxM QnFqt0ztedw Q5zfcyjnsN8 KKjm6K72aYt IbHACHPf78B M4QaUVUGG5m QqcpNXveJsy TKsymIP0B2L OW7sXXyb5Qy TyknT9pQ1Nj BFLk0ehsbW5 VOq7T5fjdEe RkRT1OwO1bE K9LAYJBHfHx VsPzdQe3L1Y G2zaK2B6YLx Q8FeeAlNshH HkzJM15cuYz NVpjN4Kt17j LSFHoiOjZSJ RCfGpFUSCzq RLvQFxT7WTJ N0IgK51dQYP PIlPLa43JB9 DWGPRx4XgFR KkuWbumeESG RHiIubBWSou OGgIojseILi FAYXQwEJYi3 VdWbeFCksPK UXEvHNylmtG TnOxSPgQJE6 QR4SemkuRHC BpKI0uCwvOx IztPnBSdOKP PJbavPBZ4my SJhjczZTsgN NAFxEtN5c40 Tv4XIvE7IjM EnQNX4SHT3y IQBNHq3RfwT KcpUc2UVQQC N6prUEe7pf8 Q6cioFumsbh RuOBBQNpgPP Ksxeqq507HQ NJFNpPtOp8P B37CgHKECyN Odx39wYVeVc LeadJ7f2miI EIjvji2xVUC AkogqzjwAb3 C7w0MNSb0WJ NTc6PnxeFry VTpCZELhAzC JRic2D4rNoU FHfPiLk8rV3 FntlXxxmT1H COu4stHHrzw DaQm0hfmw3Z Jjksz5khRX1 AQRKasU6dWr Gp3H6zlgUBK Huy3Fa7uz49 TPKJwhvsJAV Hgw2zSQJisj KIWMpNFURFu R3jdZr9epVD LxqhXYOVmvs F6HNtwkiySY EemTTh7XbMd Oz4ybGRUKQq PwZ1Evabd1S Acp5dROda3q LLKRPiozE24 Uy2jOgFEA8j DTSQy6t5fKa L20tBxw8TT7 Mdov8c3UTWt U6iKqSPVTw1 PVTS6Wwz7N0 QM5LJKKxGJd Mpe7QUBPqzf L7v7LxVh2j5 KUgLvH2yo9c GJU6VrYJ7C3 QzbY5AeSGVU KePmvOYgJ6W E6XKmg3SzRv R7DvDD67ni1 SqLWXHROCpG HV4dY2jauQz ENyqHDukhOP E9NKBFOFbro KtWb2po51Vp BWN9RIIZN3z Oj6oNngZa48 OKx0fqisaiD Qd7UyUjS84y AYX5qVGjWfc C2rf6EqikSx IULyEbE8SRA NSy8APqKEqS V3rmTbfoRf3 E8FX0e0nXbZ FsXXDYPsscL PvT75tfQwon EpIcQyQNR3H CMu5bsCRs1E Q23QI4D6FV8 VlMpZlijJFi GSaid2dvE9Q Q3ycB6Zl8fL R19qQapWGPY DTNIMydzauT NjIiQrw4RvA E1Zgo13rccn MbRcoZmnYqC LRmDU0XfYVR UcFPaFl3tRu SxNw1dmrzOK SupAQuRVtkY OE0nLkShZfK DQBv7icYP74 DjhrqPMlZ59 UaGCsRqoQLq Bu0sbNFF61F Q3DaONa8XTw EFfOfWgLCHn GhksAPD1yi3 PVrEsayd9F4 UbSMfeYhBHG OCx8DFZ5lOm AVxjKyjzXSD UTAv76aKZEH NpfN9K5vUbp MCe3jAzPyVJ DYEJxp9srzb DNJzWpAMZCF CJ10B8yV5CV MyvF26IHsLC Jo65yL9dElW KQAN3hi8e7T BhOHgppxJTV GR6dyCAhnVb Jyyg5BPkihL HUQ4D7Z49RA L7G5e1Ggyaw KX3RFt3hdVM KjL4jxP1wug KZaDUtZs7qk EO8uMNruKV4 CBbzYkh4cg1 Hixt90ukWqt PhdI4frvNtp MzBf8RlGy5x QTqyYajnVPp Ac3KKOGLQyw DNUKC6qV1S8 PHcpgXYFlVN EFBhEuULHtX DvHHyb5xyo5 CbTMhtK8IXd AlV9ARymfhR Ll2He47311I D03qSOMyHqI DByJ4yflGNy AyR5ZrHT9jR TWHvDpOIPS6 OCeP5NADx1J ISom6X5VNhv UBRZDK3BziN JvPrG2DpYU0 K0DikAUStow AG9tiG8TeyQ CsfYKFgNffH IS8YxW1jQG9 EqQoMYb8su0 Sl4ur1TJPlE HwINLYc5W7j RDG6Hegfk7W OnmnycsuWxR O2yKtv8XknU OrNcWkx2O2z E56f5TcajpX OPMCz1CsIuw QIzcWve4o1l UU0LjQTQyP3 HTpdV4cKemS H59HEYgKn6w QM32EwNvI8S HcMEN467su8 BSPOOMGBRzP Jm7NLwh8NTL GRzENJa2FuW KMZ073VxTaW LSfkn4OhKMn BSHFTeTLstd Kn7sZI9KGs3 IgZlp12eMJX IpxLr3l9FA0 PfigaTeabFI SIgdkGFZcb0 TnAuo354wqf G0M0s4iJwIc U2BO08Sm1US MXWxRIKuONu Ay09gv9XizD RvcQyGxdHtb D4JahJZaPZr HjU24UG7I8A ORViCwUjJbY KNzNelPqKMg BOnfgQI1Zj9 BSHSo8piOMG HnvRoGXsRTo FQLuLOMdQr9 C6O7TGaryOj VHCTohzEd1W LQPPD6J2p8n FFoH9Ebro2o GqoLvXBGFHV UkCvDaUBq8g P0TMg40fx4f RjGu9OYnxAs QKJRn0I2tAB I6SCAcrbVy9 ClY4A8vzl7n T7tCmLilecc OzLMlEukOTV QyxAbmQkQ4n OjkSKcTXJwg UElhs8XCvED UXQMT55rjUm USzOip5rwul G9uewPYhgIA D6Fn7WbzVJs AuczYzy4zhF IM1bOvXj7Ca TeG6InXcK2H GtLZGXR1Vp0 MBz0j14MjLy CRRuh6B3tQi EUO5nyKSSSu AIPXDCnfTbX AR2eqqlQfh4 UKXZcXVjSH4 TC0V6157YJW L7NPuKVvJzl GfhgXt3N7JZ FBpR7khg8Fq Am0KA65ZPvJ FiQY3peS4i2 IS2OU6Aaxg3 IRJSNcUoOac Jd7vsw4hTtN Bdvypc7Kq83 QtK8gr17nRe VQCSAtKtpih GFVrtYYrOti R1JW6rsPvdj UJFmHDvJLpf HrX45PbXojA SnE5lvlrcIa LPJL7rIGzMl FSFhPOEIQPw UPFs4vtprEF PC3nJHbUPpO Uzfq7jb3mwl UAOd6q67cVT SIm84EFFTJV RVdATmiohem R3J1QrB4dcC Ri6nlLML6NX C1iQYD34eqE HTAUQWZcBfq KW6CS3FZfpN Ops1kbiC8l3 HV7ionfVMsz L171Le2IvCF BXQZbNf5pax DeuifeEUig3 FQ1PUwtmIoW CsBXGqrgCyV I4Ltu1dLxjI Mps8ccu3mdE QuXpOXuSmwU RNCX8m2CBhA JoKJw51Pttx IUZPWgKx8zA R2qQcspKxy6 RMkkvifwnEj TDPzxQDsYFX Gc1nNrl9DJc E0boLSBwbmZ QNG8RBpVndx FFmpFiu0EI9 Q9SpPZCoOaj AG3PyXO9U5D BPQqwSwa7yt Hs4Bn9r1vjv K45piYsRmTb VHJM2AM0CMs QpxSmvEIl1p EqvYRhtNUhV KtUBNYKqTSJ Rlf4sgwDNki P1Gk9CRlqQt LGYBQxbEPRa RcrtEFlY0rS VqUVE4RGIpP EvTwpri4JY7 SRR5GiXDRPB NFUfwyoNiKq NfgFW03v5XY G6qXAZfFZn1 Vwwdij9vY9o JTtrQcZ89T5 Bx7KLVDQn0o TbV6qcVRTmw BsaKgbaEkPj GbuqLjzitc4 TXI7ZZT0WFO APCvO7k8vf9 N0IynrZDbLx CFV01vSs3j0 OzqKo0IrdBy LbOmBIUcWq1 JibEpl8MI0Z E6pA9YU4BX5 PaX4B4tJ21A E9UI4M3PWoF URFzqyK5QAh TX6dwDtoGvt NOrVZmsPPBP A7hngoTbGrB VFywUSbERmR IbceTNOI4C4 GN0z3YECfzF JGBki1xQEPD OQTSWEoNtXt LeXnheLe5hx McNtVDomTSj P0gPL8RziWO JrmAMlTCjpE EQXrZd0yeAa LhenIaFHR6d T3xEm58OfGP NSc6hTfAZjW ILPBxBiMK0g RzVFzxDC9EM NUZc5dKYwOD OymvQsRoZvj M7XJ88bvQn5 CRiOB3J9c5Y GnWV8TK6ztT MNzPryr8AwK KBE3giSk44w FlNlc4yIdiD EuQ6IF7J3Fu LOPN9LQGXkd R4bNIEl0SIS K5nSv4vTtpM Lwv8VdrYvUm TPOHdOnSlbM D9ZKwNm4v8E NlASnPILvSz GnCTX4ombjH SrZ7WO6t5fl NaerfsP6Fxv UVJAYMC30Do Lt5WENkrOdC AuoMM8zhjSn NC7eOF1rjEp ElvojXhobzZ Nzrm598lcfu SEBFJOytp8p EUAwuEHJHgY EvUzlCovgDt O2n6UTwW75F RFVJsjl74uM CMtOdIUDMSq CgTLnoLTWDQ MmhlmPOxmAN DF4qbuQWQ2R F0u8QpnYB6g OClOPjm8d4G I0gOhvDi2Uv OKJSrFawOMB Nyclvn39YHD PKtn0Ruk8IO GhrowEOVv3u HVu9BpZmebP FpGb0w0rU45 Dr4dNjkvn3i UgDBbC4MiR8 LYpSjGV25F7 LTdokd6Fkxp NcwoXTvHagL HNiuidWko2c LnkkgpFwi4u DmcFx3wjt3P Jq7Iq8Mc4iO Ilj4SzQhX1k CxmaHIBPBXh DsFm0eyV8YV GMHdxzFo5z0 BTuvREZkPDo NjxclbsQZrJ MCNvrxuFDNh Ing789RkB89 BHJo0d2FxPb Rr3JDeyQKvR BA8ElnMOGyW GnrdW8UNkkk HQPbzlEf5pk Jpz5Pxzwuqh ItBWDlsSmjU VgO9enxyvv6 JbHU92TLATP EqHcp76hNyD HacYQ36zNkL KZQ6zawj73o BLWjeZ3ZN30 EDCTYuA5Cnd UbQQ1LYPcGS PNA4EAoxVKb GMaAH6mfKXC TzTCgJxtMAO Bal7EkWSE2G NEAduoEypkh RYOvGgE2bca CrnltYF8bLU KsrgD2eekVA MLpYMMZSE07 MZBwcQsn3st QDEDK40v7Ch T8NYHGxYKko E91kK0O4cSY Ef0QNRERdKS GTklK0caa5C CbFsLJRrWfi K61Oj39ekQG MF5J0WztaMz Jc5x8XngAYs VZiklaDKkow KHAQ23DRM3h BO0i9qp8oAZ OJMuFNBDJnQ E31c74y3I5M N9vUNVZso0q HLr5BP6edH9 BwgVeiZ8NS3 Chf6Q5NAW3f Bs8IIATZHHE Ky80glf7X8r HXxCEDqQzsh R3Bl2s1Vsi5 MMv5PGgd5mY Kfwje3ICg6t HT7EHHkOe2J OMbpPXiuJjt PqpJJIHE4FK NTWvIhSdEqs
end PySem.W.Fast
set_option maxRecDepth 100000 in
set_option maxHeartbeats 0 in
theorem PySem.Challenge.cw_whistlebook_k38_whole_refusals_holds : PySem.Challenge.rw_whistlebook_k38_whole_refusals.Holds := by
 w_on;o_law;k_head;(case hw=>w_witness2)
 k_fill
 refine K38.walk (l:=PySem.Challenge.rw_whistlebook_k38_whole_refusals) rfl rfl (fun w h Y=>PySem.W.kIn_of Y) ?F
 case F =>
  intro w mg fa h KX G hmg;apply K38.zk0 KX G hmg
  (case zsn|zrh|zqd|zpi|zpj|zps|zrz|zqz|zq0|zrk|zrf|zq3|zsf|zr2|zo5|zqg|zs2|zsv|ztl|zs6=>(show _=_;k_is))
  (case zrw|zsb|zq7|zst|zrl|zqq|zq5|zru|zr7|ztd|zrr|zsz|zsp|zrv|zp3=>(show PySem.W.excIn _ _ _ _=true;k_exc))
  (case rk=>(refine⟨?ga,?gb,?gc,?gd,?ge,?gf,?kit,?kitV⟩;(case ga|gb|gc|gd|ge|gf=>(intro r h;cases r<;>first|exact absurd rfl h|(dsimp only[_root_.G.Ref.cls];k_is)));(case kit=>(intro r t h;cases r<;>first|exact absurd rfl h|(cases t<;>(dsimp only[_root_.G.Ref.cls];first|(show _=some true;kit_is)|(show _=some false;kit_is)))));(case kitV=>(intro r h;cases r<;>first|exact absurd rfl h|(dsimp only[_root_.G.Ref.cls];kit_is)))))
  all_goals first|(show _=_;k_is)|(constructor<;>(show _=_;k_is))
#print axioms PySem.Challenge.cw_whistlebook_k38_whole_refusals_holds
