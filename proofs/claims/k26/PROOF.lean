import PyProof.Rows.All
import Wide.All
import OpenK.AllK
import Wide.FinOn
import PyProof.EqAt
import PyProof.EqKinds
import PyProof.TupleCall
import Lean
import KE.KDictList
import PyProof.MaxThree
import KE.LcSums
import PyProof.Rows.FactsN_abs
import PyProof.FactsAll.list_3
import PyProof.SeqI3
import PyProof.EnumIter
import PyProof.EnumMake
import PyProof.EnumFor
import PyProof.ZipIter
import PyProof.FactsAll.zip_1
import PyProof.DictIter
import PyProof.MinMaxWalk
import PyProof.Rows.TupDisplay
import PyProof.Rows.SetFrom
import PyProof.FactsAll.NoneType_1
import PyProof.StrCalls2
import PyProof.FactsAll.list_4
import PyProof.ListRange
import PySem.Challenge.RW_whistlebook_k26_questions_refused
set_option bootstrap.genMatcherCode false
set_option compiler.extract_closed false
set_option genSizeOfSpec false
open PySem.W(Frag)
open Sum(inl inr)
local macro_rules|`(⋯)=>`(by first|decide +kernel|lia|omega|walk_at "ar")
local macro_rules|`(tactic|omega)=>`(tactic|lia)
set_option hygiene false
local macro_rules|`(#[c,$a,$b])=>`(some ($a $b))|`(#[b,$a])=>`(#[c,.ref,$a])|`(#[x])=>`(List (Addr×Obj))|`(#[g,$a])=>`(if_neg $a)|`(#[j,$a])=>`(decide $a)|`(#[l,$a])=>`(if_pos $a)|`(#[W,$a])=>`(X.env.cells.lookup $a)|`(#[v,$a])=>`(["self",$a])|`(#[f,$a])=>`(#[c,.int,$a])|`(#[ah,$a,$b])=>`(Heap.get?_push_of_some $a $b)
local macro_rules|`(#[O,$a])=>`(s.heap.get? $a)|`(#[o,$a])=>`(F.okX $a ⋯ fun _ _ _ _ H _ Q E hr h=>?_)|`(#[T,$a,$b])=>`(some (.lst ($a $b)))|`(#[A,$a])=>`(#[c,.tup,$a])|`(#[Q,$a,$b])=>`([.int $a,.int $b])|`(#[ap,$a])=>`(⟨by show 0<=sizeLine;decide,$a⟩)|`(#[S,$a,$b,$c])=>`([$a,.int $b,.int $c])|`(#[X])=>`(List (Key×V))|`(#[a])=>`(List V)|`(#[aj,$a])=>`(Option.some.inj $a)
local macro_rules|`(#[ax])=>`((backTo pos (starEach es X.env)).any (·.1))|`(#[aq,$a,$b,$c])=>`($a $b $c (by intro z;cases z))|`(#[p])=>`(List Int)|`(#[ad])=>`(List (Str×V))|`(#[Z])=>`(#[v,"number"])|`(#[w,$a])=>`(#[c,.lst,$a])|`(#[d])=>`(some o)|`(#[y,$a,$b,$c])=>`($a $b=#[c,.lst,$c])|`(#[z])=>`(List Addr)|`(#[au,$a])=>`(fun z=>$a (by rw[z];simp[SAd.fp]))
local macro_rules|`(#[t,$a,$b])=>`(⟨$a,rfl,$b⟩)|`(#[D,$a])=>`(eval $a X.env)|`(#[U])=>`(List Value)|`(#[r,$a,$b,$c])=>`(Zm $a $b (Zk $c))|`(#[V])=>`(Str->Option Value)|`(#[L,$a])=>`(.inl (SqL.of $a))|`(#[G,$a,$b])=>`(Inv X pins σ $a $b)|`(#[B])=>`(List Str)|`(#[R,$a,$b,$c])=>`($a $b=#[c,.tup,$c])|`(#[C,$a])=>`(⟨$a,rfl⟩)
local macro_rules|`(#[E])=>`(List (List Int))|`(#[F])=>`(Option Int)|`(#[I,$a,$b,$c,$d])=>`(⟨$a,$b,$c,rfl,$d⟩)|`(#[J])=>`(List (Nat×Option Int))|`(#[e,$a])=>`($a (ca a))|`(#[an,$a])=>`(#[r,["self"],["self"],$a])|`(#[h])=>`(#[G,H,s])|`(#[i])=>`(CX1 P w)|`(#[k,$a,$b,$c])=>`(Fun K $a $b $c f fd)|`(#[n])=>`(Tx K mg a)
local macro_rules|`(#[aA,$a])=>`(Yb rfl ht ⋯ (Yb rfl ht ⋯ (Yb rfl ht ⋯ (Yb rfl ht ⋯ $a))))|`(#[q])=>`(Same H H')|`(#[P])=>`(SqT.of ht)|`(#[ab,$a,$b,$c,$d,$e])=>`(wpAny (model X.prog X.w) $a $b $c $d $e)|`(#[ac,$a,$b,$c,$d,$e])=>`(⟨$a,rfl,$b,$c,rfl,$d,$e⟩)|`(#[ae])=>`(List (List Row))|`(#[aD])=>`(∀ b∈ch,(b∈X.ex\/X.s₀.heap.objs.size<=b)/\b≠X.env.locals/\(∀ x c,X.env.cells.lookup x=some c->c≠b)/\∀ p∈X.pn++pins,p.1≠b)|`(#[aE,$a])=>`(∀ b∈ch,(b∈X.ex\/X.s₀.heap.get? $a=none)/\b≠X.env.locals/\(∀ x c,X.env.cells.lookup x=some c->c≠b)/\∀ p∈X.pn++pins,p.1≠b)|`(#[ar])=>`(["self","number","grade","club"])|`(#[af,$a,$b])=>`($a (K:=K) rfl (pv $b) rfl)
local macro_rules|`(#[Y,$a,$b,$c])=>`(Walk rows gs $a $b $c)|`(#[ao,$a,$b,$c])=>`(findIn $a (.ref $b) $c=some none)|`(#[aa])=>`(iteF (Zy ?_))|`(#[aw,$a,$b])=>`(∀ x o,ok x->H $a=#[d]->H' $b=#[d])|`(#[av,$a,$b,$c,$d])=>`(PySem.W.kia_one $a I.kIn $b $c (fun z=>nomatch z) $d)|`(#[H,$a])=>`(E (.ref $a) none H)|`(#[ag,$a,$b])=>`(mg $a=#[c,.ref,$b])|`(#[K])=>`(Zw ca H A S)|`(#[M,$a])=>`(Q (.ref $a) H')|`(#[N,$a,$b,$c])=>`($a _ _ ($b _ _ $c))
local macro_rules|`(#[aF,$a])=>`((a∈X.ex\/X.s₀.heap.get? $a=none)/\a≠X.env.locals/\(∀ x c,X.env.cells.lookup x=some c->c≠a)/\∀ p∈X.pn++pins,p.1≠a)|`(#[al,$a,$b])=>`(⟨$a,Zf (Zn $b),?_⟩)|`(#[as])=>`(absurd (show false=true from hs) zw8)|`(#[ay])=>`(∀ x,(∃ o,H x=some o)->ok x->ok' x)|`(#[az,$a,$b,$c,$d])=>`(⟨$a,rfl,.inl ⟨$b,rfl,$c⟩,fun z=>⟨sz1,$d⟩⟩)|`(#[ai,$a])=>`($a (Yt I q (by simp)))|`(#[ak])=>`(Ch rows gs q st e w)|`(#[am])=>`(∀ t xs,H t=#[A,xs]->H' t=#[A,xs])|`(#[aB,$a])=>`(it2 $a (fun _ z=>z) fun hn h=>⟨h.1,fun s q hs Sq=>?_⟩)|`(#[aC,$a,$b,$c,$d,$e,$f,$g,$h,$i])=>`(⟨$a,$b ($c ($d (Yg (pv $e) T.znx zn0 (hr.mono ⋯) Zj (Za (pv $f) Zd)) T.zn6 $g (hr.mono ⋯) $h)),$i⟩)
set_option hygiene true
abbrev zwq:=@List.length_map
abbrev zwr:=@List.getElem?_eq_some_iff
abbrev zws:=@List.getElem?_eq_getElem
abbrev zwt:=@List.length_append
abbrev zwu:=@List.mem_cons
abbrev zwv:=@List.mem_singleton
abbrev zww:=@List.map_append
abbrev zwx:=@List.getElem?_map
abbrev zwy:=@decide_eq_true
abbrev zwz:=@Nat.le_refl
abbrev zw0:=@List.mem_map
abbrev zw1:=@decide_eq_false
abbrev zw2:=@List.mem_append
abbrev zw3:=@List.map_cons
abbrev zw4:=@List.mem_of_getElem?
abbrev zw5:=@List.size_toArray
abbrev zw6:=@Nat.le_trans
abbrev zw7:=@Nat.lt_of_lt_of_le
abbrev zw8:=@Bool.false_ne_true
abbrev zw9:=@List.take_length
abbrev zxa:=@List.mem_cons_of_mem
abbrev zxb:=@List.length_cons
abbrev zxc:=@Int.toNat_natCast
abbrev zxd:=@List.mem_append_right
abbrev zxe:=@List.take_succ_eq_append_getElem
abbrev zxf:=@List.mem_append_left
abbrev zxg:=@beq_eq_false_iff_ne
abbrev zxh:=@List.nodup_cons
abbrev zxi:=@List.getD_eq_getElem?_getD
abbrev zxj:=@Nat.ne_of_lt
abbrev zxk:=@Nat.zero_le
abbrev zxl:=@List.mem_cons_self
abbrev zxm:=@List.not_mem_nil
abbrev zxn:=@Int.emod_lt_of_pos
abbrev zxo:=@List.length_filter_le
abbrev zxp:=@List.getElem_mem
abbrev zxq:=@List.getElem?_set_ne
abbrev zxr:=@List.lookup_cons
abbrev zxs:=@List.length_range
abbrev zxt:=@List.getElem?_set_self
abbrev zxu:=@List.mem_filter
abbrev zxv:=@Option.isSome_iff_exists
abbrev zxw:=@Int.emod_nonneg
abbrev zxx:=@List.getElem?_append_right
abbrev zxy:=@Option.map_some
abbrev zxz:=@List.mem_range
abbrev zx0:=@List.getElem?_append_left
abbrev zx1:=@List.map_map
abbrev zx2:=@List.filter_cons
abbrev zx3:=@Bool.and_eq_true
abbrev zx4:=@List.getElem_of_mem
abbrev zx5:=@List.length_take_le
abbrev zx6:=@Bool.false_eq_true
abbrev zx7:=@List.filter_cons_of_pos
abbrev zx8:=@List.filter_cons_of_neg
abbrev zx9:=@List.take_add_one
abbrev zya:=@List.map_congr_left
abbrev zyb:=@Nat.le_succ_of_le
abbrev zyc:=@Nat.lt_of_le_of_lt
abbrev zyd:=@List.filter_append
abbrev zye:=@List.length_eq_zero_iff
abbrev zyf:=@List.append_assoc
abbrev zyg:=@List.length_set
abbrev zyh:=@List.nodup_iff_pairwise_ne
abbrev zyi:=@Nat.lt_irrefl
abbrev zyj:=@List.mem_filterMap
abbrev zyk:=@List.filterMap_cons
abbrev zyl:=@List.replicate_succ
abbrev zym:=@List.mem_singleton_self
abbrev zyn:=@List.nodup_nil
abbrev zyo:=@Option.map_eq_some_iff
abbrev zyp:=@List.find?_cons
abbrev zyq:=@Int.zero_add
abbrev zyr:=@List.filter_nil
abbrev zys:=@List.any_cons
abbrev zyt:=@List.reverse_cons
abbrev zyu:=@Nat.lt_succ_of_lt
abbrev zyv:=@List.mem_of_mem_take
abbrev zyw:=@List.length_take
abbrev zyx:=@List.all_eq_true
abbrev zyy:=@Int.toNat_of_nonneg
abbrev zyz:=@Bool.eq_iff_iff
abbrev zy0:=@List.append_nil
abbrev zy1:=@Option.isSome_some
abbrev zy2:=@Nat.not_lt_zero
abbrev zy3:=@Nat.le_of_lt
set_option Elab.async false
set_option linter.all false
set_option maxRecDepth 100000
namespace L2
open PySem PySem.Spec PyProof.Rows
abbrev Key:=Sum Int Str
def Il:Key->Value->Bool
 | .inl k,v=>Value.isInt k v
 | .inr x,v=>Value.isStrOf x v
def zmp(w:World):Key->Int
 | .inl k=>hashInt k
 | .inr x=>hashStr w x
theorem Yw:∀ {k:Key} {v:Value},Il k v=true->(∃ i t,k=inl i/\v=Value.int i t)\/(∃ x t,k=inr x/\v=Value.str x t)
 | .inl i,v,h=>by
   obtain⟨t,e⟩:=Value.isInt_shape (k:=i) (v:=v) h;exact .inl ⟨i,t,rfl,e⟩
 | .inr x,v,h=>by
   obtain⟨t,e⟩:=Value.isStrOf_shape (x:=x) (v:=v) h;exact .inr ⟨x,t,rfl,e⟩
theorem zdt(i:Int)(t:Tok):Il (.inl i) (.int i t)=true:=by simp[Il,Value.isInt]
theorem zdu(x:Str)(t:Tok):Il (.inr x) (.str x t)=true:=by simp[Il,Value.isStrOf]
theorem zjm(a b:Int):#[j,(inl a:Key)=inl b]=(a == b):=by
 by_cases e:a=b
 ·subst e;simp
 ·have h:¬ (inl a:Key)=inl b:=fun q=>e (inl.inj q);rw[zw1 h];exact(zxg.mpr e).symm
theorem zjn(a b:Str):#[j,(inr a:Key)=inr b]=#[j,a=b]:=by
 by_cases e:a=b
 ·subst e;simp
 ·have h:¬ (inr a:Key)=inr b:=fun q=>e (inr.inj q);rw[zw1 h,zw1 e]
theorem zjo(a:Int)(b:Str):#[j,(inl a:Key)=inr b]=false:=zw1 (fun q=>nomatch q)
theorem zjp(a:Str)(b:Int):#[j,(inr a:Key)=inl b]=false:=zw1 (fun q=>nomatch q)
def Yn(prog:Program)(w:World):PySem.KeyKind prog w Key where
 is:=Il
 hash:=zmp w
 inj:=fun v a b ha hb=>by
  rcases Yw ha with ⟨i,t,rfl,rfl⟩|⟨x,t,rfl,rfl⟩
  ·rcases Yw hb with ⟨j,u,rfl,e⟩|⟨y,u,rfl,e⟩
   ·injection e with e1 _;rw[e1]
   ·exact nomatch e
  ·rcases Yw hb with ⟨j,u,rfl,e⟩|⟨y,u,rfl,e⟩
   ·exact nomatch e
   ·injection e with e1 _;rw[e1]
 byValue:=fun k v h=>by
  rcases Yw h with ⟨i,t,rfl,rfl⟩|⟨x,t,rfl,rfl⟩<;>rfl
 pyHash:=fun hv h=>by
  rcases Yw hv with ⟨i,t,rfl,rfl⟩|⟨x,t,rfl,rfl⟩
  ·exact wpAny_pyHash_int h
  ·exact wpAny_pyHash_str h
 eqBool:=fun hu hv h=>by
  rcases Yw hu with ⟨i,t,rfl,rfl⟩|⟨x,t,rfl,rfl⟩
  ·rcases Yw hv with ⟨j,u,rfl,rfl⟩|⟨y,u,rfl,rfl⟩
   ·rw[zjm] at h;exact wpAny_eqBool_int h
   ·rw[zjo] at h;exact SeqAt.EqAt.int_str i t y u _ _ _ _ h
  ·rcases Yw hv with ⟨j,u,rfl,rfl⟩|⟨y,u,rfl,rfl⟩
   ·rw[zjp] at h;exact SeqAt.EqAt.str_int x t j u _ _ _ _ h
   ·rw[zjn] at h;exact wpAny_eqBool_str h
 «strs»:=fun k x t v h=>by
  rcases Yw h with ⟨i,u,rfl,e⟩|⟨y,u,rfl,e⟩
  ·exact nomatch e
  ·injection e with e1 _;subst e1;cases v<;>rfl
theorem Bq(prog:Program)(w:World)(i:Int)(t:Tok):(Yn prog w).is (.inl i) (.int i t)=true:=zdt i t
theorem Br(prog:Program)(w:World)(x:Str)(t:Tok):(Yn prog w).is (.inr x) (.str x t)=true:=zdu x t
inductive V where
 | non|bl (b:Bool)|int (i:Int)|str (x:Str)|byt (b:Array UInt8)|flt (b:UInt64)|ref (a:Addr)|ty (n:String)
 deriving DecidableEq
def RelV:V->Value->Prop
 | .non,u=>u=Value.none
 | .bl b,u=>u=Value.bool b
 | .int i,u=>∃ t,u=Value.int i t
 | .str x,u=>∃ t,u=Value.str x t
 | .byt b,u=>∃ t,u=Value.bytes b t
 | .flt b,u=>∃ t,u=Value.float b t
 | .ref a,u=>u=Value.ref a
 | .ty n,u=>u=Value.type n
abbrev Vals:#[a]->#[U]->Prop:=Paired RelV
theorem Vals.length(r:Vals xs us):xs.length=us.length:=Paired.length r
theorem Vals.get:∀ {xs:List V} {us:List Value} {i:Nat} {x:V},Vals xs us->xs[i]?=some x->∃ u,us[i]?=some u/\RelV x u
 | _,_,_,_,.nil,e=>by simp at e
 | _,_,0,_,.cons r _,e=>by simp at e;subst e;exact#[t,_,r]
 | _,_,i+1,x,.cons _ t,e=>by
   obtain⟨u,h1,h2⟩:=Vals.get (i:=i) (x:=x) t (by simpa using e);exact⟨u,by simpa using h1,h2⟩
theorem Vals.set(r:RelV x u):∀ {xs:List V} {us:List Value} (i:Nat),Vals xs us->Vals (xs.set i x) (us.set i u)
 | _,_,_,.nil=>.nil
 | _,_,0,.cons _ t=>.cons r t
 | _,_,i+1,.cons q t=>.cons q (Vals.set r i t)
theorem Vals.append:∀ {xs ys:List V} {us ws:List Value},Vals xs us->Vals ys ws->Vals (xs++ys) (us++ws)
 | _,_,_,_,.nil,s=>s
 | _,_,_,_,.cons r t,s=>.cons r (Vals.append t s)
theorem Vals.take:∀ {xs:List V} {us:List Value} (n:Nat),Vals xs us->Vals (xs.take n) (us.take n)
 | _,_,0,_=>.nil
 | _,_,_+1,.nil=>.nil
 | _,_,n+1,.cons r t=>.cons r (Vals.take n t)
theorem Vals.drop:∀ {xs:List V} {us:List Value} (n:Nat),Vals xs us->Vals (xs.drop n) (us.drop n)
 | _,_,0,r=>r
 | _,_,_+1,.nil=>.nil
 | _,_,n+1,.cons _ t=>Vals.drop n t
def RelO:Option V->Option Value->Prop
 | some v,some u=>RelV v u
 | none,none=>True
 | _,_=>False
def KV{κ:Type}:List (κ×V)->List (κ×Value)->Prop:=Paired fun (p:κ×V) (q:κ×Value)=>p.1=q.1/\RelV p.2 q.2
def kV:Key->V
 | .inl i=>.int i
 | .inr x=>.str x
inductive HO where
 | lst (xs:#[a])
 | tup (xs:#[a])
 | dK (kvs:#[X])|dT (kvs:List (List Key×V))
 | set (S:Int->Bool) (n:Nat)
 | ins (C dx:Addr) (fs:#[ad])
 | own (x:Addr)
 | xd (fs:#[ad])
 | met (f x:Addr)
 | rng (lo hi:Int)
 | frz (o:Obj) (u:HO)
 | tbl (ps:Array Value)
 | ext (φ:Heap->Prop)
abbrev Hp:=Addr->Option HO
def upd(H:Hp)(a:Addr)(o:HO):Hp:=fun b=>if b=a then #[d] else H b
theorem Zc:upd H a o a=some o:=by unfold upd;rw[#[l,rfl]]
theorem Zi(h:b≠a):upd H a o b=H b:=by unfold upd;rw[#[g,h]]
theorem Ia:upd (upd H a o) a u=upd H a u:=by
 funext b;unfold upd;split<;>rfl
theorem Yz{H:Hp}{a b:Addr}{o u:HO}(h:H a=some o)(h':H b=some u)(d:o≠u):a≠b:=by
 intro e;subst e;rw[h] at h';exact d (Option.some.inj h')
theorem Zh{H:Hp}{a b:Addr}{o:HO}(h:H a=some o)(h':H b=none):a≠b:=by
 intro e;subst e;rw[h] at h';cases h'
section
variable(P:Program)(w:World)
def Y0(H:Hp)(h:Heap)(a:Addr):HO->Prop
 | .lst xs=>xs.length<=sizeLine/\∃ (its:List Value) (n:Nat),Vals xs its/\h.get? a=some { cls:=.type "list",data:=.seq its.toArray n }
 | .tup xs=>xs.length<=sizeLine/\∃ its:#[U],Vals xs its/\IsTup h a its.toArray
 | .dK kvs=>kvs.length<=sizeLine/\(a == sysModules)=false/\∃ vs,KV kvs vs/\h.DictOf (Yn P w) a vs
 | .dT kvs=>kvs.length<=sizeLine/\(a == sysModules)=false/\∃ xs:List (List Key×Addr×Value),
   Paired (fun (p:List Key×V) (q:List Key×Addr×Value)=>p.1=q.1/\H q.2.1=some (.tup (p.1.map kV))/\RelV p.2 q.2.2) kvs xs /\
   ∃ o es ep,h.get? a=#[d]/\o.ExactDict/\o.data=.dict es ep/\es.toList=xs.map (entryOfKey (tupleKind (Yn P w)))/\(xs.map (·.1)).Nodup
 | .set S n=>h.SetOf (intKind P w) a S n
 | .ins C dx fs=>H dx=#[c,.own,a]/\fs.length<=1000/\dx≠a/\h.get? a=some (PySem.W.instObj C dx) /\
   ∃ mA,h.Ns1 dx mA/\(∀ f,RelO (fs.lookup f) (mA f))/\PySem.Within mA (fs.map (·.1))
 | .own _=>∃ o,h.get? a=#[d]
 | .xd fs=>∃ mA,h.Ns1 a mA/\∀ f,RelO (fs.lookup f) (mA f)
 | .rng lo hi=>∃ t u v,h.get? a=some { cls:=.type "range",data:=.fields #[.int lo t,.int hi u,.int 1 v] }
 | .frz o u=>h.get? a=#[d]/\Y0 H h a u
 | .tbl ps=>h.get? a=some { cls:=.none,data:=.fields ps }
 | .met f x=>h.get? a=some (PySem.W.methodObj (.ref f) (.ref x))
 | .ext φ=>φ h/\(∃ o,h.get? a=#[d])/\∀ h1 h2:Heap,φ h1->(∀ o,h1.get? a=#[d]->h2.get? a=#[d])->φ h2
def HOk(H:Hp)(h:Heap):Prop:=∀ a o,H a=#[d]->Y0 P w H h a o
end
section
variable{P:Program}{w:World}{H H':Hp}{h h':Heap}{a:Addr}{o:HO}
theorem Y0.lt(x:Y0 P w H h a o):a<h.objs.size:=by
 cases o with
 | lst xs=>obtain⟨_,_,_,_,e⟩:=x;exact Heap.lt_size e
 | tup xs=>obtain⟨_,_,_,p⟩:=x;exact p.lt
 | dK kvs=>obtain⟨_,_,_,_,o,_,_,e,_⟩:=x;exact Heap.lt_size e
 | dT kvs=>obtain⟨_,_,_,_,o,_,_,e,_⟩:=x;exact Heap.lt_size e
 | set S n=>obtain⟨o,_,_,_,e,_⟩:=x;exact Heap.lt_size e
 | ins C dx fs=>obtain⟨_,_,_,e,_⟩:=x;exact Heap.lt_size e
 | own y=>obtain⟨_,e⟩:=x;exact Heap.lt_size e
 | xd fs=>obtain⟨_,⟨_,_,_,e,_⟩,_⟩:=x;exact Heap.lt_size e
 | rng lo hi=>obtain⟨_,_,_,e⟩:=x;exact Heap.lt_size e
 | frz ob u=>obtain⟨e,_⟩:=x;exact Heap.lt_size e
 | tbl ps=>exact Heap.lt_size (show h.get? a=some _ from x)
 | met f y=>exact Heap.lt_size (show h.get? a=some _ from x)
 | ext φ=>obtain⟨_,⟨_,e⟩,_⟩:=x;exact Heap.lt_size e
theorem Paired.mapP:∀ {l₁:List α} {l₂:List β},Paired F l₁ l₂->(∀ a b,F a b->G a b)->Paired G l₁ l₂
 | _,_,.nil,_=>.nil
 | _,_,.cons r t,f=>.cons (f _ _ r) (Paired.mapP t f)
theorem Y0.stay(x:Y0 P w H h a o)(k:∀ b u,(b=a\/H b=#[c,.own,a])->h.get? b=some u->h'.get? b=some u)
  (ho:∀ b,H b=#[c,.own,a]->H' b=#[c,.own,a]) (ht:∀ b xs,H b=#[A,xs]->H' b=#[A,xs]):Y0 P w H' h' a o:=by
 induction o with
 | lst xs=>obtain⟨z,its,n,r,e⟩:=x;exact⟨z,its,n,r,k _ _ (.inl rfl) e⟩
 | tup xs=>obtain⟨z,its,r,ob,e,c⟩:=x;exact⟨z,its,r,ob,k _ _ (.inl rfl) e,c⟩
 | dK kvs=>obtain⟨z,y,vs,r,ob,es,ep,e,c⟩:=x;exact⟨z,y,vs,r,ob,es,ep,k _ _ (.inl rfl) e,c⟩
 | dT kvs =>
   obtain⟨z,y,xs,r,ob,es,ep,e,c⟩:=x;exact⟨z,y,xs,Paired.mapP r fun p q z=>⟨z.1,ht _ _ z.2.1,z.2.2⟩,ob,es,ep,k _ _ (.inl rfl) e,c⟩
 | set S n=>obtain⟨ob,es,ep,t,e,c⟩:=x;exact⟨ob,es,ep,t,k _ _ (.inl rfl) e,c⟩
 | ins C dx fs =>
   obtain⟨d,z,ne,e,mA,⟨od,es,ep,e2,c⟩,r⟩:=x;exact⟨ho _ d,z,ne,k _ _ (.inl rfl) e,mA,⟨od,es,ep,k _ _ (.inr d) e2,c⟩,r⟩
 | own y=>obtain⟨ob,e⟩:=x;exact⟨ob,k _ _ (.inl rfl) e⟩
 | xd fs=>obtain⟨mA,⟨od,es,ep,e,c⟩,r⟩:=x;exact⟨mA,⟨od,es,ep,k _ _ (.inl rfl) e,c⟩,r⟩
 | rng lo hi=>obtain⟨t,u,v,e⟩:=x;exact⟨t,u,v,k _ _ (.inl rfl) e⟩
 | frz ob u ih=>obtain⟨e,q⟩:=x;exact⟨k _ _ (.inl rfl) e,ih q⟩
 | tbl ps =>
   have e:h.get? a=some { cls:=.none,data:=.fields ps }:=x;show h'.get? a=some { cls:=.none,data:=.fields ps };exact k a _ (.inl rfl) e
 | met f y =>
   have e:h.get? a=some (PySem.W.methodObj (.ref f) (.ref y)):=x;show h'.get? a=some (PySem.W.methodObj (.ref f) (.ref y));exact k a _ (.inl rfl) e
 | ext φ=>obtain⟨p,⟨o,e⟩,st⟩:=x;exact⟨st _ _ p fun o q=>k _ _ (.inl rfl) q,⟨o,k _ _ (.inl rfl) e⟩,st⟩
theorem HOk.lt(x:HOk P w H h)(e:H a=some o):a<h.objs.size:=(x a o e).lt
theorem HOk.fresh(x:HOk P w H h)(e:h.objs.size<=a):H a=none:=by
 cases q:H a with
 | none=>rfl
 | some u=>exact absurd (zw7 (x.lt q) e) (zyi _)
theorem HOk.kept(x:HOk P w H h)(k:∀ b u,h.get? b=some u->h'.get? b=some u):HOk P w H h':=fun a o e =>
 (x a o e).stay (fun b u _ q=>k b u q) (fun _ q=>q) fun _ _ q=>q
theorem HOk.laid(x:HOk P w H h)(k:∀ b u,h.get? b=some u->h'.get? b=some u)(hp:h.objs.size<=a)(new:Y0 P w (upd H a o) h' a o):HOk P w (upd H a o) h':=fun b u e=>by
 have hn:=x.fresh hp;by_cases hb:b=a
 ·subst hb;rw[Zc] at e;cases e;exact new
 ·rw[Zi hb] at e;exact(x b u e).stay (fun c v _ q=>k c v q) (fun c q=>by rw[Zi (Zh q hn)];exact q) fun c xs q=>by rw[Zi (Zh q hn)];exact q
end
def Rd(H:Hp)(a:Addr)(u:HO):Prop:=H a=some u\/∃ o,H a=some (.frz o u)
theorem Rd.ok(r:Rd H a u)(x:HOk P w H h):Y0 P w H h a u:=by
 rcases r with r|⟨o,r⟩
 ·exact x a u r
 ·obtain⟨_,q⟩:=x a _ r;exact q
def Mut:Option HO->Prop
 | some (.lst _)=>True
 | some (.dK _)=>True
 | some (.dT _)=>True
 | some (.set _ _)=>True
 | some (.ins _ _ _)=>True
 | some (.ext _)=>True
 | _=>False
section
variable{P:Program}{w:World}{H:Hp}{h h':Heap}{x e:Addr}{o':HO}
theorem HOk.write(ok:HOk P w H h)(mu:Mut (H x))(he:e=x\/H e=#[c,.own,x])(k:∀ b u,b≠e->h.get? b=some u->h'.get? b=some u)(heo:∃ u,h'.get? e=some u)
  (new:Y0 P w (upd H x o') h' x o'):HOk P w (upd H x o') h':=fun b u q=>by
 have nown:∀ c y,H c=#[c,.own,y]->c≠x:=fun c y r z=>by subst z;rw[r] at mu;exact mu
 have ntup:∀ c xs,H c=#[A,xs]->c≠x:=fun c xs r z=>by subst z;rw[r] at mu;exact mu
 by_cases hb:b=x
 ·subst hb;rw[Zc] at q;cases q;exact new
 ·rw[Zi hb] at q;by_cases hbe:b=e
  ·have q':H b=#[c,.own,x]:=by
    rcases he with z|z
    ·exact absurd (hbe.trans z) hb
    ·rw[hbe];exact z
   rw[q] at q';cases q';obtain⟨v,hv⟩:=heo;exact⟨v,by rw[hbe];exact hv⟩
  ·refine(ok b u q).stay (fun c v hc r=>k c v ?_ r) (fun c r=>by rw[Zi (nown c b r)];exact r) fun c xs r=>by rw[Zi (ntup c xs r)];exact r
   rcases hc with rfl|hc
   ·exact hbe
   ·rintro rfl;rcases he with z|z
    ·exact nown c b hc z
    ·rw[hc] at z;cases z;exact hb rfl
end
structure Un(fs ex:#[z])(H H':Hp)(h h':Heap):Prop where
 keep:∀ b o,h.get? b=#[d]->H b=none->b∉fs->b∉ex->h'.get? b=#[d]
 slot:∀ b o,h.get? b=#[d]->H b=none->b∈fs->b∉ex->∃ sl,h'.get? b=some { o with slots:=sl }
 free:∀ b o,h.get? b=#[d]->H b=none->b∉ex->H' b=none
 there:∀ b o,h.get? b=#[d]->b∉ex->∃ o',h'.get? b=some o'
 tups:∀ b xs,H b=#[A,xs]->H' b=#[A,xs]
 frzs:∀ b o u,H b=some (.frz o u)->H' b=some (.frz o u)
 tbls:∀ b ps,H b=#[c,.tbl,ps]->∃ more,H' b=#[c,.tbl,ps++more]
section
variable{fs fs' ex ex':#[z]}{H H1 H2:Hp}{h h1 h2 h':Heap}{a x e:Addr}{o:HO}
theorem Un.any(u:Un fs ex H H1 h h1)(q:h.get? b=some ob)(n:H b=none)(hx:b∉ex):∃ sl,h1.get? b=some { ob with slots:=sl }:=by
 by_cases hb:b∈fs
 ·exact u.slot b ob q n hb hx
 ·exact⟨ob.slots,u.keep b ob q n hb hx⟩
theorem Un.kept(k:∀ b u,h.get? b=some u->h'.get? b=some u):Un fs ex H H h h' :=
 ⟨fun b ob q _ _ _=>k b ob q,fun b ob q _ _ _=>⟨ob.slots,k b ob q⟩,fun _ _ _ n _=>n,fun b ob q _=>⟨ob,k b ob q⟩,fun _ _ q=>q,fun _ _ _ q=>q,fun _ ps q=>⟨#[],by rw[q];simp⟩⟩
theorem Un.refl:Un fs ex H H h h:=Un.kept fun _ _ q=>q
theorem Un.laid(k:∀ b u,h.get? b=some u->h'.get? b=some u)(hp:h.objs.size<=a)(hn:H a=none):Un fs ex H (upd H a o) h h' where
 keep:=fun b u q _ _ _=>k b u q
 slot:=fun b u q _ _ _=>⟨u.slots,k b u q⟩
 free:=fun b u q n _=>by rw[Zi (zxj (zw7 (Heap.lt_size q) hp))];exact n
 there:=fun b u q _=>⟨u,k b u q⟩
 tups:=fun b xs q=>by rw[Zi (Zh q hn)];exact q
 frzs:=fun b u xs q=>by rw[Zi (Zh q hn)];exact q
 tbls:=fun b ps q=>⟨#[],by rw[Zi (Zh q hn),q];simp⟩
theorem Un.write(mu:Mut (H x))(he:e=x\/H e=#[c,.own,x])(k:∀ b u,b≠e->h.get? b=some u->h'.get? b=some u)(heo:∃ u,h'.get? e=some u):Un fs ex H (upd H x o) h h':=by
 have hx:∀ b,H b=none->b≠x:=fun b n z=>by subst z;rw[n] at mu;exact mu
 have hb:∀ b,H b=none->b≠e:=fun b n z=>by
  subst z;rcases he with r|r
  ·exact hx b n r
  ·rw[n] at r;cases r
 have hm:∀ b u,H b=some u->¬ Mut (some u)->b≠x:=fun b u q nm z=>by subst z;rw[q] at mu;exact nm mu
 refine⟨fun b u q n _ _=>k b u (hb b n) q,fun b u q n _ _=>⟨u.slots,k b u (hb b n) q⟩,fun b u q n _=>by rw[Zi (hx b n)];exact n,fun b u q _=>?_,
  fun b xs q=>by rw[Zi (hm b _ q fun z=>z)];exact q,fun b u xs q=>by rw[Zi (hm b _ q fun z=>z)];exact q,fun b ps q=>⟨#[],by rw[Zi (hm b _ q fun z=>z),q];simp⟩⟩
 by_cases hbe:b=e
 ·subst hbe;exact heo
 ·exact⟨u,k b u hbe q⟩
end
def trk(h:Heap)(H:Hp):#[z]:=(List.range h.objs.size).filter fun a=>(H a).isSome
def Ca(h:Heap)(H:Hp):Heap:=PySem.W.hideAll h (trk h H)
theorem zdv(h:Heap)(H:Hp):(Ca h H).objs.size=h.objs.size:=PySem.W.hideAll_size _ _
theorem zfl(e:h.get? b=some o)(n:H b=none):(Ca h H).get? b=some o :=
 PySem.W.hideAll_get _ e fun hm=>by
  have q:(H b).isSome=true:=(zxu.mp hm).2;rw[n] at q;simp at q
theorem zh0(e:(Ca h H).get? b=some o):h.get? b=#[d]/\H b=none:=by
 have e':h.get? b=some o:=PySem.W.of_hideAll (trk h H) e;refine⟨e',?_⟩;cases q:H b with
 | none=>rfl
 | some x =>
   have hm:b∈trk h H:=zxu.mpr ⟨zxz.mpr (Heap.lt_size e'),by simp[q]⟩;have z:(Ca h H).get? b=none:=PySem.W.hideAll_none (trk h H) hm;rw[z] at e;cases e
structure Mod(K:Frag)(mg:#[V])(base:Heap):Prop where
 kin:K.In base
 glob:base.Ns mainGlobals mg
 blt:∃ mb,base.Ns builtinsNs mb/\∀ x:Str,x≠"__name__"->mb x=bootBuiltins x
 nolimit:base.NoLimit
structure Cx where
 prog:Program
 w:World
 K:Frag
 mg:#[V]
 base:Heap
 A:Around
 N:#[B]
 s₀:Shared
 H₀:Hp
 env:Env
 outer:List Env
 stack:List Env
 ex:#[z]
 fn:Str->Bool
 calm:Bool
 pn:#[x]
 xe:Value->Shared->Prop
 lk:List (Option V):=[]
def frs(l:List Env):#[z]:=l.filterMap (·.frame)
abbrev Cx.fs(X:Cx):#[z]:=frs X.outer
def Vis(sc:Scope)(x:Str):Prop:=sc.names.lookup x=some .local\/sc.names.lookup x=some .cell\/sc.names.lookup x=some .free
def Loc(sc:Scope)(x:Str):Prop:=sc.names.lookup x=some .local\/sc.names.lookup x=some .cell
def Look(env:Env)(h:Heap)(m:#[V])(x:Str)(u:Value):Prop :=
 (env.kindOf x=some .local/\m x=some u)\/((env.kindOf x=some .cell\/env.kindOf x=some .free)/\∃ c,env.cells.lookup x=some c/\h.IsCell c (some u))
structure Cx.Ok(X:Cx):Prop where
 mod:Mod X.K X.mg X.base
 kind:X.env.scope.kind=.function
 glob:X.env.globals=mainGlobals
 blt:X.env.builtins=builtinsNs
 above:X.s₀.heap.objs.size<=X.env.locals
 inj:∀ x y c,#[W,x]=some c->#[W,y]=some c->x=y
 has:∀ x,(X.env.kindOf x=some .cell\/X.env.kindOf x=some .free)->∃ c,#[W,x]=some c
 cab:∀ x c,X.fn x=true->#[W,x]=some c->X.s₀.heap.objs.size<=c
 hd:X.calm=true->X.A.handled=none
 frames:X.A.frames=some X.stack
 stk:X.stack=X.outer\/(X.stack=X.env :: X.outer/\X.env.frame=some X.env.locals)
 exf:∀ b∈X.ex,b≠X.env.locals/\∀ x c,#[W,x]=some c->c≠b
 bs:∀ b o,X.base.get? b=#[d]->X.s₀.heap.get? b=#[d]/\X.H₀ b=none
 bsz:X.base.objs.size<=X.s₀.heap.objs.size
 noex:∀ b o,X.base.get? b=#[d]->b∉X.ex
 exfs:∀ b∈X.ex,b∉X.fs
 funs:X.s₀.heap.FunFrames X.base X.outer
 frf:∀ b∈X.fs,X.H₀ b=none
structure Inv(X:Cx)(pins:#[x])(σ:List (Option V))(H:Hp)(s:Shared):Prop where
 ok:X.Ok
 os:s.os=X.s₀.os
 bare:AllBare s.gens
 base:Un X.fs X.ex X.H₀ H X.s₀.heap s.heap
 loc:∃ m,s.heap.Ns X.env.locals m/\∀ (i:Nat) (x:Str) (v:V),X.N[i]?=some x->(σ[i]?=#[c,some,v]\/X.lk[i]?=#[c,some,v])->Vis X.env.scope x->∃ u,RelV v u/\Look X.env s.heap m x u
 cell:∀ x c,#[W,x]=some c->∃ v,s.heap.IsCell c v
 free:H X.env.locals=none
 freeC:∀ x c,#[W,x]=some c->H c=none
 pin:∀ p∈X.pn++pins,#[O,p.1]=some p.2/\H p.1=none/\p.1≠X.env.locals/\p.1∉X.fs/\∀ v,p.2.data≠.cell v
 hok:HOk X.prog X.w H s.heap
 len:σ.length=X.N.length
section
variable{X:Cx}{pins:#[x]}{σ:List (Option V)}{H H':Hp}{s:Shared}{h':Heap}
theorem Cx.Ok.nofr(ok:X.Ok)(e:X.base.get? b=some o):b∉X.fs:=fun hb=>by
 have:=(ok.funs.mem hb).1;rw[e] at this;cases this
theorem Inv.bs(I:#[h]):∀ b o,X.base.get? b=#[d]->#[O,b]=#[d]/\H b=none:=fun b o e =>
 ⟨I.base.keep b o (I.ok.bs b o e).1 (I.ok.bs b o e).2 (I.ok.nofr e) (I.ok.noex b o e),I.base.free b o (I.ok.bs b o e).1 (I.ok.bs b o e).2 (I.ok.noex b o e)⟩
theorem Inv.bk(I:#[h]):∀ b o,X.base.get? b=#[d]->#[O,b]=#[d]:=fun b o e=>(I.bs b o e).1
theorem Inv.mod(I:#[h]):Mod X.K X.mg X.base:=I.ok.mod
theorem Inv.kIn(I:#[h]):X.K.In s.heap:=I.ok.mod.kin.keeps I.bk
theorem Inv.lt(I:#[h]):X.env.locals<s.heap.objs.size:=let ⟨_,hn,_⟩:=I.loc;hn.lt
theorem Inv.sz(I:#[h]):X.s₀.heap.objs.size<=s.heap.objs.size:=zw6 I.ok.above (zy3 I.lt)
theorem Inv.nofs(I:#[h])(h:s.heap.objs.size<=a):a∉X.fs:=fun hb=>by
 obtain⟨_,o,ho,_⟩:=I.ok.funs.mem hb;exact absurd (zw7 (Heap.lt_size ho) (zw6 I.sz h)) (zyi _)
theorem Inv.cne(I:#[h]):∀ x c,#[W,x]=some c->c≠X.env.locals:=fun x c e z=>by
 obtain⟨v,o,ho,hd⟩:=I.cell x c e;obtain⟨m,⟨o',es,ep,ho',hd',_⟩,_⟩:=I.loc;rw[z,ho'] at ho;cases ho;rw[hd'] at hd;cases hd
theorem Inv.funs(I:#[h]):s.heap.FunFrames X.base X.outer:=by
 have all:∀ (l:List Env),(∀ b∈frs l,b∈X.fs)->X.s₀.heap.FunFrames X.base l->s.heap.FunFrames X.base l:=by
  intro l
  induction l with
  | nil=>intro _ _;trivial
  | cons env r ih =>
    intro hs hl;obtain⟨hk,⟨L,o,hf,hn,ho,hd⟩,hr⟩:=hl;have hL:L∈X.fs:=hs L (by unfold frs;rw[zyk,hf];exact zxl);obtain⟨sl,e⟩:=I.base.slot L o ho (I.ok.frf L hL) hL fun z=>I.ok.exfs L z hL;exact⟨hk,⟨L,_,hf,hn,e,hd⟩,ih (fun b hb=>hs b (by unfold frs;rw[zyk,hf];exact zxa _ hb)) hr⟩
 exact all X.outer (fun _ hb=>hb) I.ok.funs
theorem Inv.stack(I:#[h]):s.heap.FunFrames X.base X.stack:=by
 rcases I.ok.stk with e|⟨e,hf⟩
 ·rw[e];exact I.funs
 ·rw[e];obtain⟨m,hn,_⟩:=I.loc;refine .cons (by rw[I.ok.kind];decide) hf hn ?_ I.funs;exact Heap.get?_none_of_le (zw6 I.ok.bsz I.ok.above)
theorem Inv.stkSub(I:#[h]):∀ b∈frs X.stack,b∈X.env.locals :: X.fs:=fun b hb=>by
 rcases I.ok.stk with e|⟨e,hf⟩
 ·rw[e] at hb;exact zxa _ hb
 ·rw[e] at hb;unfold frs at hb;rw[zyk,hf] at hb;exact hb
theorem Inv.stkFree(I:#[h]):∀ b∈frs X.stack,H b=none:=fun b hb=>by
 rcases zwu.mp (I.stkSub b hb) with e|hb
 ·rw[e];exact I.free
 ·obtain⟨_,o,ho,_⟩:=I.ok.funs.mem hb;exact I.base.free b o ho (I.ok.frf b hb) fun z=>I.ok.exfs b z hb
theorem Inv.step{g':Array GenState}{t':Nat}{d':Drawn}{ch:#[z]}(I:#[h])
  (hch:#[aD])
  (keep:∀ b o,b≠X.env.locals->b∉X.fs->b∉ch->#[O,b]=#[d]->H b=none->h'.get? b=#[d])
  (slot:∀ b o,b≠X.env.locals->b∈X.fs->b∉ch->#[O,b]=#[d]->H b=none->∃ sl,h'.get? b=some { o with slots:=sl }) (free:∀ b o,b∉ch->#[O,b]=#[d]->H b=none->H' b=none)
  (there:∀ b o,b∉ch->#[O,b]=#[d]->∃ o',h'.get? b=some o')
  (tups:∀ b xs,H b=#[A,xs]->H' b=#[A,xs]) (frzs:∀ b o u,H b=some (.frz o u)->H' b=some (.frz o u)) (tbls:∀ b ps,H b=#[c,.tbl,ps]->∃ more,H' b=#[c,.tbl,ps++more])
  (ns:∀ m,s.heap.Ns X.env.locals m->h'.Ns X.env.locals m) (hok:HOk X.prog X.w H' h') (hg:AllBare g') :
  Inv X pins σ H' { s with heap:=h',gens:=g',drawn:=d',toks:=t' }:=by
 have neL:∀ b o,X.s₀.heap.get? b=#[d]->b≠X.env.locals:=fun b o e=>zxj (zw7 (Heap.lt_size e) I.ok.above);have neC:∀ b o,X.s₀.heap.get? b=#[d]->b∉X.ex->b∉ch:=fun b o e hx hb=>by
  rcases(hch b hb).1 with z|z
  ·exact hx z
  ·exact absurd (zw7 (Heap.lt_size e) z) (zyi _)
 have cellK:∀ x c,#[W,x]=some c->∀ v,s.heap.IsCell c v->h'.IsCell c v:=fun x c e v ⟨o,ho,hd⟩=>by
  have nch:c∉ch:=fun z=>(hch c z).2.2.1 x c e rfl;by_cases hc:c∈X.fs
  ·obtain⟨sl,q⟩:=slot c o (I.cne x c e) hc nch ho (I.freeC x c e);exact⟨_,q,hd⟩
  ·exact⟨o,keep c o (I.cne x c e) hc nch ho (I.freeC x c e),hd⟩
 refine⟨I.ok,I.os,hg,⟨fun b o e n hb hx=>?_,fun b o e n hb hx=>?_,fun b o e n hx=>?_,fun b o e hx=>?_,fun b xs e=>tups b xs (I.base.tups b xs e),fun b o xs e=>frzs b o xs (I.base.frzs b o xs e),fun b ps e=>?_⟩,?_,fun x c e=>?_,?_,fun x c e=>?_,fun p hp=>?_,hok,I.len⟩
 ·exact keep b o (neL b o e) hb (neC b o e hx) (I.base.keep b o e n hb hx) (I.base.free b o e n hx)
 ·obtain⟨sl,e1⟩:=I.base.slot b o e n hb hx;obtain⟨sl',e2⟩:=slot b _ (neL b o e) hb (neC b o e hx) e1 (I.base.free b o e n hx);exact⟨sl',e2⟩
 ·obtain⟨o',e1⟩:=I.base.there b o e hx;exact free b o' (neC b o e hx) e1 (I.base.free b o e n hx)
 ·obtain⟨o',e1⟩:=I.base.there b o e hx;exact there b o' (neC b o e hx) e1
 ·obtain⟨m1,e1⟩:=I.base.tbls b ps e;obtain⟨m2,e2⟩:=tbls b _ e1;exact⟨m1++m2,by rw[e2,Array.append_assoc]⟩
 ·obtain⟨m,hn,hl⟩:=I.loc;refine⟨m,ns m hn,fun i x v e1 e2 e3=>?_⟩;obtain⟨u,r,l⟩:=hl i x v e1 e2 e3;refine⟨u,r,?_⟩;rcases l with l|⟨k,c,e,z⟩
  ·exact .inl l
  ·exact .inr ⟨k,c,e,cellK x c e _ z⟩
 ·obtain⟨v,z⟩:=I.cell x c e;exact⟨v,cellK x c e v z⟩
 ·obtain⟨m,⟨o,_,_,ho,_⟩,_⟩:=I.loc;exact free _ o (fun z=>(hch _ z).2.1 rfl) ho I.free
 ·obtain⟨v,o,ho,hd⟩:=I.cell x c e;exact free c o (fun z=>(hch c z).2.2.1 x c e rfl) ho (I.freeC x c e)
 ·obtain⟨e,n,ne,nf,d⟩:=I.pin p hp;have nch:p.1∉ch:=fun z=>(hch p.1 z).2.2.2 p hp rfl;exact⟨keep p.1 p.2 ne nf nch e n,free p.1 p.2 nch e n,ne,nf,d⟩
theorem Inv.un{t':Nat}(I:#[h])(u:Un X.fs [] H H' s.heap h')(hok:HOk X.prog X.w H' h'):#[G,H',{ s with heap:=h',toks:=t' }]:=by
 obtain⟨m,⟨o,es,ep,ho,r⟩,_⟩:=id I.loc;obtain⟨sl,hL⟩:=u.any ho I.free (by simp);exact I.step (g':=s.gens) (d':=s.drawn) (ch:=[]) (fun _ z=>nomatch z) (fun b o _ hb _ e n=>u.keep b o e n hb (by simp)) (fun b o _ hb _ e n=>u.slot b o e n hb (by simp)) (fun b o _ e n=>u.free b o e n (by simp)) (fun b o _ e=>u.there b o e (by simp)) u.tups u.frzs u.tbls (fun m' hm=>by
  obtain⟨o',es',ep',ho',r'⟩:=hm;rw[ho] at ho';cases ho';exact⟨_,es',ep',hL,r'⟩) hok I.bare
theorem Inv.call{g':Array GenState}{t':Nat}{d':Drawn}{ch:#[z]}(I:#[h])(u:Un (frs X.stack) ch H H' s.heap h')(hok:HOk X.prog X.w H' h')(hg:AllBare g')
  (hch:#[aD]) :
  Inv X pins σ H' { s with heap:=h',gens:=g',drawn:=d',toks:=t' }:=by
 obtain⟨m,⟨o,es,ep,ho,r⟩,_⟩:=id I.loc;obtain⟨sl,hL⟩:=u.any ho I.free fun z=>(hch _ z).2.1 rfl;exact I.step (ch:=ch) hch (fun b o hL hb hc e n=>u.keep b o e n (fun z=>(zwu.mp (I.stkSub b z)).elim hL hb) hc) (fun b o _ _ hc e n=>u.any e n hc) (fun b o hc e n=>u.free b o e n hc) (fun b o hc e=>u.there b o e hc) u.tups u.frzs u.tbls (fun m' hm=>by
  obtain⟨o',es',ep',ho',r'⟩:=hm;rw[ho] at ho';cases ho';exact⟨_,es',ep',hL,r'⟩) hok hg
theorem Inv.turned{t':Nat}{it:Addr}(I:#[h])(k:∀ b o,b≠it->#[O,b]=#[d]->h'.get? b=#[d])(hn:H it=none)(hL:it≠X.env.locals)
  (h1:it∈X.ex\/X.s₀.heap.objs.size<=it) (h2:∀ x c,#[W,x]=some c->c≠it) (h3:∀ p∈X.pn++pins,p.1≠it):#[G,H,{ s with heap:=h',toks:=t' }]:=by
 have nit:∀ b u,H b=some u->b≠it:=fun b u e z=>by rw[z,hn] at e;cases e
 refine I.step (g':=s.gens) (d':=s.drawn) (ch:=[it]) (fun b hb=>?_) (fun b o _ _ hc e _=>k b o (fun z=>hc (by simp[z])) e) (fun b o _ _ hc e _=>⟨o.slots,k b o (fun z=>hc (by simp[z])) e⟩) (fun _ _ _ _ n=>n)
  (fun b o hc e=>⟨o,k b o (fun z=>hc (by simp[z])) e⟩) (fun _ _ e=>e) (fun _ _ _ e=>e) (fun b ps e=>⟨#[],by rw[e];simp⟩) (fun m hm=>?_) (fun b u e=>?_) I.bare
 ·have e:b=it:=by simpa using hb
  subst e;exact⟨h1,hL,h2,h3⟩
 ·obtain⟨o,es,ep,ho,r⟩:=hm;exact⟨o,es,ep,k _ o (Ne.symm hL) ho,r⟩
 ·refine(I.hok b u e).stay (fun c v hc q=>k c v ?_ q) (fun _ q=>q) fun _ _ q=>q;rcases hc with z|z
  ·rw[z];exact nit b u e
  ·exact nit c _ z
theorem Inv.tok(I:#[h])(t:Nat):#[G,H,{ s with toks:=t }]:=I.un (h':=s.heap) (t':=t) Un.refl I.hok
theorem Inv.kept(I:#[h])(k:∀ b u,#[O,b]=some u->h'.get? b=some u):#[G,H,{ s with heap:=h',toks:=t' }]:=I.un (Un.kept k) (I.hok.kept k)
theorem Inv.laid(I:#[h])(k:∀ b u,#[O,b]=some u->h'.get? b=some u)(hp:s.heap.objs.size<=a)(new:Y0 X.prog X.w (upd H a o) h' a o) :
  Inv X pins σ (upd H a o) { s with heap:=h',toks:=t' }:=I.un (Un.laid k hp (I.hok.fresh hp)) (I.hok.laid k hp new)
theorem Inv.write(I:#[h])(mu:Mut (H x))(he:e=x\/H e=#[c,.own,x])(k:∀ b u,b≠e->#[O,b]=some u->h'.get? b=some u)(heo:∃ u,h'.get? e=some u)
  (new:Y0 X.prog X.w (upd H x o) h' x o):#[G,upd H x o,{ s with heap:=h',toks:=t' }]:=I.un (Un.write mu he k heo) (I.hok.write mu he k heo new)
theorem Inv.weak(I:#[h])(hl:σ'.length=σ.length)(w:∀ (i:Nat) v,σ'[i]?=#[c,some,v]->σ[i]?=#[c,some,v]):Inv X pins σ' H s :=
 ⟨I.ok,I.os,I.bare,I.base,let ⟨m,hn,hl'⟩:=I.loc;⟨m,hn,fun i x v e1 e2 e3=>hl' i x v e1 (e2.imp_left (w i v)) e3⟩,I.cell,I.free,I.freeC,I.pin,I.hok,hl.trans I.len⟩
theorem Inv.pins_of(I:#[h])(h:∀ p∈pins',#[O,p.1]=some p.2/\H p.1=none/\p.1≠X.env.locals/\p.1∉X.fs/\∀ v,p.2.data≠.cell v):Inv X pins' σ H s :=
 ⟨I.ok,I.os,I.bare,I.base,I.loc,I.cell,I.free,I.freeC,fun p hp=>(zw2.mp hp).elim (fun z=>I.pin p (zxf _ z)) (h p),I.hok,I.len⟩
theorem Im{N:#[B]}(hN:N.Nodup){i j:Nat}{x:Str}(a:N[i]?=some x)(b:N[j]?=some x):i=j:=by
 obtain⟨h1,e1⟩:=zwr.mp a;obtain⟨h2,e2⟩:=zwr.mp b;exact(List.getElem_inj hN).mp (e1.trans e2.symm)
def za5(X:Cx)(i:Nat)(x:Str):Prop:=(X.fn x=true\/X.env.scope.names.lookup x=some .local)/\∀ v,X.lk[i]?≠#[c,some,v]
theorem Wb{i:Nat}:∀ v:V,([]:List (Option V))[i]?≠some (some v):=fun _ h=>by simp at h
theorem E2{M:Model}{A:Around}{E:Value->Shared->Prop}{i:Nat}{x:Str}{v:V}{u:Value}{Q:Unit->Shared->Prop}(I:#[h])(hN:X.N.Nodup)(hi:X.N[i]?=some x)(hx:Loc X.env.scope x)(r:RelV v u)
  (h:∀ s',Inv X pins (σ.set i (some v)) H s'->(∃ a,Heap.SameBut a s.heap s'.heap/\(a=X.env.locals\/X.env.cells.lookup x=some a))->Q () s') (hf:za5 X i x:=by first|exact⟨.inl rfl,Wb⟩|exact⟨.inr rfl,Wb⟩|assumption|exact⟨.inl rfl,by assumption⟩|exact⟨.inr rfl,by assumption⟩):wpAny M A (storeName X.env x u) Q E s:=by
 obtain⟨m,hn,hl⟩:=id I.loc;have hcls:(X.env.scope.kind == .class||(X.env.scope.kind == .module&&X.env.locals != X.env.globals))=false:=by rw[I.ok.kind];rfl
 have hiσ:i<σ.length:=by rw[I.len];exact(zwr.mp hi).1
 have cne:=I.cne;have tracked:∀ {a:Addr} {h':Heap},(∃ o,s.heap.get? a=some o/\H a=none)->Heap.SameBut a s.heap h'->HOk X.prog X.w H h':=fun {a h'} ha hs b ob e=>by
  obtain⟨_,_,hfree⟩:=ha;refine(I.hok b ob e).stay (fun c w' hc q=>(hs.2 c ?_).trans q) (fun _ q=>q) fun _ _ q=>q;rintro rfl;rcases hc with rfl|hc
  ·rw[hfree] at e;cases e
  ·rw[hfree] at hc;cases hc
 rcases hx with hk|hk
 ·refine wpAny_storeName_local hk hn (fun h' hn' hs=>?_) hcls;obtain⟨oL,_,_,hoL,_⟩:=id hn;refine h _ ⟨I.ok,I.os,I.bare,⟨fun b o e n hb hx=>?_,fun b o e n hb hx=>?_,I.base.free,fun b o e hx=>?_,I.base.tups,I.base.frzs,I.base.tbls⟩,⟨_,hn',fun j y v' e1 e2 e3=>?_⟩,fun y c e=>?_,I.free,I.freeC,fun p hp=>?_,tracked ⟨oL,hoL,I.free⟩ hs,by simpa using I.len⟩ ⟨_,hs,.inl rfl⟩
  ·exact(hs.2 b (zxj (zw7 (Heap.lt_size e) I.ok.above))).trans (I.base.keep b o e n hb hx)
  ·obtain⟨sl,e1⟩:=I.base.slot b o e n hb hx;exact⟨sl,(hs.2 b (zxj (zw7 (Heap.lt_size e) I.ok.above))).trans e1⟩
  ·obtain⟨o',e1⟩:=I.base.there b o e hx;exact⟨o',(hs.2 b (zxj (zw7 (Heap.lt_size e) I.ok.above))).trans e1⟩
  ·by_cases hj:j=i
   ·subst hj;rw[hi] at e1;cases e1;rcases e2 with e2|e2
    case' inr=>exact absurd e2 (hf.2 _)
    rw[zxt hiσ] at e2;cases e2;exact⟨u,r,.inl ⟨hk,by simp⟩⟩
   ·have e2:σ[j]?=#[c,some,v']\/X.lk[j]?=#[c,some,v']:=e2.imp_left fun z=>by rw[zxq (Ne.symm hj)] at z;exact z
    obtain⟨u',r',q⟩:=hl j y v' e1 e2 e3;refine⟨u',r',?_⟩;rcases q with ⟨k,e⟩|⟨k,c,e,z⟩
    ·refine .inl ⟨k,?_⟩;have:y≠x:=fun e=>hj (Im hN e1 (e▸hi));simp[this,e]
    ·exact .inr ⟨k,c,e,z.sameBut hs (cne y c e)⟩
  ·obtain⟨w',z⟩:=I.cell y c e;exact⟨w',z.sameBut hs (cne y c e)⟩
  ·obtain⟨e,n,ne,nf,d⟩:=I.pin p hp;exact⟨(hs.2 p.1 ne).trans e,n,ne,nf,d⟩
 ·have hfn:X.fn x=true:=by
   rcases hf.1 with z|z
   ·exact z
   ·rw[z] at hk;cases hk
  obtain⟨c,hc⟩:=I.ok.has x (.inl hk);obtain⟨w',z⟩:=I.cell x c hc;refine wpAny_storeName_cell I.ok.kind hk hc z fun h' hc' hs=>?_;obtain⟨oc,hoc,hocd⟩:=id z;refine h { s with heap:=h' } ⟨I.ok,I.os,I.bare,⟨fun b o e n hb hx=>?_,fun b o e n hb hx=>?_,I.base.free,fun b o e hx=>?_,I.base.tups,I.base.frzs,I.base.tbls⟩,⟨m,hn.sameBut hs (Ne.symm (cne x c hc)),fun j y v' e1 e2 e3=>?_⟩,fun y c' e=>?_,I.free,I.freeC,fun p hp=>?_,tracked ⟨oc,hoc,I.freeC x c hc⟩ hs,by simpa using I.len⟩ ⟨c,hs,.inr hc⟩
  ·exact(hs.2 b (zxj (zw7 (Heap.lt_size e) (I.ok.cab x c hfn hc)))).trans (I.base.keep b o e n hb hx)
  ·obtain⟨sl,e1⟩:=I.base.slot b o e n hb hx;exact⟨sl,(hs.2 b (zxj (zw7 (Heap.lt_size e) (I.ok.cab x c hfn hc)))).trans e1⟩
  ·obtain⟨o',e1⟩:=I.base.there b o e hx;exact⟨o',(hs.2 b (zxj (zw7 (Heap.lt_size e) (I.ok.cab x c hfn hc)))).trans e1⟩
  ·by_cases hj:j=i
   ·subst hj;rw[hi] at e1;cases e1;rcases e2 with e2|e2
    case' inr=>exact absurd e2 (hf.2 _)
    rw[zxt hiσ] at e2;cases e2;exact⟨u,r,.inr ⟨.inl hk,c,hc,hc'⟩⟩
   ·have e2:σ[j]?=#[c,some,v']\/X.lk[j]?=#[c,some,v']:=e2.imp_left fun z=>by rw[zxq (Ne.symm hj)] at z;exact z
    obtain⟨u',r',q⟩:=hl j y v' e1 e2 e3;refine⟨u',r',?_⟩;rcases q with q|⟨k,c',e,z'⟩
    ·exact .inl q
    ·refine .inr ⟨k,c',e,z'.sameBut hs ?_⟩;rintro rfl;exact hj (Im hN e1 (I.ok.inj _ _ _ e hc▸hi))
  ·by_cases hcc:c'=c
   ·subst hcc;exact⟨_,hc'⟩
   ·obtain⟨w2,z2⟩:=I.cell y c' e;exact⟨w2,z2.sameBut hs hcc⟩
  ·obtain⟨e,n,ne,nf,d⟩:=I.pin p hp;refine⟨(hs.2 p.1 ?_).trans e,n,ne,nf,d⟩;intro q;rw[q,hoc] at e;have q':oc=p.2:=#[aj,e];exact d w' (by rw[<- q'];exact hocd)
theorem Io(I:#[h])(hN:X.N.Nodup)(hi:X.N[i]?=some x)(hx:Loc X.env.scope x)(r:RelV v u)
  (h:∀ s',Inv X pins (σ.set i (some v)) H s'->Q () s') (hf:za5 X i x:=by first|exact⟨.inl rfl,Wb⟩|exact⟨.inr rfl,Wb⟩|assumption|exact⟨.inl rfl,by assumption⟩|exact⟨.inr rfl,by assumption⟩):wpAny M A (storeName X.env x u) Q E s :=
 E2 I hN hi hx r (fun s' I' _=>h s' I') hf
theorem Inv.call'(I:#[h])(ho:s'.os=s.os)(u:Un (frs X.stack) ch H H' s.heap s'.heap)(hok:HOk X.prog X.w H' s'.heap)(hg:AllBare s'.gens)
  (hch:#[aD]):#[G,H',s']:=by
 obtain⟨h',g',d',t',o'⟩:=s';have e:o'=s.os:=ho;subst e;exact I.call (g':=g') (t':=t') (d':=d') u hok hg hch
end
abbrev XK:=Value->Option Addr->Hp->Prop
abbrev St:=List (Option V)
abbrev VK:=V->Hp->Prop
abbrev TE:=St->Hp->VK->Prop
abbrev TT:=St->Hp->(Bool->Hp->Prop)->Prop
abbrev TA:=St->Hp->(#[a]->Hp->Prop)->Prop
structure Q7 where
 nx:St->Hp->Prop
 rt:VK
 bk:St->Hp->Prop:=fun _ _=>False
 ct:St->Hp->Prop:=fun _ _=>False
abbrev TS:=Q7->St->Hp->Prop
def EP(X:Cx)(pins:#[x])(σ:St)(Q:VK)(u:Value)(s':Shared):Prop:=∃ v H',#[G,H',s']/\RelV v u/\Q v H'
def TP(X:Cx)(pins:#[x])(σ:St)(Q:Bool->Hp->Prop)(b:Bool)(s':Shared):Prop:=∃ H',#[G,H',s']/\Q b H'
def AP(X:Cx)(pins:#[x])(σ:St)(Q:#[a]->Hp->Prop)(us:#[U])(s':Shared):Prop:=∃ vs H',#[G,H',s']/\Vals vs us/\Q vs H'
def SP(X:Cx)(pins:#[x])(D:Q7)(f:Flow)(s':Shared):Prop :=
 match f with
 | .next=>∃ σ' H',Inv X pins σ' H' s'/\D.nx σ' H'
 | .brk=>∃ σ' H',Inv X pins σ' H' s'/\D.bk σ' H'
 | .cont=>∃ σ' H',Inv X pins σ' H' s'/\D.ct σ' H'
 | .ret u=>∃ v σ' H',Inv X pins σ' H' s'/\RelV v u/\D.rt v H'
def PE(X:Cx)(e:Expr)(t:TE):Prop :=
 ∀ (pins:#[x]) (s:Shared) (σ:St) (H:Hp) (Q:VK),#[h]->t σ H Q->wpAny (model X.prog X.w) X.A #[D,e] (EP X pins σ Q) X.xe s
def PT(X:Cx)(e:Expr)(t:TT):Prop :=
 ∀ (pins:#[x]) (s:Shared) (σ:St) (H:Hp) (Q:Bool->Hp->Prop),#[h]->t σ H Q->wpAny (model X.prog X.w) X.A (isTrue e X.env #[D,e]) (TP X pins σ Q) X.xe s
def PW(X:Cx)(e:Expr)(t:TT):Prop :=
 ∀ (whole:Sem Value) (pins:#[x]) (s:Shared) (σ:St) (H:Hp) (Q:Bool->Hp->Prop),#[h]->t σ H Q->wpAny (model X.prog X.w) X.A (isTrue e X.env whole) (TP X pins σ Q) X.xe s
theorem PW.pt(h:PW X e t):PT X e t:=h _
def PA(X:Cx)(es:List Expr)(t:TA):Prop :=
 ∀ (pos:Pos) (pins:#[x]) (s:Shared) (σ:St) (H:Hp) (Q:#[a]->Hp->Prop),#[h]->t σ H Q->wpAny (model X.prog X.w) X.A (spliced (backTo pos (starEach es X.env))) (AP X pins σ Q) X.xe s
def PS(X:Cx)(st:Stmt)(t:TS):Prop :=
 ∀ (pins:#[x]) (s:Shared) (σ:St) (H:Hp) (D:Q7),#[h]->t D σ H->wpAny (model X.prog X.w) X.A (exec st X.env) (SP X pins D) X.xe s
def PSs(X:Cx)(st:List Stmt)(t:TS):Prop :=
 ∀ (pins:#[x]) (s:Shared) (σ:St) (H:Hp) (D:Q7),#[h]->t D σ H->wpAny (model X.prog X.w) X.A (execs st X.env) (SP X pins D) X.xe s
theorem thn(h:wpAny M A t Q E s)(hQ:∀ a s,Q a s->Q' a s):wpAny M A t Q' E s:=wpAny_mono h hQ fun _ _ x=>x
section
variable{X:Cx}
inductive tVar(i:Nat)(σ:L2.St)(H:Hp)(Q:VK):Prop where
 | mk(v)(_:σ[i]?=#[c,some,v])(_:Q v H)
def tC(v:V):TE:=fun _ H Q=>Q v H
theorem zjq(hN:X.N[i]?=some x)(hv:Vis X.env.scope x)(hd:(x == ("__debug__":Str))=false:=by decide)(hcd:(x == ("__classdict__":Str))=false:=by decide):PE X (.Name x pos) (tVar i):=by
 intro pins s σ H Q I h;obtain⟨v,e,h⟩:=h;obtain⟨m,hn,hl⟩:=I.loc;obtain⟨u,r,l⟩:=hl i x v hN (.inl e) hv;have fin:EP X pins σ Q u s:=⟨v,H,I,r,h⟩;rcases l with ⟨hk,hm⟩|⟨hk,c,hc,hcell⟩
 ·exact wpAny_Name (wpAny_loadName_local I.ok.kind hk hn hm fin) hd
 ·rcases hk with hk|hk
  ·exact wpAny_Name (wpAny_loadName_cell I.ok.kind hk hc hcell fin) hd
  ·exact wpAny_Name (wpAny_loadName_free I.ok.kind hk hc hcell fin hcd) hd
theorem Zg{i j pos}:PE X (.Constant (.int i) j pos) (tC (.int i)):=fun _ _ _ H _ I h=>wpAny_Constant_int ⟨.int i,H,I.tok _,#[C,_],h⟩
theorem Rj{b j pos}:PE X (.Constant (.bool b) j pos) (tC (.bl b)):=fun _ _ _ H _ I h=>Constant_bool #[I,.bl b,H,I,h]
theorem Y1{j pos}:PE X (.Constant .none j pos) (tC .non):=fun _ _ _ H _ I h=>Constant_none #[I,.non,H,I,h]
theorem Zl{x j pos}:PE X (.Constant (.str x) j pos) (tC (.str x)):=fun _ _ _ H _ I h=>Calls.Constant_str ⟨.str x,H,I.tok _,#[C,_],h⟩
def Gl(X:Cx)(x:Str):Prop:=X.env.kindOf x=some .globalImplicit
theorem Oc(I:#[h])(hg:Gl X x)(hm:X.mg x=some u)(h:Q u s)
  (hd:(x == ("__debug__":Str))=false:=by decide):#[ab,X.A,#[D,.Name x pos],Q,E,s] :=
 Calls.Name_function_global I.ok.kind hg (Calls.loadGlobal_global (by rw[I.ok.glob];exact I.mod.glob.keeps I.bk) hm h) hd
theorem O4(I:#[h])(hg:Gl X x)(hm:X.mg x=none)(hv:bootBuiltins x=some u)(h:Q u s)
  (hn:x≠"__name__":=by decide) (hd:(x == ("__debug__":Str))=false:=by decide):#[ab,X.A,#[D,.Name x pos],Q,E,s]:=by
 obtain⟨mb,h1,h2⟩:=I.mod.blt;exact Calls.Name_function_global I.ok.kind hg (Calls.loadGlobal_builtin (by rw[I.ok.glob];exact I.mod.glob.keeps I.bk) hm (by rw[I.ok.blt];exact h1.keeps I.bk) ((h2 x hn).trans hv) h) hd
theorem zch(hg:Gl X x)(hm:X.mg x=some u)(r:RelV v u)(hd:(x == ("__debug__":Str))=false:=by decide):PE X (.Name x pos) (tC v) :=
 fun _ _ _ H _ I h=>Oc I hg hm ⟨v,H,I,r,h⟩ hd
theorem Ib(hg:Gl X x)(hm:X.mg x=none)(hv:bootBuiltins x=some u)(r:RelV v u)(hn:x≠"__name__":=by decide)(hd:(x == ("__debug__":Str))=false:=by decide):PE X (.Name x pos) (tC v) :=
 fun _ _ _ H _ I h=>O4 I hg hm hv ⟨v,H,I,r,h⟩ hn hd
variable{a b:Expr}{ta tb:TE}{pos:Pos}
def PC(X:Cx)(op:CmpOp)(a b:Expr)(t:TE):Prop :=
 ∀ (pins:#[x]) (s:Shared) (σ:St) (H:Hp) (Q:VK),#[h]->t σ H Q ->
   wpAny (model X.prog X.w) X.A (eval a X.env) (fun v s₁=>#[ab,X.A,#[D,b],fun u s₂=>#[ab,X.A,compareOp op v u,EP X pins σ Q,X.xe,s₂],X.xe,s₁]) X.xe s
inductive tBI(Q:Bool->Hp->Prop)(x:V)(H1:Hp):Prop where
 | mk(c)(_:x=.bl c)(_:Q c H1)
def tB(t:TE):TT:=fun σ H Q=>t σ H fun x H1=>tBI Q x H1
theorem zjr(h:PC X op a b t)(h1:behindInMarks op b=false:=by first|exact nobehind _ ⋯ ⋯|rfl):PE X (.Compare a [op] [b] pos) t:=fun pins s σ H Q I hw=>wpAny_Compare1 (h pins s σ H Q I hw) h1
theorem R4(h:PC X op a b t)(h1:behindInMarks op b=false:=by first|exact nobehind _ ⋯ ⋯|rfl):PT X (.Compare a [op] [b] pos) (tB t):=by
 intro pins s σ H Q I hw;refine wpAny_isTrue_Compare1 (thn (h pins s σ H _ I hw) fun v s1 h1=>thn h1 fun u s2 h2=>thn h2 fun c s3 ⟨x,H1,I1,r1,q1⟩=>?_) h1;obtain⟨d,rfl,q⟩:=q1;cases r1;exact wpAny_truthy_bool ⟨H1,I1,q⟩
theorem Ss(h:PE X e t)(he:∀ whole,isTrue e X.env whole=(do let v <- whole;standAt e.pos;holding [v] (truthy v)):=by intro _;rfl):PT X e (tB t):=by
 intro pins s σ H Q I hw;refine isTrue_plain (thn (h pins s σ H _ I hw) fun v s1 ⟨x,H1,I1,r1,q1⟩=>?_) (he _);obtain⟨d,rfl,q⟩:=q1;cases r1;exact wpAny_truthy_bool ⟨H1,I1,q⟩
variable{tA tB':TT}{rest:List Expr}
def zh1(t u:TT):TT:=fun σ H Q=>t σ H fun c H1=>if c=true then u σ H1 Q else Q false H1
def tOr(t u:TT):TT:=fun σ H Q=>t σ H fun c H1=>if c=true then Q true H1 else u σ H1 Q
def zmq(t:TT):TT:=fun σ H Q=>t σ H fun c H1=>Q (!c) H1
theorem Uu(ha:PT X a tA):PW X (.BoolOp .And [a] pos) tA:=by
 intro wh pins s σ H Q I h;refine isTrue_and (thn (ha pins s σ H Q I h) fun c s1 e=>?_);cases c with
 | true=>exact isTrue_and_nil e
 | false=>exact e
theorem V9(ha:PT X a tA):PW X (.BoolOp .Or [a] pos) tA:=by
 intro wh pins s σ H Q I h;refine isTrue_or (thn (ha pins s σ H Q I h) fun c s1 e=>?_);cases c with
 | false=>exact isTrue_or_nil e
 | true=>exact e
theorem Su(ha:PT X a tA)(hb:PW X (.BoolOp .And (b :: rest) pos) tB'):PW X (.BoolOp .And (a :: b :: rest) pos) (zh1 tA tB'):=by
 intro wh pins s σ H Q I h;refine isTrue_and (thn (ha pins s σ H _ I h) fun c s1 ⟨H1,I1,q1⟩=>?_);cases c with
 | true=>exact hb wh pins s1 σ H1 Q I1 q1
 | false=>exact⟨H1,I1,q1⟩
theorem Rk(ha:PT X a tA)(hb:PW X (.BoolOp .Or (b :: rest) pos) tB'):PW X (.BoolOp .Or (a :: b :: rest) pos) (tOr tA tB'):=by
 intro wh pins s σ H Q I h;refine isTrue_or (thn (ha pins s σ H _ I h) fun c s1 ⟨H1,I1,q1⟩=>?_);cases c with
 | true=>exact⟨H1,I1,q1⟩
 | false=>exact hb wh pins s1 σ H1 Q I1 q1
theorem Q8(ha:PT X a tA):PT X (.UnaryOp .Not a pos) (zmq tA):=by
 intro pins s σ H Q I h;exact isTrue_not (ha pins s σ H (fun c H1=>Q (!c) H1) I h)
inductive zjs(tb:TE)(σ:L2.St)(Q:VK)(x:V)(H1:Hp):Prop where
 | mk(c)(_:x=.bl c)(_:if c=true then tb σ H1 Q else Q (.bl false) H1)
def zld(ta tb:TE):TE:=fun σ H Q=>ta σ H fun x H1=>zjs tb σ Q x H1
inductive zle(tb:TE)(σ:L2.St)(Q:VK)(x:V)(H1:Hp):Prop where
 | mk(c)(_:x=.bl c)(_:if c=true then Q (.bl true) H1 else tb σ H1 Q)
def zmr(ta tb:TE):TE:=fun σ H Q=>ta σ H fun x H1=>zle tb σ Q x H1
inductive zjt(Q:VK)(x:V)(H1:Hp):Prop where
 | mk(c)(_:x=.bl c)(_:Q (.bl (!c)) H1)
def zlf(ta:TE):TE:=fun σ H Q=>ta σ H fun x H1=>zjt Q x H1
theorem Ld{op}(h:PE X a t):PE X (.BoolOp op [a] pos) t:=fun pins s σ H Q I hw=>BoolOp_one (h pins s σ H Q I hw)
theorem Cb(ha:PE X a ta)(hb:PE X (.BoolOp .And (b :: rest) pos) tb):PE X (.BoolOp .And (a :: b :: rest) pos) (zld ta tb):=by
 intro pins s σ H Q I h;refine BoolOp_and (thn (ha pins s σ H _ I h) fun v s1 ⟨x,H1,I1,r1,q1⟩=>?_);obtain⟨c,rfl,q1⟩:=q1;cases r1;refine wpAny_truthy_bool ?_;cases c with
 | true=>exact hb pins s1 σ H1 Q I1 q1
 | false=>exact#[I,.bl false,H1,I1,q1]
theorem zlg(ha:PE X a ta)(hb:PE X (.BoolOp .Or (b :: rest) pos) tb):PE X (.BoolOp .Or (a :: b :: rest) pos) (zmr ta tb):=by
 intro pins s σ H Q I h;refine BoolOp_or (thn (ha pins s σ H _ I h) fun v s1 ⟨x,H1,I1,r1,q1⟩=>?_);obtain⟨c,rfl,q1⟩:=q1;cases r1;refine wpAny_truthy_bool ?_;cases c with
 | false=>exact hb pins s1 σ H1 Q I1 q1
 | true=>exact#[I,.bl true,H1,I1,q1]
theorem zju(ha:PE X a ta):PE X (.UnaryOp .Not a pos) (zlf ta):=by
 intro pins s σ H Q I h;refine UnaryOp_ (thn (ha pins s σ H _ I h) fun v s1 ⟨x,H1,I1,r1,q1⟩=>?_);obtain⟨c,rfl,q1⟩:=q1;cases r1;exact not_of (wpAny_truthy_bool #[I,.bl (!c),H1,I1,q1])
def tIf(t:TT)(ta tb:TE):TE:=fun σ H Q=>t σ H fun c H1=>if c=true then ta σ H1 Q else tb σ H1 Q
theorem Bs(hc:PT X c tA)(ha:PE X a ta)(hb:PE X b tb):PE X (.IfExp c a b pos) (tIf tA ta tb):=by
 intro pins s σ H Q I h;refine wpAny_IfExp (thn (hc pins s σ H _ I h) fun d s1 ⟨H1,I1,q1⟩=>?_);cases d with
 | true=>exact ha pins s1 σ H1 Q I1 q1
 | false=>exact hb pins s1 σ H1 Q I1 q1
end
def SqL(K:Frag)(H:Hp)(a:Addr)(xs:#[a]):Prop :=
 Rd H a (.lst xs) \/
  ∃ (o:Obj) (its:Array Value) (n:Nat),K.lookup a=#[d]/\o.cls=.type "list"/\o.dict=none/\o.data=.seq its n/\its.size<=sizeLine/\Vals xs its.toList
def SqT(K:Frag)(H:Hp)(a:Addr)(xs:#[a]):Prop :=
 Rd H a (.tup xs) \/
  ∃ (o:Obj) (its:Array Value) (n:Nat),K.lookup a=#[d]/\o.cls=.type "tuple"/\o.data=.seq its n/\its.size<=sizeLine/\Vals xs its.toList
def zms:Value->Option V
 | .none=>some .non
 | .bool b=>#[c,.bl,b]
 | .int i _=>#[f,i]
 | .str x _=>#[c,.str,x]
 | .bytes b _=>#[c,.byt,b]
 | .float b _=>#[c,.flt,b]
 | .ref a=>#[b,a]
 | .type n=>#[c,.ty,n]
 | _=>none
theorem RelV.abs(r:RelV x u):zms u=some x:=by
 cases x with
 | non=>cases r;rfl
 | bl _=>cases r;rfl
 | int _=>obtain⟨t,rfl⟩:=r;rfl
 | str _=>obtain⟨t,rfl⟩:=r;rfl
 | byt _=>obtain⟨t,rfl⟩:=r;rfl
 | flt _=>obtain⟨t,rfl⟩:=r;rfl
 | ref _=>cases r;rfl
 | ty _=>cases r;rfl
theorem RelV.inj(r:RelV x u)(q:RelV y u):x=y:=Option.some.inj (r.abs.symm.trans q.abs)
theorem Vals.inj:∀ {xs ys:List V} {us:List Value},Vals xs us->Vals ys us->xs=ys
 | _,_,_,.nil,.nil=>rfl
 | _,_,_,.cons r t,.cons r' t'=>by rw[r.inj r',Vals.inj t t']
section
variable{X:Cx}{pins:#[x]}{σ:St}{H:Hp}{s:Shared}{a:Addr}{xs ys:#[a]}
theorem SqL.of{K:Frag}(h:#[y,H,a,xs]):SqL K H a xs:=.inl (.inl h)
theorem SqT.of{K:Frag}(h:#[R,H,a,xs]):SqT K H a xs:=.inl (.inl h)
theorem Inv.list(I:#[h])(h:SqL X.K H a xs):∃ its:#[U],Vals xs its/\PlainL s.heap a its.toArray/\xs.length<=sizeLine:=by
 rcases h with h|⟨o,its,n,hk,hc,hd,hs,hz,r⟩
 ·obtain⟨z,its,n,r,e⟩:=h.ok I.hok;exact⟨its,r,⟨_,n,e,rfl,rfl,rfl⟩,z⟩
 ·refine⟨its.toList,r,⟨o,n,I.kIn a o hk,hc,hd,by simpa using hs⟩,?_⟩;have e:=r.length;simp only[Array.length_toList] at e;omega
theorem Inv.tuple(I:#[h])(h:SqT X.K H a xs):∃ its:#[U],Vals xs its/\IsTup s.heap a its.toArray/\xs.length<=sizeLine:=by
 rcases h with h|⟨o,its,n,hk,hc,hs,hz,r⟩
 ·obtain⟨z,its,r,p⟩:=h.ok I.hok;exact⟨its,r,p,z⟩
 ·refine⟨its.toList,r,⟨o,I.kIn a o hk,hc,n,by simpa using hs⟩,?_⟩;have e:=r.length;simp only[Array.length_toList] at e;omega
theorem Inv.list_inj(I:#[h])(h:SqL X.K H a xs)(h':SqL X.K H a ys):xs=ys:=by
 obtain⟨its,r,⟨o,n,e,_,_,d⟩,_⟩:=I.list h;obtain⟨its',r',⟨o',n',e',_,_,d'⟩,_⟩:=I.list h';rw[e] at e';cases e';rw[d] at d';injection d' with d1 _;have:its=its':=by simpa using congrArg Array.toList d1
 subst this;exact r.inj r'
end
section
variable{X:Cx}{st:Stmt}{rest:List Stmt}{t u:TS}{e:Expr}{te:TE}{pos:Pos}
def E3:TS:=fun D σ H=>D.nx σ H
def Zx(t u:TS):TS:=fun D σ H=>t { D with nx:=u D } σ H
theorem Zt:PSs X [] E3:=fun _ _ σ H _ I h=>wpAny_execs_nil ⟨σ,H,I,h⟩
theorem Zb(h1:PS X st t)(h2:PSs X rest u):PSs X (st :: rest) (Zx t u):=by
 intro pins s σ H D I h;refine wpAny_execs_cons (thn (h1 pins s σ H { D with nx:=u D } I h) fun f s1 q=>?_);cases f with
 | next =>
   obtain⟨σ',H',I',q⟩:=q;exact h2 pins s1 σ' H' D I' q
 | ret v=>exact q
 | brk=>exact q
 | cont=>exact q
theorem Zf(h1:PS X st t):PSs X [st] t:=by
 intro pins s σ H D I h;refine wpAny_execs_cons (thn (h1 pins s σ H D I h) fun f s1 q=>?_);cases f with
 | next=>exact wpAny_execs_nil q
 | ret v=>exact q
 | brk=>exact q
 | cont=>exact q
theorem Inv.quiet(I:#[h]):interactive X.env=false:=by simp[interactive,I.ok.kind]
def zlh(te:TE):TS:=fun D σ H=>te σ H fun _ H1=>D.nx σ H1
theorem Z8(he:PE X e te)(hs:swapsWith e none pos.line X.env=pure false:=by rfl):PS X (.Expr e pos) (zlh te):=by
 intro pins s σ H D I h;exact wpAny_Expr_any (thn (he pins s σ H _ I h) fun v s1 ⟨x,H1,I1,r1,q1⟩=>⟨σ,H1,I1,q1⟩) I.quiet hs
def zjv(te:TE):TS:=fun D σ H=>te σ H D.rt
theorem Zn(he:PE X e te):PS X (.Return (some e) pos) (zjv te):=by
 intro pins s σ H D I h;exact wpAny_Return_some (thn (he pins s σ H _ I h) fun v s1 ⟨x,H1,I1,r1,q1⟩=>⟨x,σ,H1,I1,r1,q1⟩)
def Ip(c:TT)(t u:TS):TS:=fun D σ H=>c σ H fun b H1=>if b=true then t D σ H1 else u D σ H1
theorem Z3(hc:PT X c tc)(ha:PSs X a t)(hb:PSs X b u):PS X (.If c a b pos) (Ip tc t u):=by
 intro pins s σ H D I h;refine wpAny_If (thn (hc pins s σ H _ I h) fun d s1 ⟨H1,I1,q1⟩=>?_);cases d with
 | true=>exact ha pins s1 σ H1 D I1 q1
 | false=>exact hb pins s1 σ H1 D I1 q1
end
abbrev TG:=V->St->Hp->(St->Hp->Prop)->Prop
abbrev TGs:=#[a]->St->Hp->(St->Hp->Prop)->Prop
def PG(X:Cx)(target:Expr)(t:TG):Prop :=
 ∀ (pins:#[x]) (s:Shared) (σ:St) (H:Hp) (v:V) (u:Value) (Q:St->Hp->Prop),#[h]->RelV v u->t v σ H Q ->
   wpAny (model X.prog X.w) X.A (assign target X.env u) (fun _ s'=>∃ σ' H',Inv X pins σ' H' s'/\Q σ' H') X.xe s
def PGs(X:Cx)(ts:List Expr)(t:TGs):Prop :=
 ∀ (pins:#[x]) (s:Shared) (σ:St) (H:Hp) (vs:#[a]) (us:#[U]) (Q:St->Hp->Prop),#[h]->Vals vs us->t vs σ H Q ->
   wpAny (model X.prog X.w) X.A (assignInOrder ((assignEach ts X.env).map (·.2)) us) (fun _ s'=>∃ σ' H',Inv X pins σ' H' s'/\Q σ' H') X.xe s
abbrev zli:=V->V->V->Hp->(Hp->Prop)->Prop
def zlj(X:Cx)(t:zli):Prop :=
 ∀ (pins:#[x]) (s:Shared) (σ:St) (H:Hp) (o i v:V) (ov iv u:Value) (Q:Hp->Prop),#[h]->RelV o ov->RelV i iv->RelV v u->t o i v H Q ->
   wpAny (model X.prog X.w) X.A (setItem ov iv u) (fun _ s'=>∃ H',#[G,H',s']/\Q H') X.xe s
section
variable{X:Cx}{pos:Pos}
def X3(i:Nat):TG:=fun v σ H Q=>Q (σ.set i (some v)) H
theorem Ta(hN:X.N.Nodup)(hi:X.N[i]?=some x)(hx:Loc X.env.scope x)(hf:za5 X i x:=by first|exact⟨.inl rfl,Wb⟩|exact⟨.inr rfl,Wb⟩|assumption|exact⟨.inl rfl,by assumption⟩|exact⟨.inr rfl,by assumption⟩):PG X (.Name x pos) (X3 i):=by
 intro pins s σ H v u Q I r h;exact wpAny_assign_Name (Io I hN hi hx r (fun s' I'=>⟨_,H,I',h⟩) hf)
def zmt:TGs:=fun vs σ H Q=>vs=[]/\Q σ H
def zlk(t:TG)(u:TGs):TGs:=fun vs σ H Q=>∃ v r,vs=v :: r/\t v σ H fun σ' H'=>u r σ' H' Q
theorem Ww:PGs X [] zmt:=by
 intro pins s σ H vs us Q I r h;obtain⟨e,h⟩:=h;subst e;cases r;exact assignInOrder_nil ⟨σ,H,I,h⟩
theorem Z9(h1:PG X e t)(h2:PGs X es u)
  (hs:(assignEach (e :: es) X.env).map (·.2)=assign e X.env :: (assignEach es X.env).map (·.2):=by rfl):PGs X (e :: es) (zlk t u):=by
 intro pins s σ H vs us Q I r h;obtain⟨v,vr,e1,h⟩:=h;subst e1;cases r with
 | cons r rr =>
   rw[hs];refine assignInOrder_cons (thn (h1 pins s σ H _ _ _ I r h) fun _ s1 ⟨σ1,H1,I1,q1⟩=>?_);exact h2 pins s1 σ1 H1 _ _ Q I1 rr q1
def zll(K:Frag)(n:Nat)(t:TGs):TG:=fun v σ H Q=>∃ a xs,v=.ref a/\SqT K H a xs/\xs.length=n/\t xs σ H Q
theorem zjw(hc:X.calm=true)(h:PGs X es t)
  (hn:(assignEach es X.env).length=n:=by rfl) (hst:(assignEach es X.env).findIdx? (·.1)=none:=by rfl):PG X (.Tuple es k pos) (zll X.K n t):=by
 intro pins s σ H v u Q I r hw;obtain⟨a,xs,e1,hq,hl,hw⟩:=hw;subst e1;cases r;obtain⟨its,rv,ht,hz⟩:=I.tuple hq;refine assign_Tuple_tuple (I.ok.hd hc) ht (by simp[hn,<- hl,rv.length]) hst fun h' hx=>?_;have I1:#[G,H,{ s with heap:=h' }]:=I.kept (t':=s.toks) fun b o e=>hx b o (zxj (Heap.lt_size e)) e;exact h pins _ σ H xs _ Q I1 (by simpa using rv) hw
def zmu(to ti:TE)(t:zli):TG:=fun v σ H Q=>to σ H fun o H1=>ti σ H1 fun i H2=>t o i v H2 fun H3=>Q σ H3
theorem zjx(ho:PE X o to)(hi:PE X i ti)(hs:zlj X t)
  (ha:∀ v,assign (.Subscript o i pos) X.env v=(do
   let ov <- holding [v] (eval o X.env)
   let iv <- holding [v,ov] (eval i X.env)
   standAt pos
   holding [v,ov,iv] (setItem ov iv v)
   release [v,ov,iv] []):=by intro _;rfl):PG X (.Subscript o i pos) (zmu to ti t):=by
 intro pins s σ H v u Q I r h;rw[ha];refine wpAny_bind (wpAny_holding (thn (ho pins s σ H _ I h) fun ov s1 ⟨x,H1,I1,r1,q1⟩=>?_));refine wpAny_bind (wpAny_holding (thn (hi pins s1 σ H1 _ I1 q1) fun iv s2 ⟨y,H2,I2,r2,q2⟩=>?_));refine wpAny_bind (wpAny_standAt (wpAny_bind (wpAny_holding (thn (hs pins s2 σ H2 x y v ov iv u _ I2 r1 r2 r q2) fun _ s3 ⟨H3,I3,q3⟩=>?_))));exact wpAny_release ⟨σ,H3,I3,q3⟩
def Bt(te:TE)(g:TG):TS:=fun D σ H=>te σ H fun x H1=>g x σ H1 D.nx
theorem Iq(he:PE X e te)(hg:PG X tg g)(hs:swapsWithSole [tg] e pos.line X.env=pure false:=by rfl)(hw:swappedStores [tg] e X.env=pure none:=by rfl)
  (h1:(assignEach [tg] X.env).map (·.2)=[assign tg X.env]:=by rfl):PS X (.Assign [tg] e pos) (Bt te g):=by
 intro pins s σ H D I h;refine wpAny_Assign_stores (thn (he pins s σ H _ I h) fun v s1 ⟨x,H1,I1,r1,q1⟩=>?_) hs hw;rw[h1];exact thn (hg pins s1 σ H1 x v _ I1 r1 q1) fun _ s2 q=>q
theorem zjy(hN:X.N.Nodup)(hi:X.N[i]?=some x)(hx:Loc X.env.scope x)(he:PE X e te)(hs:swapsWith e (some (.Name x pos')) pos.line X.env=pure false:=by rfl)(hf:za5 X i x:=by first|exact⟨.inl rfl,Wb⟩|exact⟨.inr rfl,Wb⟩|assumption|exact⟨.inl rfl,by assumption⟩|exact⟨.inr rfl,by assumption⟩) :
  PS X (.Assign [.Name x pos'] e pos) (Bt te (X3 i)):=by
 intro pins s σ H D I h;refine wpAny_Assign_Name (thn (he pins s σ H _ I h) fun v s1 ⟨y,H1,I1,r1,q1⟩=>?_) hs;exact Io I1 hN hi hx r1 (fun s2 I2=>⟨_,H1,I2,q1⟩) hf
end
section
variable{X:Cx}{pos:Pos}
def zfm(c:TT)(tb:TS):TS:=fun D σ H=>∃ W:Nat->St->Hp->Prop,(∃ m,W m σ H)/\∀ m σ H,W m σ H ->
 c σ H fun b H1=>if b=true then ∃ N:St->Hp->Prop,(∀ σ' H',N σ' H'->∃ m',m' < m/\W m' σ' H')/\tb { D with nx:=N,ct:=N,bk:=D.nx } σ H1 else D.nx σ H1
theorem Bu(hp:PassesOwn (model X.prog X.w) X.A X.env X.xe)(hc:PT X c tc)(hb:PSs X body tb):PS X (.While c body [] pos) (zfm tc tb):=by
 intro pins s σ H D I h;obtain⟨W,⟨m0,w0⟩,turn⟩:=h;refine wpAny_While (codeAny_whileLoop (fun n s'=>∃ σ' H',Inv X pins σ' H' s'/\W n σ' H') ?_ m0 ⟨σ,H,I,w0⟩);rintro n s1 ⟨σ1,H1,I1,w1⟩;refine wpAny_passesOwn hp (thn (hc pins s1 σ1 H1 _ I1 (turn n σ1 H1 w1)) fun b s2 ⟨H2,I2,q2⟩=>?_);cases b with
 | true =>
   obtain⟨N,hN,q2⟩:=q2;rw[#[l,rfl]];refine wpAny_passesOwn hp (thn (hb pins s2 σ1 H2 _ I2 q2) fun f s3 q3=>?_);cases f with
   | next =>
     obtain⟨σ3,H3,I3,n3⟩:=q3;obtain⟨m',hm,w3⟩:=hN σ3 H3 n3;exact⟨m',hm,σ3,H3,I3,w3⟩
   | cont =>
     obtain⟨σ3,H3,I3,n3⟩:=q3;obtain⟨m',hm,w3⟩:=hN σ3 H3 n3;exact⟨m',hm,σ3,H3,I3,w3⟩
   | brk=>exact q3
   | ret v=>exact q3
 | false =>
   rw[#[g,zw8]];exact wpAny_execs_nil ⟨σ1,H2,I2,q2⟩
end
structure It where
 go:Nat->Hp->Prop
 yld:Nat->Hp->V->Hp->Prop
 stop:Nat->Hp->Prop
def FpOk(X:Cx)(pins:#[x])(H:Hp)(b:Addr):Prop :=
 H b=none/\b≠X.env.locals/\b∉X.fs/\(b∈X.ex\/X.s₀.heap.objs.size<=b)/\(∀ x c,#[W,x]=some c->c≠b)/\∀ p∈X.pn++pins,p.1≠b
theorem Inv.fpOk(I:#[h])(hb:s.heap.objs.size<=b)(hn:H' b=none):FpOk X pins H' b:=by
 refine⟨hn,Nat.ne_of_gt (zw7 I.lt hb),I.nofs hb,.inr (zw6 I.sz hb),fun x c e z=>?_,fun p hp z=>?_⟩
 ·obtain⟨v,q⟩:=I.cell x c e;exact absurd (zw7 q.lt (by rw[z];exact hb)) (zyi _)
 ·exact absurd (zw7 (Heap.lt_size (I.pin p hp).1) (by rw[z];exact hb)) (zyi _)
structure Bv(P:Program)(w:World)(K:Frag)(tg:Expr)(J:It)(fp:#[z])(it:Addr)(tn:Nat->Heap->Prop):Prop where
 mem:it∈fp
 obj:∀ i h,tn i h->∀ b∈fp,∃ o,h.get? b=#[d]/\∀ v,o.data≠.cell v
 keep:∀ i h h',tn i h->(∀ b∈fp,∀ o,h.get? b=some o->h'.get? b=some o)->tn i h'
 item:∀ (X:Cx),X.prog=P->X.w=w->X.K=K->X.calm=true->∀ (i:Nat) (pins:#[x]) (s:Shared) (σ:St) (H:Hp) (E:Value->Shared->Prop),#[h]->(∀ b∈fp,FpOk X pins H b)->tn i s.heap->J.go i H ->
  wpAny (model P w) X.A (pyNext (.ref it)) (fun r s1=>∃ u,r=some u /\
   wpAny (model P w) X.A (letOwnedTupleGo tg (.ref it) u) (fun _ s2=>∃ x H',#[G,H',s2]/\RelV x u/\J.yld i H x H'/\tn (i+1) s2.heap/\∀ b∈fp,H' b=none) E s1) E s
 done:∀ (X:Cx),X.prog=P->X.w=w->X.K=K->X.calm=true->∀ (i:Nat) (pins:#[x]) (s:Shared) (σ:St) (H:Hp) (E:Value->Shared->Prop),#[h]->(∀ b∈fp,FpOk X pins H b)->tn i s.heap->J.stop i H ->
  wpAny (model P w) X.A (pyNext (.ref it)) (fun r s1=>r=none/\#[G,H,s1]) E s
 self:∀ (A:Around) (i:Nat) (s:Shared) (Q:Value->Shared->Prop) (E:Value->Shared->Prop),tn i s.heap->Q (.ref it) s->wpAny (model P w) A (pyIter (.ref it)) Q E s
abbrev TI:=St->Hp->(It->Hp->Prop)->Prop
def PIE(X:Cx)(pins:#[x])(σ:St)(tg:Expr)(R:It->Hp->Prop)(itv:Value)(s2:Shared):Prop :=
 ∃ (it:Addr) (fp:#[z]) (tn:Nat->Heap->Prop) (J:It) (H':Hp),itv=.ref it/\#[G,H',s2]/\Bv X.prog X.w X.K tg J fp it tn/\tn 0 s2.heap/\(∀ b∈fp,FpOk X pins H' b)/\R J H'
def PI(X:Cx)(tg iter:Expr)(wi:TI):Prop :=
 ∀ (pins:#[x]) (s:Shared) (σ:St) (H:Hp) (R:It->Hp->Prop),#[h]->wi σ H R ->
   wpAny (model X.prog X.w) X.A (eval iter X.env) (fun v s1=>#[ab,X.A,pyIter v,PIE X pins σ tg R,X.xe,s1]) X.xe s
theorem zfn(ho:s.heap.get? it=some o)(hc:o.cls=.type n)(hd:o.data=.fields vs)
  (hn:["enumerate","zip","dict_itemiterator","dict_reverseitemiterator","odict_iterator","itertools.zip_longest","itertools.pairwise"].contains n=false) (hQ:Q () s):wpAny M A (letOwnedTupleGo tg (.ref it) u) Q E s:=by
 unfold letOwnedTupleGo;cases tg<;>first
  | exact wpAny_pure hQ
  | (cases u<;>first
    | exact wpAny_pure hQ
    | (refine wpAny_bind (wpAny_load ho ?_)
       rw[hc,hd];show wpAny M A (if (["enumerate","zip","dict_itemiterator","dict_reverseitemiterator","odict_iterator","itertools.zip_longest","itertools.pairwise"].contains n&&vs[0]? == some (rawInt _))=true then _ else _) Q E s;rw[if_neg (by intro h;rw[hn,Bool.false_and] at h;cases h)];exact wpAny_pure hQ))
def Itl(K:Frag)(a:Addr):It :=
 ⟨fun i H=>∃ xs x,SqL K H a xs/\xs[i]?=some x,fun i H x H'=>H'=H/\∀ xs,SqL K H a xs->xs[i]?=some x,fun i H=>∃ xs,SqL K H a xs/\xs.length<=i⟩
def Itr(lo:Int)(n:Nat):It:=⟨fun i _=>i<n,fun i H x H'=>H'=H/\x=.int (lo+i),fun i _=>n<=i⟩
theorem zdw{P:Program}{w:World}{K:Frag}{tg:Expr}(a it:Addr):Bv P w K tg (Itl K a) [it] it (fun i h=>h.IsListIter it a i) where
 mem:=by simp
 obj:=fun i h st b hb=>by
  have e:b=it:=by simpa using hb
  subst e;obtain⟨o,e,c,d⟩:=st;exact⟨o,e,fun v z=>by rw[d] at z;cases z⟩
 keep:=fun i h h' st k=>st.at fun o e=>k it (by simp) o e
 item:=by
  intro X hP hw hK hc i pins s σ H E I hf st hg;subst hP hw hK;obtain⟨xs,x,hq,hx⟩:=hg;obtain⟨its,rv,p,hz⟩:=I.list hq;obtain⟨u,hu,ru⟩:=rv.get hx;obtain⟨f0,f1,f2,f3,f4,f5⟩:=hf it (by simp);refine wpAny_pyNext_list_item st p.isList (x:=u) (by simpa using hu) fun h' st' sb=>?_;have I1:#[G,H,{ s with heap:=h' }]:=I.turned (t':=s.toks) (fun b o hb e=>(sb.2 b hb).trans e) f0 f1 f3 f4 f5;obtain⟨o,e,c,d⟩:=id st';exact#[t,u,zfn (s:={ s with heap:=h' }) e c d ⋯ ⟨x,H,I1,ru,⟨rfl,fun ys hy=>by rw[I.list_inj hy hq];exact hx⟩,st',fun b hb=>(hf b hb).1⟩]
 done:=by
  intro X hP hw hK hc i pins s σ H E I hf st hg;subst hP hw hK;obtain⟨xs,hq,hx⟩:=hg;obtain⟨its,rv,p,hz⟩:=I.list hq;obtain⟨f0,f1,f2,f3,f4,f5⟩:=hf it (by simp);have hl:=rv.length;exact wpAny_pyNext_list_end (I.ok.hd hc) st p.isList (by simp;omega) fun h' eb=>⟨rfl,I.turned (t':=s.toks) (fun b o hb e=>eb b o hb e) f0 f1 f3 f4 f5⟩
 self:=fun _ _ _ _ _ st h=>wpAny_pyIter_listiter st h
theorem za6{P:Program}{w:World}{K:Frag}{tg:Expr}(it:Addr)(lo:Int)(n:Nat):Bv P w K tg (Itr lo n) [it] it (fun i h=>IsRangeIter h it (lo+(i:Nat)*1) ((n:Int)-(i:Nat)) 1) where
 mem:=by simp
 obj:=fun i h st b hb=>by
  have e:b=it:=by simpa using hb
  subst e;exact⟨_,st,fun v z=>by
   have z':Data.fields _=Data.cell v:=z;cases z'⟩
 keep:=fun i h h' st k=>k it (by simp) _ st
 item:=by
  intro X hP hw hK hc i pins s σ H E I hf st hg;subst hP hw hK;obtain⟨f0,f1,f2,f3,f4,f5⟩:=hf it (by simp);have W:=Walks.range (prog:=X.prog) (w:=X.w) (I.ok.hd hc) it lo 1 n;refine W.item i s _ _ hg st fun v h' tk hv st' kk=>?_;obtain⟨t,rfl⟩:=hv;have I1:#[G,H,{ s with heap:=h',toks:=tk }]:=I.turned (fun b o hb e=>kk b o (by simpa using hb) e) f0 f1 f3 f4 f5;refine#[t,_,zfn (s:={ s with heap:=h',toks:=tk }) (n:="range_iterator") st' rfl rfl ⋯ ⟨.int (lo+i),H,I1,⟨t,?_⟩,#[C,rfl],st',fun b hb=>(hf b hb).1⟩];rw[Int.mul_one]
 done:=by
  intro X hP hw hK hc i pins s σ H E I hf st hg;subst hP hw hK;obtain⟨f0,f1,f2,f3,f4,f5⟩:=hf it (by simp);exact wpAny_pyNext_range_end (I.ok.hd hc) st (by have:n<=i:=hg;omega) fun h' eb=>⟨rfl,I.turned (t':=s.toks) (fun b o hb e=>eb b o hb e) f0 f1 f3 f4 f5⟩
 self:=fun _ _ _ _ _ st h=>wpAny_pyIter_rangeiter st h
section
variable{X:Cx}{tg:Expr}
inductive zjz(K:Frag)(R:It->Hp->Prop)(x:V)(H1:Hp):Prop where
 | mk(a)(_:x=.ref a)(_:(∃ xs,SqL K H1 a xs))(_:R (Itl K a) H1)
def zci(K:Frag)(tl:TE):TI:=fun σ H R=>tl σ H fun x H1=>zjz K R x H1
theorem zh2{l:Expr}{tl:TE}(hl:PE X l tl):PI X tg l (zci X.K tl):=by
 intro pins s σ H R I h;refine thn (hl pins s σ H _ I h) fun v s1 ⟨x,H1,I1,r1,q1⟩=>?_;obtain⟨a,e,⟨xs,hq⟩,q⟩:=q1;subst e;cases r1;obtain⟨its,rv,p,hz⟩:=I1.list hq;refine wpAny_pyIter_list p.isList ?_;refine⟨s1.heap.objs.size,[s1.heap.objs.size],_,_,H1,rfl,I1.kept (t':=s1.toks) fun b o e=>#[ah,_,e],zdw a _,⟨_,Heap.get?_push_size _ rfl,rfl,rfl⟩,fun b hb=>?_,q⟩;have e:b=s1.heap.objs.size:=by simpa using hb
 subst e;exact I1.fpOk (zwz _) (I1.hok.fresh (zwz _))
theorem Bw{pins:#[x]}{σ:St}{H:Hp}{s:Shared}{R:It->Hp->Prop}{E:Value->Shared->Prop}{lo hi:Int}{t u v:Tok}{tk:Nat}(I:#[h])(h1:-(2 ^ 62)<=lo)(h2:lo<2 ^ 62)(h3:-(2 ^ 62)<=hi)(h4:hi<2 ^ 62)
  (q:R (Itr lo (hi-lo).toNat) H):#[ab,X.A,pyIter (.ref s.heap.objs.size),PIE X pins σ tg R,E,{ s with heap:=s.heap.push { cls:=.type "range",data:=.fields #[.int lo t,.int hi u,.int 1 v] },toks:=tk }]:=by
 refine wpAny_pyIter_range (IsRange.new ..) (small_one h1 h2 h3 h4) ?_;have I1:#[G,H,{ s with heap:=s.heap.push { cls:=.type "range",data:=.fields #[.int lo t,.int hi u,.int 1 v] },toks:=tk }]:=I.kept fun b o e=>#[ah,_,e];refine⟨(s.heap.push { cls:=.type "range",data:=.fields #[.int lo t,.int hi u,.int 1 v] }).objs.size,[(s.heap.push { cls:=.type "range",data:=.fields #[.int lo t,.int hi u,.int 1 v] }).objs.size],_,_,H,rfl,
  I1.kept (t':=tk) fun b o e=>#[ah,_,e],za6 _ lo (hi-lo).toNat,?_,fun b hb=>?_,q⟩
 ·have e1:lo+((0:Nat):Int)*1=lo:=by simp
  have e2:(((hi-lo).toNat:Nat):Int)-((0:Nat):Int)=Builtin.Range.rangeSize lo hi 1:=by rw[rangeSize_one];split<;>omega
  show IsRangeIter _ _ (lo+((0:Nat):Int)*1) ((((hi-lo).toNat:Nat):Int)-((0:Nat):Int)) 1;rw[e1,e2];exact Heap.get?_push_size _ rfl
 ·have e:b=(s.heap.push { cls:=.type "range",data:=.fields #[.int lo t,.int hi u,.int 1 v] }).objs.size:=by simpa using hb
  subst e;exact I1.fpOk (zwz _) (I1.hok.fresh (zwz _))
def zlm(ta:TA):TI:=fun σ H R=>ta σ H fun vs H1=>∃ j:Int,vs=[.int j]/\-(2 ^ 62)<=j/\j<2 ^ 62/\R (Itr 0 j.toNat) H1
def zln(ta:TA):TI:=fun σ H R=>ta σ H fun vs H1=>∃ i j:Int,vs=#[Q,i,j]/\(-(2 ^ 62)<=i/\i<2 ^ 62/\-(2 ^ 62)<=j/\j<2 ^ 62)/\R (Itr i (j-i).toNat) H1
theorem Wx{a:Expr}{ta:TA}{p pos:Pos}(hg:Gl X "range")(hm:X.mg "range"=none)(ha:PA X [a] ta)(hs:starEach [a] X.env=[(false,#[D,a])]:=by rfl):PI X tg (.Call (.Name "range" p) [a] [] pos) (zlm ta):=by
 intro pins s σ H R I h;refine Call_ (O4 I hg hm boot_range (PyProof.Rows.callWith_type1 (thn (ha pos pins s σ H _ I h) fun us s1 ⟨vs,H1,I1,r1,q1⟩=>?_) hs rfl));obtain⟨j,e,q1,q2,q⟩:=q1;subst e;cases r1 with
 | cons r rr =>
   cases rr;obtain⟨t,rfl⟩:=r;exact call_range_1 (Bw I1 ⋯ ⋯ q1 q2 (by simpa using q))
theorem zdx(hg:Gl X "range")(hm:X.mg "range"=none)(ha:PA X [a,b] ta)(hs:starEach [a,b] X.env=[(false,eval a X.env),(false,eval b X.env)]:=by rfl)(hs2:starEach [b] X.env=[(false,#[D,b])]:=by rfl) :
  PI X tg (.Call (.Name "range" p) [a,b] [] pos) (zln ta):=by
 intro pins s σ H R I h;refine Call_ (O4 I hg hm boot_range (PyProof.Rows.callWith_type1 (thn (ha pos pins s σ H _ I h) fun us s1 ⟨vs,H1,I1,r1,q1⟩=>?_) (by rw[hs,hs2]) (by rw[hs2];rfl)));obtain⟨i,j,e,⟨q1,q2,q3,q4⟩,q⟩:=q1;subst e;cases r1 with
 | cons r rr =>
   cases rr with
   | cons r' rr =>
     cases rr;obtain⟨t,rfl⟩:=r;obtain⟨t',rfl⟩:=r';exact call_range_2 (Bw I1 q1 q2 q3 q4 q)
def zfo(wi:TI)(g:TG)(tb:TS):TS:=fun D σ H=>wi σ H fun J H1=>∃ W:Nat->Nat->St->Hp->Prop,(∃ m,W 0 m σ H1)/\∀ i m σ H,W i m σ H ->
 (J.stop i H/\D.nx σ H)\/(J.go i H/\∃ N:St->Hp->Prop,(∀ σ' H',N σ' H'->∃ m',m' < m/\W (i+1) m' σ' H')/\∀ x H',J.yld i H x H'->g x σ H' fun σ2 H2=>tb { D with nx:=N,ct:=N,bk:=D.nx } σ2 H2)
def Le(fp:#[z])(h:Heap):#[x]:=fp.filterMap fun b=>(h.get? b).map fun o=>(b,o)
theorem R6(hb:b∈fp)(e:h.get? b=some o):(b,o)∈Le fp h:=zyj.mpr ⟨b,hb,by rw[e];rfl⟩
theorem zdy(hp:p∈Le fp h):p.1∈fp/\h.get? p.1=some p.2:=by
 obtain⟨b,hb,e⟩:=zyj.mp hp;cases q:h.get? b with
 | none=>rw[q] at e;cases e
 | some o =>
   rw[q] at e;have e':(b,o)=p:=#[aj,e];subst e';exact⟨hb,q⟩
theorem Inv.pinned(I:#[h])(hf:∀ b∈fp,FpOk X pins H b)(ho:∀ b∈fp,∃ o,#[O,b]=#[d]/\∀ v,o.data≠.cell v):Inv X (pins++Le fp s.heap) σ H s :=
 I.pins_of fun p hp=>(zw2.mp hp).elim (fun z=>I.pin p (zxd _ z)) fun z=>by
  obtain⟨hb,e⟩:=zdy z;obtain⟨f0,f1,f2,_⟩:=hf p.1 hb;obtain⟨o,e',d⟩:=ho p.1 hb;rw[e] at e';cases e';exact⟨e,f0,f1,f2,d⟩
theorem Inv.unpinned(I:Inv X (pins++pl) σ H s):#[h]:=I.pins_of fun p hp=>I.pin p (zxd _ (zxf _ hp))
theorem Xo(hp:PassesOwn (model X.prog X.w) X.A X.env X.xe)(hc:X.calm=true)(hi:PI X tg iter wi)(hg:PG X tg g)(hb:PSs X body tb)
  (hs:∀ x,foldedSetIterable iter X.env x=pure x:=by intro _;rfl):PS X (.For tg iter body [] pos) (zfo wi g tb):=by
 intro pins s σ H D I h;refine wpAny_For (thn (hi pins s σ H _ I h) fun v s1 h1=>thn h1 fun itv s2 h2=>?_) hs;obtain⟨it,fp,tn,J,H2,e,I2,T,st2,f2,W,⟨m0,w0⟩,turn⟩:=h2;subst e;have stat:∀ {H':Hp},(∀ b∈fp,H' b=none)->∀ b∈fp,FpOk X pins H' b:=fun hn b hb=>⟨hn b hb,(f2 b hb).2⟩
 refine codeAny_forLoop_any (fun n s'=>∃ i σ' H',Inv X pins σ' H' s'/\tn i s'.heap/\(∀ b∈fp,H' b=none)/\W i n σ' H') ?_ m0 ⟨0,σ,H2,I2,st2,fun b hb=>(f2 b hb).1,w0⟩;rintro n s3 ⟨i,σ3,H3,I3,st3,fr3,w3⟩;rcases turn i n σ3 H3 w3 with ⟨stop,qn⟩|⟨go,N,hN,step⟩
 ·refine wpAny_passesOwn hp (thn (T.done X rfl rfl rfl hc i pins s3 σ3 H3 X.xe I3 (stat fr3) st3 stop) fun r s4 ⟨hr,I4⟩=>?_);subst hr;exact wpAny_execs_nil ⟨σ3,H3,I4,qn⟩
 ·refine wpAny_passesOwn hp (thn (T.item X rfl rfl rfl hc i pins s3 σ3 H3 X.xe I3 (stat fr3) st3 go) fun r s4 ⟨u,hr,h4⟩=>?_);subst hr;refine wpAny_passesOwn hp (thn h4 fun _ s5 ⟨x,H5,I5,r5,y5,st5,fr5⟩=>?_);have I5':=I5.pinned (stat fr5) (T.obj _ _ st5);refine wpAny_passesOwn hp (thn (hg _ s5 σ3 H5 x u _ I5' r5 (step x H5 y5)) fun _ s6 ⟨σ6,H6,I6,q6⟩=>?_);refine wpAny_passesOwn hp (thn (hb _ s6 σ6 H6 _ I6 q6) fun f s7 q7=>?_);have again:∀ {σ7:St} {H7:Hp},Inv X (pins++Le fp s5.heap) σ7 H7 s7->N σ7 H7->∃ m,m<n/\∃ i σ' H',Inv X pins σ' H' s7/\tn i s7.heap/\(∀ b∈fp,H' b=none)/\W i m σ' H':=fun {σ7 H7} I7 n7=>by
   obtain⟨m',hm,w7⟩:=hN σ7 H7 n7;refine⟨m',hm,i+1,σ7,H7,I7.unpinned,T.keep _ _ _ st5 fun b hb o e=>(I7.pin (b,o) (zxd _ (zxd _ (R6 hb e)))).1,fun b hb=>?_,w7⟩;obtain⟨o,e,d⟩:=T.obj _ _ st5 b hb;exact(I7.pin (b,o) (zxd _ (zxd _ (R6 hb e)))).2.1
  cases f with
  | next=>obtain⟨σ7,H7,I7,n7⟩:=q7;exact again I7 n7
  | cont=>obtain⟨σ7,H7,I7,n7⟩:=q7;exact again I7 n7
  | brk=>obtain⟨σ7,H7,I7,q7⟩:=q7;exact⟨σ7,H7,I7.unpinned,q7⟩
  | ret v=>obtain⟨x7,σ7,H7,I7,r7,q7⟩:=q7;exact⟨x7,σ7,H7,I7.unpinned,r7,q7⟩
end
theorem Wh{K:Frag}{a:Addr}{xs:#[a]}{g:TG}{tb:TS}{D:Q7}{σ:St}{H:Hp}(Pv:Nat->St->Hp->Prop)(h0:Pv 0 σ H)(hl:∀ i σ H,i<=xs.length->Pv i σ H->SqL K H a xs)
  (hs:∀ i x σ H,xs[i]?=some x->Pv i σ H->g x σ H fun σ2 H2=>tb { D with nx:=Pv (i+1),ct:=Pv (i+1),bk:=D.nx } σ2 H2) (hd:∀ σ H,Pv xs.length σ H->D.nx σ H) :
  ∃ W:Nat->Nat->St->Hp->Prop,(∃ m,W 0 m σ H)/\∀ i m σ H,W i m σ H ->
    ((Itl K a).stop i H/\D.nx σ H)\/((Itl K a).go i H/\∃ N:St->Hp->Prop,(∀ σ' H',N σ' H'->∃ m',m' < m/\W (i+1) m' σ' H')/\∀ x H',(Itl K a).yld i H x H'->g x σ H' fun σ2 H2=>tb { D with nx:=N,ct:=N,bk:=D.nx } σ2 H2):=by
 refine⟨fun i m σ H=>m=xs.length-i/\i<=xs.length/\Pv i σ H,⟨xs.length,by simp,zxk _,h0⟩,?_⟩;rintro i m σ H ⟨rfl,hi,p⟩;have q:=hl i σ H hi p;by_cases hlt:i<xs.length
 ·refine .inr ⟨⟨xs,xs[i],q,by simp[hlt]⟩,Pv (i+1),fun σ' H' p'=>⟨xs.length-(i+1),by omega,rfl,hlt,p'⟩,fun x H' y=>?_⟩;obtain⟨e,y⟩:=y;subst e;exact hs i x σ _ (y xs q) p
 ·have e:i=xs.length:=by omega
  subst e;exact .inl ⟨⟨xs,q,zwz _⟩,hd σ H p⟩
theorem Ua{lo:Int}{n:Nat}{g:TG}{tb:TS}{D:Q7}{σ:St}{H:Hp}(Pv:Nat->St->Hp->Prop)(h0:Pv 0 σ H)
  (hs:∀ i σ H,i<n->Pv i σ H->g (.int (lo+i)) σ H fun σ2 H2=>tb { D with nx:=Pv (i+1),ct:=Pv (i+1),bk:=D.nx } σ2 H2) (hd:∀ σ H,Pv n σ H->D.nx σ H) :
  ∃ W:Nat->Nat->St->Hp->Prop,(∃ m,W 0 m σ H)/\∀ i m σ H,W i m σ H ->
    ((Itr lo n).stop i H/\D.nx σ H)\/((Itr lo n).go i H/\∃ N:St->Hp->Prop,(∀ σ' H',N σ' H'->∃ m',m' < m/\W (i+1) m' σ' H')/\∀ x H',(Itr lo n).yld i H x H'->g x σ H' fun σ2 H2=>tb { D with nx:=N,ct:=N,bk:=D.nx } σ2 H2):=by
 refine⟨fun i m σ H=>m=n-i/\i<=n/\Pv i σ H,⟨n,by simp,zxk _,h0⟩,?_⟩;rintro i m σ H ⟨rfl,hi,p⟩;by_cases hlt:i<n
 ·refine .inr ⟨hlt,Pv (i+1),fun σ' H' p'=>⟨n-(i+1),by omega,rfl,hlt,p'⟩,fun x H' y=>?_⟩;obtain⟨e,y⟩:=y;subst e y;exact hs i σ _ hlt p
 ·have e:i=n:=by omega
  subst e;exact .inl ⟨zwz _,hd σ H p⟩
abbrev R2:=V->V->Hp->VK->Prop
def OpR(X:Cx)(f:Value->Value->Sem Value)(r:R2):Prop :=
 ∀ (pins:#[x]) (s:Shared) (σ:St) (H:Hp) (x y:V) (v u:Value) (Q:VK),#[h]->RelV x v->RelV y u->r x y H Q ->
   wpAny (model X.prog X.w) X.A (f v u) (EP X pins σ Q) X.xe s
def UnR(X:Cx)(f:Value->Sem Value)(r:V->Hp->VK->Prop):Prop :=
 ∀ (pins:#[x]) (s:Shared) (σ:St) (H:Hp) (x:V) (v:Value) (Q:VK),#[h]->RelV x v->r x H Q ->
   wpAny (model X.prog X.w) X.A (f v) (EP X pins σ Q) X.xe s
def W8(X:Cx)(f:Value)(r:#[a]->Hp->VK->Prop):Prop :=
 ∀ (pins:#[x]) (s:Shared) (σ:St) (H:Hp) (xs:#[a]) (us:#[U]) (Q:VK),#[h]->Vals xs us->r xs H Q ->
   wpAny (model X.prog X.w) X.A (call f us) (EP X pins σ Q) X.xe s
def zmv(X:Cx)(r:V->Hp->(Bool->Hp->Prop)->Prop):Prop :=
 ∀ (pins:#[x]) (s:Shared) (σ:St) (H:Hp) (x:V) (v:Value) (Q:Bool->Hp->Prop),#[h]->RelV x v->r x H Q ->
   wpAny (model X.prog X.w) X.A (truthy v) (TP X pins σ Q) X.xe s
def tOp(r:R2)(ta tb:TE):TE:=fun σ H Q=>ta σ H fun x H1=>tb σ H1 fun y H2=>r x y H2 Q
def tUn(r:V->Hp->VK->Prop)(ta:TE):TE:=fun σ H Q=>ta σ H fun x H1=>r x H1 Q
inductive rI(C:Int->Int->Prop)(g:Int->Int->V)(x:V)(y:V)(H:Hp)(Q:VK):Prop where
 | mk(i)(j)(_:x=.int i)(_:y=.int j)(_:C i j/\Q (g i j) H)
inductive rI0(g:Int->Int->V)(x:V)(y:V)(H:Hp)(Q:VK):Prop where
 | mk(i)(j)(_:x=.int i)(_:y=.int j)(_:Q (g i j) H)
inductive rU(g:Int->V)(x:V)(H:Hp)(Q:VK):Prop where
 | mk(i)(_:x=.int i)(_:Q (g i) H)
section
variable{X:Cx}{a b c:Expr}{ta tb tc:TE}{pos:Pos}
theorem binT(ha:PE X a ta)(hb:PE X b tb){pins:#[x]}{s:Shared}{σ:St}{H:Hp}{R:V->V->Hp->Prop}(I:#[h])
  (h:ta σ H fun x H1=>tb σ H1 fun y H2=>R x y H2) {Q:Value->Shared->Prop} {f:Value->Value->Sem Value}
  (hf:∀ v u s2 x y H2,#[G,H2,s2]->RelV x v->RelV y u->R x y H2->#[ab,X.A,f v u,Q,X.xe,s2]) :
  wpAny (model X.prog X.w) X.A (eval a X.env) (fun v s₁=>#[ab,X.A,#[D,b],fun u s₂=>#[ab,X.A,f v u,Q,X.xe,s₂],X.xe,s₁]) X.xe s:=by
 refine thn (ha pins s σ H _ I h) fun v s1 ⟨x,H1,I1,r1,q1⟩=>?_;refine thn (hb pins s1 σ H1 _ I1 q1) fun u s2 ⟨y,H2,I2,r2,q2⟩=>?_;exact hf v u s2 x y H2 I2 r1 r2 q2
theorem Zs{op:Operator}{r:R2}(ho:OpR X (binaryOp op) r)(ha:PE X a ta)(hb:PE X b tb):PE X (.BinOp a op b pos) (tOp r ta tb):=by
 intro pins s σ H Q I h;exact wpAny_BinOp (binT ha hb I h fun v u s2 x y H2 I2 rx ry q=>ho pins s2 σ H2 x y v u Q I2 rx ry q)
theorem Rl(ho:UnR X (unaryOp op) r)(ha:PE X a ta):PE X (.UnaryOp op a pos) (tUn r ta):=by
 intro pins s σ H Q I h;exact UnaryOp_ (thn (ha pins s σ H _ I h) fun v s1 ⟨x,H1,I1,r1,q1⟩=>ho pins s1 σ H1 x v Q I1 r1 q1)
theorem opI{f:Value->Value->Sem Value}{C:Int->Int->Prop}{g:Int->Int->Int}
  (rule:∀ (i j:Int) (t u:Tok) (s:Shared) (Q:Value->Shared->Prop) (E:Value->Shared->Prop),C i j->Q (.int (g i j) s.toks) { s with toks:=s.toks+1 }->#[ab,X.A,f (.int i t) (.int j u),Q,E,s]) :
  OpR X f (rI C fun i j=>.int (g i j)):=by
 intro pins s σ H x y v u Q I rx ry h;obtain⟨i,j,rfl,rfl,hc,q⟩:=h;obtain⟨t,rfl⟩:=rx;obtain⟨t',rfl⟩:=ry;exact rule i j t t' s _ _ hc ⟨.int (g i j),H,I.tok _,#[C,_],q⟩
theorem zlo{f:Value->Value->Sem Value}{g:Int->Int->Int}
  (rule:∀ (i j:Int) (t u:Tok) (s:Shared) (Q:Value->Shared->Prop) (E:Value->Shared->Prop),Q (.int (g i j) s.toks) { s with toks:=s.toks+1 }->#[ab,X.A,f (.int i t) (.int j u),Q,E,s]) :
  OpR X f (rI0 fun i j=>.int (g i j)):=by
 intro pins s σ H x y v u Q I rx ry h;obtain⟨i,j,rfl,rfl,q⟩:=h;obtain⟨t,rfl⟩:=rx;obtain⟨t',rfl⟩:=ry;exact rule i j t t' s _ _ ⟨.int (g i j),H,I.tok _,#[C,_],q⟩
theorem zh3{f:Value->Value->Sem Value}{g:Int->Int->Bool}
  (rule:∀ (i j:Int) (t u:Tok) (s:Shared) (Q:Value->Shared->Prop) (E:Value->Shared->Prop),Q (.bool (g i j)) s->#[ab,X.A,f (.int i t) (.int j u),Q,E,s]) :
  OpR X f (rI0 fun i j=>.bl (g i j)):=by
 intro pins s σ H x y v u Q I rx ry h;obtain⟨i,j,rfl,rfl,q⟩:=h;obtain⟨t,rfl⟩:=rx;obtain⟨t',rfl⟩:=ry;exact rule i j t t' s _ _ #[I,.bl (g i j),H,I,q]
def CDiv(i j:Int):Prop:=0<j/\j<1073741824
def CPow(i j:Int):Prop:=0<=j/\j<=1000000/\i.natAbs<2 ^ 64
def CMul(i j:Int):Prop:=(-(2 ^ 64)<i/\i<2 ^ 64)\/(-(2 ^ 64)<j/\j<2 ^ 64)
theorem CMul.ok(h:CMul i j):IntMulOk i j:=by
 rcases h with ⟨h1,h2⟩|⟨h1,h2⟩
 ·exact .of_left (intBits_le_64 h1 h2)
 ·exact .of_right (intBits_le_64 h1 h2)
theorem Yr:OpR X (binaryOp .Add) (rI0 fun i j=>.int (i+j)):=zlo fun _ _ _ _ _ _ _ q=>add_int q
theorem Q9:OpR X (binaryOp .Sub) (rI0 fun i j=>.int (i-j)):=zlo fun _ _ _ _ _ _ _ q=>sub_int q
theorem Sv:OpR X (binaryOp .Mult) (rI CMul fun i j=>.int (i*j)):=opI fun _ _ _ _ _ _ _ hc q=>mul_int q hc.ok
theorem Xc:OpR X (binaryOp .FloorDiv) (rI CDiv fun i j=>.int (i/j)):=opI fun i j _ _ _ _ _ hc q=>by
 have h1:(0:Int)<j:=hc.1;have h2:j<1073741824:=hc.2;exact floordiv_int ⋯ (by rw[Int.fdiv_eq_ediv_of_nonneg i ⋯];exact q) (.inl (PyProof.noPylong_small ⋯))
theorem Ys:OpR X (binaryOp .Mod) (rI (fun _ j=>0<j) fun i j=>.int (i%j)):=opI fun i j _ _ _ _ _ hc q=>by
 have h1:(0:Int)<j:=hc;exact mod_int' ⋯ (by rw[Int.fmod_eq_emod_of_nonneg i ⋯];exact q)
theorem za7:OpR X (binaryOp .Pow) (rI CPow fun i j=>.int (i ^ j.toNat)):=opI fun _ _ _ _ _ _ _ hc q=>pow_int_small hc.1 hc.2.1 hc.2.2 q
theorem unI{f:Value->Sem Value}{g:Int->Int}
  (rule:∀ (i:Int) (t:Tok) (s:Shared) (Q:Value->Shared->Prop) (E:Value->Shared->Prop),Q (.int (g i) s.toks) { s with toks:=s.toks+1 }->#[ab,X.A,f (.int i t),Q,E,s]) :
  UnR X f (rU fun i=>.int (g i)):=by
 intro pins s σ H x v Q I rx h;obtain⟨i,rfl,q⟩:=h;obtain⟨t,rfl⟩:=rx;exact rule i t s _ _ ⟨.int (g i),H,I.tok _,#[C,_],q⟩
theorem Ub:UnR X (unaryOp .USub) (rU fun i=>.int (-i)):=unI fun _ _ _ _ _ q=>neg_int q
end
def zlp:V->V->Bool
 | .non,.non=>true|.non,.int _=>true|.int _,.non=>true|.non,.bl _=>true|.bl _,.non=>true|.non,.str _=>true|.str _,.non=>true
 | .int _,.int _=>true|.bl _,.bl _=>true|.str _,.str _=>true|.byt _,.byt _=>true
 | .int _,.str _=>true|.str _,.int _=>true|.bl _,.str _=>true|.str _,.bl _=>true
 | _,_=>false
inductive rEq(x:V)(y:V)(H:Hp)(Q:VK):Prop where
 | mk(_:zlp x y=true)(_:Q (.bl (decide (x=y))) H)
inductive rNe(x:V)(y:V)(H:Hp)(Q:VK):Prop where
 | mk(_:zlp x y=true)(_:Q (.bl (!#[j,x=y])) H)
theorem zcj:#[j,V.int i=V.int j]=(i == j):=by
 rw[zyz];simp
theorem zfp:#[j,V.bl i=V.bl j]=(i == j):=by
 rw[zyz];simp
theorem zck:#[j,V.str i=V.str j]=(i == j):=by
 rw[zyz];simp
theorem zcl:#[j,V.byt i=V.byt j]=(i.toList == j.toList):=by
 rw[zyz];cases i;cases j;simp
section
variable{X:Cx}{a b c:Expr}{ta tb tc:TE}{pos:Pos}
theorem Yt(I:#[h])(q:Q (.bl k) H)(e:k=k'):EP X pins σ Q (.bool k') s:=by
 subst e;exact#[I,.bl k,H,I,q]
theorem Xd:OpR X (compareOp .Eq) rEq:=by
 intro pins s σ H x y v u Q I rx ry h;obtain⟨hs,q⟩:=h;cases x with
 | non =>
   cases rx;cases y with
   | non=>cases ry;exact #[ai,PySem.EqNone.eq_none_none]
   | bl j=>cases ry;exact #[ai,PySem.EqNone.eq_none_bool]
   | int j=>obtain⟨t',rfl⟩:=ry;exact #[ai,PySem.EqNone.eq_none_int]
   | str j=>obtain⟨t',rfl⟩:=ry;exact #[ai,PySem.EqNone.eq_none_str]
   | _=>exact #[as]
 | bl i =>
   cases rx;cases y with
   | non=>cases ry;exact #[ai,PySem.EqNone.eq_bool_none]
   | bl j=>cases ry;exact eq_bool (Yt I q zfp)
   | str j=>obtain⟨t',rfl⟩:=ry;exact #[ai,PySem.EqMixed.eq_bool_str]
   | _=>exact #[as]
 | int i =>
   obtain⟨t,rfl⟩:=rx;cases y with
   | non=>cases ry;exact #[ai,PySem.EqNone.eq_int_none]
   | int j=>obtain⟨t',rfl⟩:=ry;exact eq_int (Yt I q zcj)
   | str j=>obtain⟨t',rfl⟩:=ry;exact #[ai,PySem.EqMixed.eq_int_str]
   | _=>exact #[as]
 | str i =>
   obtain⟨t,rfl⟩:=rx;cases y with
   | non=>cases ry;exact #[ai,PySem.EqNone.eq_str_none]
   | bl j=>cases ry;exact #[ai,PySem.EqMixed.eq_str_bool]
   | int j=>obtain⟨t',rfl⟩:=ry;exact #[ai,PySem.EqMixed.eq_str_int]
   | str j=>obtain⟨t',rfl⟩:=ry;exact eq_str (Yt I q zck)
   | _=>exact #[as]
 | byt i =>
   obtain⟨t,rfl⟩:=rx;cases y with
   | byt j=>obtain⟨t',rfl⟩:=ry;exact PySem.W.eq_bytes (Yt I q zcl)
   | _=>exact #[as]
 | _=>cases y<;>exact #[as]
theorem Bx:OpR X (compareOp .NotEq) rNe:=by
 intro pins s σ H x y v u Q I rx ry h;obtain⟨hs,q⟩:=h;cases x with
 | non =>
   cases rx;cases y with
   | non=>cases ry;exact #[ai,PySem.EqNone.ne_none_none]
   | bl j=>cases ry;exact #[ai,PySem.EqNone.ne_none_bool]
   | int j=>obtain⟨t',rfl⟩:=ry;exact #[ai,PySem.EqNone.ne_none_int]
   | str j=>obtain⟨t',rfl⟩:=ry;exact #[ai,PySem.EqNone.ne_none_str]
   | _=>exact #[as]
 | bl i =>
   cases rx;cases y with
   | non=>cases ry;exact #[ai,PySem.EqNone.ne_bool_none]
   | bl j=>cases ry;exact ne_bool (Yt I q (congrArg not zfp))
   | str j=>obtain⟨t',rfl⟩:=ry;exact #[ai,PySem.EqMixed.ne_bool_str]
   | _=>exact #[as]
 | int i =>
   obtain⟨t,rfl⟩:=rx;cases y with
   | non=>cases ry;exact #[ai,PySem.EqNone.ne_int_none]
   | int j=>obtain⟨t',rfl⟩:=ry;exact ne_int (Yt I q (congrArg not zcj))
   | str j=>obtain⟨t',rfl⟩:=ry;exact #[ai,PySem.EqMixed.ne_int_str]
   | _=>exact #[as]
 | str i =>
   obtain⟨t,rfl⟩:=rx;cases y with
   | non=>cases ry;exact #[ai,PySem.EqNone.ne_str_none]
   | bl j=>cases ry;exact #[ai,PySem.EqMixed.ne_str_bool]
   | int j=>obtain⟨t',rfl⟩:=ry;exact #[ai,PySem.EqMixed.ne_str_int]
   | str j=>obtain⟨t',rfl⟩:=ry;exact ne_str (Yt I q (congrArg not zck))
   | _=>exact #[as]
 | byt i =>
   obtain⟨t,rfl⟩:=rx;cases y with
   | byt j=>obtain⟨t',rfl⟩:=ry;exact PySem.W.ne_bytes (Yt I q (congrArg not zcl))
   | _=>exact #[as]
 | _=>cases y<;>exact #[as]
theorem Kr:OpR X (compareOp .Lt) (rI0 fun i j=>.bl (decide (i<j))):=zh3 fun _ _ _ _ _ _ _ q=>lt_int q
theorem zfq:OpR X (compareOp .LtE) (rI0 fun i j=>.bl (decide (i<=j))):=zh3 fun _ _ _ _ _ _ _ q=>le_int q
theorem Ti:OpR X (compareOp .Gt) (rI0 fun i j=>.bl (decide (j<i))):=zh3 fun _ _ _ _ _ _ _ q=>gt_int q
theorem zfr:OpR X (compareOp .GtE) (rI0 fun i j=>.bl (decide (j<=i))):=zh3 fun _ _ _ _ _ _ _ q=>ge_int q
theorem Pa:OpR X (compareOp .Is) fun x y H Q=>y=.non/\Q (.bl (decide (x=.non))) H:=by
 intro pins s σ H x y v u Q I rx ry h;obtain⟨rfl,q⟩:=h;cases ry;refine is_none_gen (Yt I q ?_);cases x<;>first
  | (cases rx;rfl)
  | (obtain⟨t,rfl⟩:=rx;rfl)
theorem Uv:OpR X (compareOp .IsNot) fun x y H Q=>y=.non/\Q (.bl (!#[j,x=.non])) H:=by
 intro pins s σ H x y v u Q I rx ry h;obtain⟨rfl,q⟩:=h;cases ry;refine isnot_none_gen (Yt I q ?_);cases x<;>first
  | (cases rx;rfl)
  | (obtain⟨t,rfl⟩:=rx;rfl)
theorem Zu(b:Expr)(h:op≠.In:=by decide)(h2:op≠.NotIn:=by decide):behindInMarks op b=false:=by
 have e1:(op == CmpOp.In)=false:=by cases op<;>first|rfl|exact absurd rfl h
 have e2:(op == CmpOp.NotIn)=false:=by cases op<;>first|rfl|exact absurd rfl h2
 cases b<;>simp[behindInMarks,e1,e2]
theorem Vr{op:CmpOp}{r:R2}(ho:OpR X (compareOp op) r)(ha:PE X a ta)(hb:PE X b tb)(hm:behindInMarks op b=false):PE X (.Compare a [op] [b] pos) (tOp r ta tb):=by
 intro pins s σ H Q I h;exact wpAny_Compare1 (binT ha hb I h fun v u s2 x y H2 I2 rx ry q=>ho pins s2 σ H2 x y v u Q I2 rx ry q) hm
def Ma(t:TE):TT:=fun σ H Q=>t σ H fun x H'=>∃ k,x=.bl k/\Q k H'
theorem Zo(ho:OpR X (compareOp op) r)(ha:PE X a ta)(hb:PE X b tb)(hm:behindInMarks op b=false):PT X (.Compare a [op] [b] pos) (Ma (tOp r ta tb)):=by
 intro pins s σ H Q I h;refine wpAny_isTrue_Compare1 (thn (ha pins s σ H _ I h) fun v s1 ⟨x,H1,I1,r1,q1⟩=>thn (hb pins s1 σ H1 _ I1 q1) fun u s2 ⟨y,H2,I2,r2,q2⟩ =>
  thn (ho pins s2 σ H2 x y v u _ I2 r1 r2 q2) fun c s3 ⟨z,H3,I3,r3,k,e,q3⟩=>?_) hm
 subst e;cases r3;exact wpAny_truthy_bool ⟨H3,I3,q3⟩
def TruV(K:Frag)(x:V)(H:Hp)(k:Bool):Prop :=
 match x with
 | .non=>k=false
 | .bl b=>k=b
 | .int i=>k=(i != 0)
 | .str y=>y.length<=sizeLine/\k=((y.length:Int) != 0)
 | .byt y=>y.size<=sizeLine/\k=((y.size:Int) != 0)
 | .ref p=>(∃ xs,SqL K H p xs/\k=!xs.isEmpty)\/(∃ xs,SqT K H p xs/\k=!xs.isEmpty)\/∃ kvs,H p=#[c,.dK,kvs]/\k=!kvs.isEmpty
 | _=>False
theorem za8(r:KV kvs vs):(!vs.isEmpty)=!kvs.isEmpty:=by
 cases r<;>rfl
theorem Ir(r:Vals xs its):(!its.toArray.isEmpty)=!xs.isEmpty:=by
 cases r<;>simp
theorem O5:(sizeLine:Nat)<2 ^ 63:=by rw[sizeLine_eq];decide
theorem zfs:zmv X (fun x H Q=>∃ k,TruV X.K x H k/\Q k H):=by
 intro pins s σ H x v Q I rx h;obtain⟨k,e,q⟩:=h;have hl:=O5;have hs:sizeLine=16777216:=sizeLine_eq;cases x with
 | non =>
   cases rx;have e':k=false:=e;subst e';exact truthy_none ⟨H,I,q⟩
 | bl b =>
   cases rx;have e':k=b:=e;subst e';exact wpAny_truthy_bool ⟨H,I,q⟩
 | int i =>
   obtain⟨t,rfl⟩:=rx;have e':k=(i != 0):=e;subst e';exact PySem.P.truthy_int ⟨H,I,q⟩
 | str y =>
   obtain⟨t,rfl⟩:=rx;obtain⟨hy,e'⟩:y.length<=sizeLine/\k=((y.length:Int) != 0):=e;subst e';exact PySem.P.truthy_str ⋯ ⟨H,I.tok _,q⟩
 | byt y =>
   obtain⟨t,rfl⟩:=rx;obtain⟨hy,e'⟩:y.size<=sizeLine/\k=((y.size:Int) != 0):=e;subst e';exact PySem.W.truthy_bytes ⋯ ⟨H,I.tok _,q⟩
 | ref p =>
   cases rx;have e':(∃ xs,SqL X.K H p xs/\k=!xs.isEmpty)\/(∃ xs,SqT X.K H p xs/\k=!xs.isEmpty)\/∃ kvs,H p=#[c,.dK,kvs]/\k=!kvs.isEmpty:=e;rcases e' with ⟨xs,hx,e'⟩|⟨xs,hx,e'⟩|⟨kvs,hx,e'⟩
   ·subst e';obtain⟨its,r,pl,hz⟩:=I.list hx;have hlen:=r.length;exact wpAny_truthy_list pl.isList (by simp only[zw5];omega) ⟨H,I.tok _,by rw[Ir r];exact q⟩
   ·subst e';obtain⟨its,r,pl,hz⟩:=I.tuple hx;have hlen:=r.length;exact truthy_tuple pl (by simp only[zw5];omega) ⟨H,I.tok _,by rw[Ir r];exact q⟩
   ·subst e';obtain⟨hz,hS,vs,r,m⟩:kvs.length<=sizeLine/\(p == sysModules)=false/\∃ vs,KV kvs vs/\s.heap.DictOf (Yn X.prog X.w) p vs:=I.hok p _ hx;have hlen:kvs.length=vs.length:=Paired.length r;exact wpAny_truthy_dict hS m ⋯ ⟨H,I.tok _,by rw[za8 r];exact q⟩
 | _=>exact(show False from e).elim
theorem zft(ha:PE X a ta)(he:∀ whole,isTrue a X.env whole=(do let v <- whole;standAt a.pos;holding [v] (truthy v))) :
  PT X a (fun σ H Q=>ta σ H fun x H'=>∃ k,TruV X.K x H' k/\Q k H'):=by
 intro pins s σ H Q I h;exact isTrue_plain (thn (ha pins s σ H _ I h) fun v s1 ⟨x,H1,I1,r1,q1⟩=>zfs pins s1 σ H1 x v Q I1 r1 q1) (he _)
theorem Rm(r:Vals [x] us):∃ u,us=[u]/\RelV x u:=by
 cases r with
 | cons r1 r2=>cases r2;exact#[t,_,r1]
theorem zcm(r:Vals [x,y] us):∃ u w',us=[u,w']/\RelV x u/\RelV y w':=by
 cases r with
 | cons r1 r2 =>
   cases r2 with
   | cons r3 r4=>cases r4;exact⟨_,_,rfl,r1,r3⟩
theorem E4(hc:X.calm=true):W8 X (.builtin "max") (fun xs H Q=>∃ i j,xs=#[Q,i,j]/\Q (.int (if j>i then j else i)) H):=by
 intro pins s σ H xs us Q I r h;obtain⟨i,j,rfl,q⟩:=h;obtain⟨u,w',rfl,⟨t,rfl⟩,⟨t',rfl⟩⟩:=zcm r;refine max_two_ints (I.ok.hd hc) fun h' tk k=>⟨_,H,I.kept k,?_,q⟩
 by_cases hj:j>i
 ·rw[#[l,hj],#[l,hj]];exact#[C,_]
 ·rw[#[g,hj],#[g,hj]];exact#[C,_]
theorem E5(hc:X.calm=true):W8 X (.builtin "min") (fun xs H Q=>∃ i j,xs=#[Q,i,j]/\Q (.int (if j<i then j else i)) H):=by
 intro pins s σ H xs us Q I r h;obtain⟨i,j,rfl,q⟩:=h;obtain⟨u,w',rfl,⟨t,rfl⟩,⟨t',rfl⟩⟩:=zcm r;refine min_two_ints (I.ok.hd hc) fun h' tk k=>⟨_,H,I.kept k,?_,q⟩
 by_cases hj:j<i
 ·rw[#[l,hj],#[l,hj]];exact#[C,_]
 ·rw[#[g,hj],#[g,hj]];exact#[C,_]
theorem Rn:W8 X (.type "int") (fun xs H Q=>(∃ i,xs=[.int i]/\Q (.int i) H)\/∃ k,xs=[.bl k]/\Q (.int (if k then 1 else 0)) H):=by
 intro pins s σ H xs us Q I r h;rcases h with ⟨i,rfl,q⟩|⟨k,rfl,q⟩
 ·obtain⟨u,rfl,t,rfl⟩:=Rm r;exact call_int_int ⟨.int i,H,I,#[C,_],q⟩
 ·obtain⟨u,rfl,r1⟩:=Rm r;cases r1;exact call_int_bool ⟨.int (if k then 1 else 0),H,I.tok _,#[C,_],q⟩
end
structure ObjM(h:Heap)(x dx C:Addr)(mA:#[V]):Prop where
 obj:h.get? x=some (PySem.W.instObj C dx)
 ns:h.Ns1 dx mA
 ne:dx≠x
theorem zdz{h:Heap}{dx:Addr}{mA:#[V]}(n:h.Ns1 dx mA):∃ od,h.get? dx=some od/\∀ name,PySem.W.lookIn name od=#[c,mA,name]:=by
 obtain⟨o,es,ep,ho,hd,hk,_,hm⟩:=n;refine⟨o,ho,fun name=>?_⟩;have e:=hm name;unfold nsFind findBy at e;rw[<- Array.find?_toList] at e;unfold PySem.W.lookIn;rw[hd];dsimp only;split
 ·rename_i y q;rw[q] at e;exact congrArg some e
 ·rename_i q;rw[q] at e;have a:es.toList.any (·.refKey)=false:=by
   rw[List.any_eq_false];intro y hy;obtain⟨z,t,hkey⟩:=hk y (Array.mem_toList_iff.mp hy);simp[DictEntry.refKey,hkey]
  have a':¬ es.toList.any (·.refKey)=true:=by rw[a];exact zw8
  rw[#[g,a']];exact congrArg some e
theorem ObjM.look(I:ObjM h x dx C mA):∃ od,PySem.W.InstAt h x (PySem.W.instObj C dx) C (some od)/\∀ name,PySem.W.lookIn name od=#[c,mA,name] :=
 let ⟨od,ho,hl⟩:=zdz I.ns
 ⟨od,⟨I.obj,rfl,rfl,ho⟩,hl⟩
section
variable{prog:Program}{w:World}{A:Around}{E:Value->Shared->Prop}{s:Shared}{K:Frag}{x dx C f:Addr}{mA:#[V]}{name:Str}{v:Value}
theorem zh4(X:K.In s.heap)(I:ObjM s.heap x dx C mA)(hg:PySem.W.plainGet K C name=true)(hh:PySem.W.hasDictIn K C=true)
  (ha:PySem.W.findIn K (.ref C) name=some none) (hv:mA name=some v) (hv':PySem.W.handedIn v=true) (h:Q v { s with toks:=s.toks+1 }) :
  wpAny (model prog w) A (getAttr (.ref x) name expr) Q E s:=by
 obtain⟨od,J,hl⟩:=I.look;exact PySem.W.get_value X J (PySem.W.plainGet_of hg).1 (PySem.W.findObj_own hh ha rfl (by rw[hl,hv])) hv' h
theorem zfu(X:K.In s.heap)(I:ObjM s.heap x dx C mA)(hg:PySem.W.plainGet K C name=true)
  (hf:PySem.W.findIn K (.ref C) name=some #[b,f]) (ht:PySem.W.isFn K (.ref f)=true) (hv:mA name=none) (h:Q (.ref f,[.ref x]) s) :
  wpAny (model prog w) A (getMethod (.ref x) name pl) Q E s:=by
 obtain⟨od,J,hl⟩:=I.look;exact PySem.W.method_fn X J (PySem.W.plainGet_of hg).1 (PySem.W.plainGet_of hg).2 hf (beq_iff_eq.mp ht) (by show (PySem.W.lookIn name od).map (·.isSome)=some false;rw[hl,hv];rfl) h
theorem zh5(X:K.In s.heap)(I:ObjM s.heap x dx C mA)
  (hs:PySem.W.findIn K (.ref C) "__setattr__"=some #[c,.builtin,"object.__setattr__"]) (hp:PySem.W.plainOver K C=true) (ht:PySem.W.takerIn K C name=some none) (hh:PySem.W.hasDictIn K C=true)
  (hw:PySem.Within mA ns) (hsz:ns.length<=sizeLine)
  (h:∀ h',ObjM h' x dx C (fun y=>if y=name then some v else mA y)->Heap.SameBut dx s.heap h'->Q () { s with heap:=h',toks:=s.toks+2 }) :
  wpAny (model prog w) A (setAttr (.ref x) name v) Q E s:=by
 obtain⟨od,J,hl⟩:=I.look;refine PySem.W.set_plain X J hs (PySem.W.osa_open (s:={ s with toks:=s.toks+1 }) (r:=none) X J hp ht fun b=>?_);obtain⟨cd,hc,hd'⟩:=PySem.W.any_some hh;have hx:s.heap.get? x=some ⟨.ref C,some dx,.plain,#[]⟩:=I.obj;refine wpAny_bind (wpAny_pure (wpAny_bind (wpAny_bind (wpAny_loadPart hx (wpAny_bind (PySem.W.Looks.here (s:={ s with toks:=s.toks+1 }) (PySem.W.looks_clsIn X hc) ?_))))));rw[hd'];refine wpAny_pure (a:=some dx) (wpAny_bind (wpAny_pure (wpAny_bind ?_)));refine wpAny_nsSet1 (s:={ s with toks:=s.toks+1 }) I.ns fun h' hn2 hs2=>?_;obtain⟨oD,esD,epD,hoD,hdD,hcD⟩:=hn2.count (PySem.Within.cons name v hw);refine wpAny_bind (wpAny_lookBehind hoD (by rw[hdD];exact pastItsLine_dict (zw6 hcD (by rw[zxb];omega))) ?_);exact wpAny_pure (h _ ⟨(hs2.2 _ (Ne.symm I.ne)).trans I.obj,hn2,I.ne⟩ hs2)
theorem zfv(X:K.In s.heap)(hm:PySem.W.makesIn K C=true)
  (hi:PySem.W.findIn K (.ref C) "__init__"=some #[b,f]) (hf:PySem.W.typeIn K (.ref f)=#[c,.type,"function"])
  (h:codeAny (model prog w) (A.under (.builtin "type.__call__" ⟨.ref C :: vs,kw⟩)) (.call (.ref f) ⟨.ref (s.heap.objs.size+1) :: vs,kw⟩) (PySem.W.InitBack (s.heap.objs.size+1) R)
   { s with heap:=(s.heap.push PySem.W.emptyDict).push (PySem.W.instObj C s.heap.objs.size) }) :
  codeAny (model prog w) A (.call (.ref C) ⟨vs,kw⟩) R s:=by
 obtain⟨hh,g,d,t,os⟩:=s;exact PySem.W.make_core (PySem.W.makes_of X hm) (PySem.W.looks_findIn X hi) (fun self=>PySem.W.bind_fn X self hf) (.inl rfl) h
end
def putF(f:Str)(v:V):#[ad]->#[ad]
 | []=>[(f,v)]
 | (g,x) :: r=>if g=f then (g,v) :: r else (g,x) :: putF f v r
theorem Ks(f g:Str)(v:V):∀ fs:#[ad],(putF f v fs).lookup g=if g=f then some v else fs.lookup g
 | []=>by
   show List.lookup g [(f,v)]=_;by_cases h:g=f
   ·have hb:(g == f)=true:=beq_iff_eq.mpr h;simp only[List.lookup,hb,#[l,h]]
   ·have hb:(g == f)=false:=zxg.mpr h;simp only[List.lookup,hb,#[g,h]]
 | (k,x) :: r=>by
   have ih:=Ks f g v r;rw[show putF f v ((k,x) :: r)=(if k=f then (k,v) :: r else (k,x) :: putF f v r) from rfl];by_cases hk:k=f
   ·rw[#[l,hk]];by_cases h:g=k
    ·have hb:(g == k)=true:=beq_iff_eq.mpr h;simp only[List.lookup,hb,if_pos (h.trans hk)]
    ·have hb:(g == k)=false:=zxg.mpr h;simp only[List.lookup,hb,#[g,(fun e:g=f=>h (e.trans hk.symm))]]
   ·rw[#[g,hk]];by_cases h:g=k
    ·have hb:(g == k)=true:=beq_iff_eq.mpr h;simp only[List.lookup,hb,#[g,(fun e:g=f=>hk (h.symm.trans e))]]
    ·have hb:(g == k)=false:=zxg.mpr h;simp only[List.lookup,hb];exact ih
theorem Lg(f:Str)(v:V):∀ fs:#[ad],f∈(putF f v fs).map (·.1)/\∀ g,g∈fs.map (·.1)->g∈(putF f v fs).map (·.1)
 | []=>⟨by simp[putF],fun g h=>by simp at h⟩
 | (k,x) :: r=>by
   obtain⟨i1,i2⟩:=Lg f v r;rw[show putF f v ((k,x) :: r)=(if k=f then (k,v) :: r else (k,x) :: putF f v r) from rfl];by_cases hk:k=f
   ·rw[#[l,hk]];subst hk;exact⟨by simp,fun g h=>by simpa using h⟩
   ·rw[#[g,hk]];refine⟨?_,fun g h=>?_⟩
    ·rw[zw3];exact zxa _ i1
    ·rw[zw3] at h ⊢;rcases zwu.mp h with e|e
     ·exact zwu.mpr (.inl e)
     ·exact zxa _ (i2 g e)
theorem Kt(f:Str)(v:V):∀ fs:#[ad],(putF f v fs).length<=fs.length+1
 | []=>by simp[putF]
 | (k,x) :: r=>by
   have ih:=Kt f v r;rw[show putF f v ((k,x) :: r)=(if k=f then (k,v) :: r else (k,x) :: putF f v r) from rfl];by_cases hk:k=f
   ·rw[#[l,hk],zxb,zxb];omega
   ·rw[#[g,hk],zxb,zxb];omega
theorem RelO.some_of(r:RelO (some v) o):∃ u,o=some u/\RelV v u:=by
 cases o with
 | none=>exact(show False from r).elim
 | some u=>exact#[t,u,r]
theorem RelO.none_of(r:RelO none o):o=none:=by
 cases o with
 | none=>rfl
 | some u=>exact(show False from r).elim
theorem zd0(r:RelV v u):PySem.W.handedIn u=true:=by
 cases v with
 | non=>cases (show u=Value.none from r);rfl
 | bl b=>cases (show u=Value.bool b from r);rfl
 | int i=>obtain⟨t,e⟩:=(show ∃ t,u=Value.int i t from r);cases e;rfl
 | str x=>obtain⟨t,e⟩:=(show ∃ t,u=Value.str x t from r);cases e;rfl
 | byt b=>obtain⟨t,e⟩:=(show ∃ t,u=Value.bytes b t from r);cases e;rfl
 | flt b=>obtain⟨t,e⟩:=(show ∃ t,u=Value.float b t from r);cases e;rfl
 | ref a=>cases (show u=Value.ref a from r);rfl
 | ty n=>cases (show u=Value.type n from r);rfl
section
variable{P:Program}{w:World}{H H':Hp}{h h':Heap}{a C dx:Addr}{fs fs':#[ad]}
theorem Ie(hok:HOk P w H h)(e:H a=some (.ins C dx fs)):∃ mA,ObjM h a dx C mA/\(∀ f,RelO (fs.lookup f) (mA f))/\PySem.Within mA (fs.map (·.1))/\fs.length<=1000/\H dx=#[c,.own,a]:=by
 obtain⟨d,z,ne,ob,mA,n,r,q⟩:=(show Y0 P w H h a (.ins C dx fs) from hok a _ e);exact⟨mA,⟨ob,n,ne⟩,r,q,z,d⟩
end
structure Cls(K:Frag)(C:Addr):Prop where
 pg:PySem.W.plainGet K C Str.empty=true
 hd:PySem.W.hasDictIn K C=true
 po:PySem.W.plainOver K C=true
 sa:PySem.W.findIn K (.ref C) "__setattr__"=some #[c,.builtin,"object.__setattr__"]
theorem Cls.get{K:Frag}{C:Addr}(c:Cls K C)(f:Str):PySem.W.plainGet K C f=true:=c.pg
def Xv(K:Frag)(C:Addr)(f:Str):Prop:=PySem.W.findIn K (.ref C) f=some none
theorem Xv.taker{K:Frag}{C:Addr}{f:Str}(n:Xv K C f):PySem.W.takerIn K C f=some none:=by
 unfold PySem.W.takerIn;rw[show PySem.W.findIn K (.ref C) f=some none from n];rfl
structure Con(K:Frag)(C:Addr)(f:Str)(v:V)(u:Value):Prop where
 at_:PySem.W.findIn K (.ref C) f=#[c,some,u]
 rel:RelV v u
 get:PySem.W.specialIn K u "__get__"=some none
 cp:PySem.W.copiedNames.contains f=false
structure zfw(K:Frag)(C:Addr)(m:Str)(f:Addr):Prop where
 at_:PySem.W.findIn K (.ref C) m=some #[b,f]
 fn:PySem.W.isFn K (.ref f)=true
 kp:PySem.W.keepIn K (.ref f)=true
section
variable{X:Cx}{pins:#[x]}{σ:St}{H:Hp}{s:Shared}{a C dx:Addr}{fs:#[ad]}{f:Str}{v:V}{A:Around}{E:Value->Shared->Prop}
theorem za9(I:#[h])(e:H a=some (.ins C dx fs))(c:Cls X.K C)(n:Xv X.K C f)(l:fs.lookup f=some v)
  (h:∀ u s',#[G,H,s']->RelV v u->Q u s'):#[ab,A,getAttr (.ref a) f b,Q,E,s]:=by
 obtain⟨mA,O,r,_,_,_⟩:=Ie I.hok e;obtain⟨u,hu,ru⟩:=RelO.some_of (v:=v) (o:=mA f) (by rw[<- l];exact r f);exact zh4 I.kIn O (c.get f) c.hd n hu (zd0 ru) (h u _ (I.tok _) ru)
theorem Iu(I:#[h])(e:H a=some (.ins C dx fs))(c:Cls X.K C)(k:zfw X.K C m g)(l:fs.lookup m=none)
  (h:Q (.ref g,[.ref a]) s):#[ab,A,getMethod (.ref a) m pl,Q,E,s]:=by
 obtain⟨mA,O,r,_,_,_⟩:=Ie I.hok e;have hn:mA m=none:=RelO.none_of (by rw[<- l];exact r m);exact zfu I.kIn O (c.get m) k.at_ k.fn hn h
theorem zba(I:#[h])(e:H a=some (.ins C dx fs))(c:Cls X.K C)(n:Xv X.K C f)(hl:fs.length<1000)(ry:RelV y u)
  (h:∀ s',#[G,upd H a (.ins C dx (putF f y fs)),s']->Q () s'):#[ab,A,setAttr (.ref a) f u,Q,E,s]:=by
 obtain⟨mA,O,r,wi,_,ho⟩:=Ie I.hok e;have hz:(fs.map (·.1)).length<=sizeLine:=by rw[zwq,sizeLine_eq];omega
 refine zh5 I.kIn O c.sa c.po n.taker c.hd wi hz fun h' O' sb=>h _ ?_;have hd:∃ o,h'.get? dx=#[d]:=let ⟨o,_,_,e',_⟩:=O'.ns;⟨o,e'⟩;refine I.write (x:=a) (e:=dx) (by rw[e];exact True.intro) (.inr ho) (fun b q hb z=>(sb.2 b hb).trans z) hd ?_;refine⟨by rw[Zi O.ne];exact ho,?_,O.ne,O'.obj,_,O'.ns,fun g=>?_,fun g hg=>?_⟩
 ·have:=Kt f y fs;omega
 ·show RelO ((putF f y fs).lookup g) (if g=f then some u else mA g);rw[Ks];by_cases q:g=f
  ·rw[#[l,q],#[l,q]];exact ry
  ·rw[#[g,q],#[g,q]];exact r g
 ·by_cases q:g=f
  ·rw[q];exact(Lg f y fs).1
  ·refine(Lg f y fs).2 g (wi g fun z=>hg ?_);show (if g=f then some u else mA g)=none;rw[#[g,q]];exact z
theorem Inv.made(I:#[h]):Inv X pins σ (upd (upd H s.heap.objs.size (.own (s.heap.objs.size+1))) (s.heap.objs.size+1) (.ins C s.heap.objs.size []))
  { s with heap:=(s.heap.push PySem.W.emptyDict).push (PySem.W.instObj C s.heap.objs.size) }:=by
 have e1:(s.heap.push PySem.W.emptyDict).get? s.heap.objs.size=some PySem.W.emptyDict:=Heap.get?_push_size s.heap rfl;have e2:((s.heap.push PySem.W.emptyDict).push (PySem.W.instObj C s.heap.objs.size)).get? (s.heap.objs.size+1)=some (PySem.W.instObj C s.heap.objs.size):=by
  have:=Heap.get?_push_size (s.heap.push PySem.W.emptyDict) (o:=PySem.W.instObj C s.heap.objs.size) rfl
  rwa [Heap.size_push] at this
 have e3:(s.heap.push PySem.W.emptyDict).Ns s.heap.objs.size fun _=>none:=⟨PySem.W.emptyDict,#[],_,e1,rfl,fun e he=>absurd he (by simp),fun _=>rfl⟩;have I1:=I.laid (a:=s.heap.objs.size) (o:=.own (s.heap.objs.size+1)) (h':=s.heap.push PySem.W.emptyDict) (t':=s.toks) (fun b u q=>#[ah,_,q]) (zwz _) ⟨_,e1⟩;refine I1.laid (a:=s.heap.objs.size+1) (o:=.ins C s.heap.objs.size []) (t':=s.toks) (fun b u q=>#[ah,_,q]) (Nat.le_of_eq (Heap.size_push _ _)) ?_;have ne:s.heap.objs.size≠s.heap.objs.size+1:=zxj (Nat.lt_succ_self _);refine⟨by rw[Zi ne,Zc],zxk _,ne,e2,fun _=>none,(Heap.Ns1.of_empty e3).at fun o q=>#[ah,_,q],fun _=>True.intro,fun y hy=>absurd rfl hy⟩
theorem zh6(hb:attributeBase e f env (eval e env)=eval e env)
  (h:wpAny (model prog w) A (eval e env) (fun o s₁=>wpAny (model prog w) A (getAttr o f true) Q E s₁) E s):wpAny (model prog w) A (eval (.Attribute e f pos) env) Q E s :=
 Attribute_any_ h (by rw[arm_eval_Attribute,hb])
end
inductive zlq(K:Frag)(f:Str)(Q:VK)(x:V)(H1:Hp):Prop where
 | mk(a)(C)(dx)(fs)(v)(_:x=.ref a)(_:H1 a=some (.ins C dx fs))(_:Cls K C)(_:Xv K C f)(_:fs.lookup f=some v)(_:Q v H1)
def zlr(K:Frag)(ta:TE)(f:Str):TE:=fun σ H Q=>ta σ H fun x H1=>zlq K f Q x H1
inductive zls(K:Frag)(f:Str)(D:Q7)(σ:L2.St)(y:V)(x:V)(H2:Hp):Prop where
 | mk(a)(C)(dx)(fs)(_:x=.ref a)(_:H2 a=some (.ins C dx fs))(_:Cls K C)(_:Xv K C f)(_:fs.length<1000)(_:D.nx σ (upd H2 a (.ins C dx (putF f y fs))))
def zlt(K:Frag)(ta tv:TE)(f:Str):TS:=fun D σ H=>tv σ H fun y H1=>ta σ H1 fun x H2=>zls K f D σ y x H2
section
variable{X:Cx}{o e value:Expr}{f:Str}{pos pos' tpos:Pos}{ta tv:TE}
theorem zj0(he:PE X e ta)(hb:attributeBase e f X.env #[D,e]=#[D,e]):PE X (.Attribute e f pos) (zlr X.K ta f):=by
 intro pins s σ H Q I h;refine zh6 hb (thn (he pins s σ H _ I h) fun u s1 ⟨x,H1,I1,rx,a,C,dx,fs,v,ex,ea,c,n,l,q⟩=>?_);subst ex;obtain rfl:u=Value.ref a:=rx;exact za9 I1 ea c n l fun u' s2 I2 ru=>⟨v,H1,I2,ru,q⟩
theorem zj1(ha:PE X o ta)(hv:PE X value tv)(hs:swapsWith value (some (.Attribute o f pos')) pos.line X.env=pure false):PS X (.Assign [.Attribute o f pos'] value pos) (zlt X.K ta tv f):=by
 intro pins s σ H D I h;refine plainObj_wpAny_Assign_Attribute (thn (hv pins s σ H _ I h) fun u s1 ⟨y,H1,I1,ry,q⟩=>thn (ha pins s1 σ H1 _ I1 q) fun ov s2 ⟨x,H2,I2,rx,a,C,dx,fs,ex,ea,c,n,l,q2⟩=>?_) hs;subst ex;obtain rfl:ov=Value.ref a:=rx;exact zba I2 ea c n l ry fun s3 I3=>⟨σ,_,I3,q2⟩
end
section
variable{X:Cx}{pins:#[x]}{σ:St}{H:Hp}{s:Shared}{A:Around}{E:Value->Shared->Prop}{Q:Value->Shared->Prop}{c:Value}{b:Bool}
inductive Lh(K:Frag)(H:Hp):V->Value->Prop where
 | non:Lh K H .non (.type "NoneType")
 | bl (x:Bool):Lh K H (.bl x) (.type "bool")
 | int (i:Int):Lh K H (.int i) (.type "int")
 | str (x:Str):Lh K H (.str x) (.type "str")
 | flt (x:UInt64):Lh K H (.flt x) (.type "float")
 | lst {a:Addr} {xs:#[a]} (e:#[y,H,a,xs]):Lh K H (.ref a) (.type "list")
 | frz {a:Addr} {o:Obj} {xs:#[a]} (e:H a=some (.frz o (.lst xs))):Lh K H (.ref a) (.type "list")
 | tup {a:Addr} {xs:#[a]} (e:#[R,H,a,xs]):Lh K H (.ref a) (.type "tuple")
 | dK {a:Addr} {kvs:#[X]} (e:H a=#[c,.dK,kvs]):Lh K H (.ref a) (.type "dict")
 | dT {a:Addr} {kvs:List (List Key×V)} (e:H a=#[c,.dT,kvs]):Lh K H (.ref a) (.type "dict")
 | ins {a C dx:Addr} {fs:#[ad]} (e:H a=some (.ins C dx fs)) (cl:Cls K C) (ha:PySem.W.findIn K (.ref C) "__class__"=some #[c,.builtin,"object.__class__"])
   (hn:PySem.W.specialIn K (.builtin "object.__class__") "__get__"=some #[c,.builtin,"getset_descriptor.__get__"]) (htk:PySem.W.takesIn K (.builtin "object.__class__")=some true)
   (hm:PySem.W.mroIn K C (.type "object")=some true):Lh K H (.ref a) (.ref C)
theorem zd1(I:#[h])(rx:RelV x u)(ty:Lh X.K H x t)(e:PySem.W.kitOne X.K t c=some b)(h:∀ tk,Q (.bool b) { s with toks:=tk }) :
  wpAny (model X.prog X.w) A (call (.builtin "isinstance") [u,c]) Q E s:=by
 cases ty with
 | non=>cases (show u=Value.none from rx);exact #[av,PySem.W.kitx_none,True.intro,e,h]
 | bl y=>cases (show u=Value.bool y from rx);exact #[av,PySem.W.kitx_bool,True.intro,e,h]
 | int i=>obtain⟨t,q⟩:=(show ∃ t,u=Value.int i t from rx);cases q;exact #[av,PySem.W.kitx_int,True.intro,e,h]
 | str y=>obtain⟨t,q⟩:=(show ∃ t,u=Value.str y t from rx);cases q;exact #[av,PySem.W.kitx_str,True.intro,e,h]
 | flt y=>obtain⟨t,q⟩:=(show ∃ t,u=Value.float y t from rx);cases q;exact #[av,PySem.W.kitx_float,True.intro,e,h]
 | @lst a xs ea =>
   cases (show u=Value.ref a from rx);obtain⟨_,_,n,_,h1⟩:=(show Y0 X.prog X.w H s.heap a (.lst xs) from I.hok a _ ea);exact #[av,PySem.W.kitx_list,⟨_,h1,rfl⟩,e,h]
 | @frz a ob xs ea =>
   cases (show u=Value.ref a from rx);obtain⟨_,_,_,n,_,h1⟩:=(show Y0 X.prog X.w H s.heap a (.frz ob (.lst xs)) from I.hok a _ ea);exact #[av,PySem.W.kitx_list,⟨_,h1,rfl⟩,e,h]
 | @tup a xs ea =>
   cases (show u=Value.ref a from rx);obtain⟨_,_,_,p⟩:=(show Y0 X.prog X.w H s.heap a (.tup xs) from I.hok a _ ea);obtain⟨o,h1,h2,_⟩:=p;exact #[av,PySem.W.kitx_tuple,⟨o,h1,h2⟩,e,h]
 | @dK a kvs ea =>
   cases (show u=Value.ref a from rx);obtain⟨_,_,vs,_,p⟩:=(show Y0 X.prog X.w H s.heap a (.dK kvs) from I.hok a _ ea);obtain⟨o,es,ep,h1,h2,_⟩:=p;exact #[av,PySem.W.kitx_dict,⟨o,h1,h2.1⟩,e,h]
 | @dT a kvs ea =>
   cases (show u=Value.ref a from rx);obtain⟨_,_,xs,_,o,es,ep,h1,h2,_⟩:=(show Y0 X.prog X.w H s.heap a (.dT kvs) from I.hok a _ ea);exact #[av,PySem.W.kitx_dict,⟨o,h1,h2.1⟩,e,h]
 | @ins a C dx fs ea cl ha hn htk hm =>
   cases (show u=Value.ref a from rx);obtain⟨mA,O,_⟩:=Ie I.hok ea;obtain⟨od,J,_⟩:=O.look;exact #[av,PySem.W.kitx_own (cl.get _) cl.hd ha hn htk hm,J,e,h]
end
structure W9(k:Nat)(A:Around):Prop where
 hd:A.handled=none
 dp:A.depth+3*k+5<recursionLimit
 un:A.units+16*k+200<cLine
theorem W9.mono(r:W9 k A)(h:j<=k):W9 j A:=⟨r.hd,by have:=r.dp;omega,by have:=r.un;omega⟩
theorem W9.deeper(r:W9 (k+1) A)(env:Env):W9 k (A.deeper env) :=
 ⟨r.hd,by have:=r.dp;show A.depth+1+3*k+5<_;omega,by have:=r.un;show A.units+3+16*k+200<_;omega⟩
theorem zbb{A:Around}{C:Addr}{us:#[U]}{kw:List (Str×Value)}:(A.under (.builtin "type.__call__" ⟨.ref C :: us,kw⟩)).depth=A.depth+1:=by
 first|rfl|simp[Around.under,Code.weight,Code.isCreation,Code.isGuard,Code.isCaller,Code.frames,Code.isFrame,guardIds]
theorem zbc{A:Around}{C:Addr}{us:#[U]}{kw:List (Str×Value)}:(A.under (.builtin "type.__call__" ⟨.ref C :: us,kw⟩)).units=A.units+1:=by
 first|rfl|simp[Around.under,Code.cUnits,Code.frames,Code.isFrame]
theorem W9.make(r:W9 (k+1) A)(C:Addr)(us:#[U])(kw:List (Str×Value)):W9 k (A.under (.builtin "type.__call__" ⟨.ref C :: us,kw⟩)) :=
 ⟨r.hd,by have:=r.dp;rw[zbb];omega,by have:=r.un;rw[zbc];omega⟩
theorem W9.depth(r:W9 k A):A.depth<recursionLimit:=by have:=r.dp;omega
theorem W9.units(r:W9 k A):A.units+64<cLine:=by have:=r.un;omega
def tNil:TA:=fun _ H Q=>Q [] H
def Va(ta:TE)(tr:TA):TA:=fun σ H Q=>ta σ H fun x H1=>tr σ H1 fun xs H2=>Q (x :: xs) H2
section
variable{X:Cx}{e:Expr}{es:List Expr}{te:TE}{t:TA}{pos:Pos}
theorem Zd:PA X [] tNil:=fun _ _ _ _ H Q I h=>Calls.spliced_nil ⟨[],H,I,.nil,h⟩
theorem Za(ha:PE X e te)(hr:PA X es t)(hs:starEach (e :: es) X.env=(false,#[D,e]) :: starEach es X.env:=by rfl):PA X (e :: es) (Va te t):=by
 intro pos pins s σ H Q I h;rw[hs];show wpAny _ _ (spliced ((false,eval e X.env) :: backTo pos (starEach es X.env))) _ _ s;refine Calls.spliced_cons (thn (ha pins s σ H _ I h) fun u s1 ⟨x,H1,I1,r1,q1⟩=>?_);exact thn (hr pos pins s1 σ H1 _ I1 q1) fun us s2 ⟨xs,H2,I2,r2,q2⟩=>⟨x :: xs,H2,I2,.cons r1 r2,q2⟩
inductive zlu(Q:VK)(xs:#[a])(H1:Hp):Prop where
 | mk(_:xs.length<=sizeLine)(_:∀ p,H1 p=none->Q (.ref p) (upd H1 p (.tup xs)))
def zmw(t:TA):TE:=fun σ H Q=>t σ H fun xs H1=>zlu Q xs H1
inductive zlv(Q:VK)(xs:#[a])(H1:Hp):Prop where
 | mk(_:xs.length<=sizeLine)(_:∀ p,H1 p=none->Q (.ref p) (upd H1 p (.lst xs)))
def tLst(t:TA):TE:=fun σ H Q=>t σ H fun xs H1=>zlv Q xs H1
theorem Yc{x1}(h:PA X es t):PE X (.Tuple es x1 pos) (zmw t):=by
 intro pins s σ H Q I hq;refine wpAny_Tuple_spliced (thn (h pos pins s σ H _ I hq) fun us s1 ⟨xs,H1,I1,r,z,q⟩=>⟨by rw[<- r.length];exact z,?_⟩);have hf:H1 s1.heap.objs.size=none:=I1.hok.fresh (zwz _);refine#[I,.ref s1.heap.objs.size,upd H1 s1.heap.objs.size (.tup xs),I1.laid (t':=s1.toks) (fun b u e=>#[ah,_,e]) (zwz _) ?_,q _ hf];exact⟨z,us,r,⟨_,Heap.get?_push_size _ rfl,rfl,_,rfl⟩⟩
theorem Z1(h:PA X es t):PE X (.List es pos) (tLst t):=by
 intro pins s σ H Q I hq;refine wpAny_List_spliced (thn (h pos pins s σ H _ I hq) fun us s1 ⟨xs,H1,I1,r,z,q⟩=>⟨by rw[<- r.length];exact z,?_⟩);have hf:H1 s1.heap.objs.size=none:=I1.hok.fresh (zwz _);refine#[I,.ref s1.heap.objs.size,upd H1 s1.heap.objs.size (.lst xs),I1.laid (t':=s1.toks) (fun b u e=>#[ah,_,e]) (zwz _) ?_,q _ hf];exact⟨z,us,0,r,Heap.get?_push_size _ rfl⟩
end
abbrev Sp:=#[a]->Hp->VK->XK->Prop
abbrev CXT:=List Env->Hp->Shared->XK->Value->Shared->Prop
structure zbd(P:Program)(w:World)(K:Frag)(mg:#[V])(base:Heap)(A:Around)(outer:List Env)(s:Shared)(H:Hp):Prop where
 frames:A.frames=some outer
 mod:Mod K mg base
 bs:∀ b o,base.get? b=#[d]->#[O,b]=#[d]/\H b=none
 bsz:base.objs.size<=s.heap.objs.size
 funs:s.heap.FunFrames base outer
 frf:∀ b∈frs outer,H b=none
 hok:HOk P w H s.heap
 bare:AllBare s.gens
def CE(outer:List Env)(P:Program)(w:World)(H:Hp)(s:Shared)(Q:VK)(u:Value)(s':Shared):Prop :=
 ∃ v H',s'.os=s.os/\AllBare s'.gens/\Un (frs outer) [] H H' s.heap s'.heap/\HOk P w H' s'.heap/\RelV v u/\Q v H'
def CR(CX:CXT)(outer:List Env)(P:Program)(w:World)(H:Hp)(s:Shared)(Q:VK)(E:XK)(r:Result)(s':Shared):Prop :=
 match r with
 | .ok (.ret u)=>CE outer P w H s Q u s'
 | .ok _=>False
 | .error e=>CX outer H s E e s'
structure FnOk(P:Program)(w:World)(K:Frag)(mg:#[V])(base:Heap)(CX:CXT)(k:Nat)(f:Addr)(fd:FuncData)(ps:#[B])(sp:Sp):Prop where
 len:∀ vs H Q E,sp vs H Q E->vs.length=ps.length
 run:∀ (A:Around) (outer:List Env) (s:Shared) (H:Hp) (args:Args) (us:#[U]) (vs:#[a]) (Q:VK) (E:XK),W9 k A->zbd P w K mg base A outer s H->BindsTo s fd args (ps.zip us)->Vals vs us->sp vs H Q E ->
  codeAny (model P w) A (.call (.ref f) args) (CR CX outer P w H s Q E) s
theorem zbd.make{P:Program}{w:World}{K:Frag}{mg:#[V]}{base:Heap}{A:Around}{outer:List Env}{s:Shared}{H:Hp}(e:zbd P w K mg base A outer s H)(C:Addr)(us:#[U])(kw:List (Str×Value)) :
  zbd P w K mg base (A.under (.builtin "type.__call__" ⟨.ref C :: us,kw⟩)) outer s H:=⟨by first|exact e.frames|(simpa [Around.under,Code.envs,Code.isFrame,pushEnvs] using e.frames),e.mod,e.bs,e.bsz,e.funs,e.frf,e.hok,e.bare⟩
section
variable{X:Cx}{pins:#[x]}{σ:St}{H:Hp}{s s':Shared}
theorem Inv.env0(I:#[h]):zbd X.prog X.w X.K X.mg X.base X.A X.stack s H :=
 ⟨I.ok.frames,I.ok.mod,I.bs,zw6 I.ok.bsz I.sz,I.stack,I.stkFree,I.hok,I.bare⟩
theorem Inv.after(I:#[h])(h:CE X.stack X.prog X.w H s Q u s'):EP X pins σ Q u s':=by
 obtain⟨v,H',os,bare,un,hok,r,q⟩:=h;obtain⟨hh,g,d,t,os'⟩:=s';obtain rfl:os'=s.os:=os;exact⟨v,H',I.call (h':=hh) (g':=g) (d':=d) (t':=t) (ch:=[]) un hok bare fun b z=>absurd z (by simp),r,q⟩
end
def zfx(sp:Sp)(dvs:#[a])(E:XK)(t:TA):TE:=fun σ H Q=>t σ H fun vs H1=>sp (vs++dvs) H1 Q E
inductive zj2(C:Addr)(m:Str)(sp:Sp)(dvs:#[a])(E:XK)(t:TA)(σ:L2.St)(Q:VK)(x:V)(H1:Hp):Prop where
 | mk(a)(dx)(fs)(_:x=.ref a)(_:H1 a=some (.ins C dx fs))(_:fs.lookup m=none)(_:t σ H1 fun vs H2=>sp (x :: (vs++dvs)) H2 Q E)
def zcn(C:Addr)(m:Str)(sp:Sp)(dvs:#[a])(E:XK)(ta:TE)(t:TA):TE:=fun σ H Q=>ta σ H fun x H1=>zj2 C m sp dvs E t σ Q x H1
def zco(C:Addr)(sp:Sp)(dvs:#[a])(E:XK)(t:TA):TE:=fun σ H Q=>t σ H fun vs H1=>∀ x dx,H1 x=none->H1 dx=none->dx≠x ->
 sp (.ref x :: (vs++dvs)) (upd (upd H1 dx (.own x)) x (.ins C dx [])) (fun v H2=>v=.non/\Q (.ref x) H2) E
def Ro(K:Frag)(fd:FuncData)(ps:#[B])(ds:#[U]):Prop :=
 ∀ (s:Shared) (us:#[U]),K.In s.heap->(us++ds).length=ps.length->BindsTo s fd ⟨us,[]⟩ (ps.zip (us++ds))
theorem Ro.all{K:Frag}{fd:FuncData}{ps:#[B]}(h:∀ us:#[U],us.length=ps.length->bindArgs fd ⟨us,[]⟩=pure (ps.zip us)):Ro K fd ps []:=fun s us _ hl=>by
 rw[zy0] at hl ⊢;exact .of_eq (h us hl)
def W0(CX:CXT)(X:Cx)(E:XK):Prop:=∀ (pins:List (Addr×Obj)) (σ:St) (H:Hp) (s:Shared) (e:Value) (s':Shared),#[h]->CX X.stack H s E e s'->X.xe e s'
section
variable{X:Cx}{CX:CXT}{k:Nat}{f C:Addr}{fd:FuncData}{ps:#[B]}{sp:Sp}{dvs:#[a]}{ds:#[U]}{E:XK}{x m:Str}{p pos apos:Pos}{e o:Expr}{es:List Expr}{ta:TE}{t:TA}
theorem zbe(F:FnOk X.prog X.w X.K X.mg X.base CX k f fd ps sp)(hr:W9 k X.A)(hb:Ro X.K fd ps ds)(hd:Vals dvs ds)(hx:W0 CX X E)
  (I:#[h]) (r:Vals vs us) (h:sp (vs++dvs) H Q E):#[ab,X.A,call (.ref f) us,EP X pins σ Q,X.xe,s]:=by
 have r2:Vals (vs++dvs) (us++ds):=r.append hd;have hl:(us++ds).length=ps.length:=by rw[<- r2.length];exact F.len _ _ _ _ h
 refine wpAny_call (codeAny_mono (F.run X.A X.stack s H ⟨us,[]⟩ (us++ds) (vs++dvs) Q E hr I.env0 (hb s us I.kIn hl) r2 h) fun r s' hq=>?_);cases r with
 | error e=>exact hx pins σ H s e s' I hq
 | ok fl =>
   cases fl with
   | ret u=>exact I.after hq
   | next=>exact False.elim hq
   | brk=>exact False.elim hq
   | cont=>exact False.elim hq
theorem zh7(F:FnOk X.prog X.w X.K X.mg X.base CX k f fd ps sp)(hr:W9 k X.A)(hg:Gl X x)(hm:X.mg x=#[c,.ref,f])(hk:PySem.W.keepIn X.K (.ref f)=true)(hb:Ro X.K fd ps ds)(hd:Vals dvs ds)(hx:W0 CX X E)
  (ha:PA X (e :: es) t) (hdb:(x == ("__debug__":Str))=false:=by decide) (he:starEach (e :: es) X.env=(false,#[D,e]) :: starEach es X.env:=by rfl) (hpl:#[ax]=false:=by rfl) :
  PE X (.Call (.Name x p) (e :: es) [] pos) (zfx sp dvs E t):=by
 intro pins s σ H Q I h;refine wpAny_Call_Name_kw (Oc I hg hm ?_ hdb);refine PySem.W.callWith_K (h₀:=X.base) I.ok.mod.kin hk (thn (ha pos pins s σ H _ I h) fun us s1 ⟨vs,H1,I1,r,q⟩=>⟨I1.kIn,?_⟩) he hpl;exact zbe F hr hb hd hx I1 r q
theorem zh8(he:PE X o ta)(c:Cls X.K C)(hm:zfw X.K C m f)(F:FnOk X.prog X.w X.K X.mg X.base CX k f fd ps sp)(hr:W9 k X.A)(hb:Ro X.K fd ps ds)(hd:Vals dvs ds)(hx:W0 CX X E)(ha:PA X (e :: es) t)
  (hst:starEach (e :: es) X.env=(false,#[D,e]) :: starEach es X.env:=by rfl) (hpl:#[ax]=false:=by rfl)
  (ht:#[D,.Call (.Attribute o m apos) (e :: es) [] pos]=(do
   let ov <- #[D,o]
   standAt apos.atName
   let (f,first) <- holding [ov] (getMethod ov m pl)
   callWith pos f first (backTo pos (starEach (e :: es) X.env)) (backToKw pos (keywordEach [] X.env))):=by rfl) :
  PE X (.Call (.Attribute o m apos) (e :: es) [] pos) (zcn C m sp dvs E ta t):=by
 intro pins s σ H Q I h;refine PySem.W.methodCall_KW (pl:=pl) (thn (he pins s σ H _ I h) fun u s1 ⟨x,H1,I1,rx,a,dx,fs,ex,ea,l,q⟩=>?_) ht;subst ex;obtain rfl:u=Value.ref a:=rx;refine Iu I1 ea c hm l ?_;refine PySem.W.callWith_K (first:=[.ref a]) (h₀:=X.base) I.ok.mod.kin hm.kp (thn (ha pos pins s1 σ H1 _ I1 q) fun us s2 ⟨vs,H2,I2,r,q2⟩=>⟨I2.kIn,?_⟩) hst hpl;exact zbe (us:=.ref a :: us) (vs:=.ref a :: vs) F hr hb hd hx I2 (.cons rfl r) q2
theorem zfy(he:PE X o ta)(c:Cls X.K C)(hm:zfw X.K C m f)(F:FnOk X.prog X.w X.K X.mg X.base CX k f fd ps sp)(hr:W9 k X.A)(hb:Ro X.K fd ps ds)(hd:Vals dvs ds)(hx:W0 CX X E)
  (ht:#[D,.Call (.Attribute o m apos) [] [] pos]=(do
   let ov <- #[D,o]
   standAt apos.atName
   let (f,first) <- holding [ov] (getMethod ov m pl)
   callWith pos f first (backTo pos (starEach [] X.env)) (backToKw pos (keywordEach [] X.env))):=by rfl) :
  PE X (.Call (.Attribute o m apos) [] [] pos) (zcn C m sp dvs E ta tNil):=by
 intro pins s σ H Q I h;refine PySem.W.methodCall_KW (pl:=pl) (thn (he pins s σ H _ I h) fun u s1 ⟨x,H1,I1,rx,a,dx,fs,ex,ea,l,q⟩=>?_) ht;subst ex;obtain rfl:u=Value.ref a:=rx;refine Iu I1 ea c hm l ?_;exact PySem.W.callWith_K0 (first:=[.ref a]) I1.kIn hm.kp (zbe (us:=[.ref a]) (vs:=[.ref a]) F hr hb hd hx I1 (.cons rfl .nil) q)
structure Mk(K:Frag)(C f:Addr):Prop where
 makes:PySem.W.makesIn K C=true
 init:PySem.W.findIn K (.ref C) "__init__"=some #[b,f]
 fn:PySem.W.isFn K (.ref f)=true
 kp:PySem.W.keepIn K (.ref C)=true
theorem By(M:Mk X.K C f)(F:FnOk X.prog X.w X.K X.mg X.base CX k f fd ps sp)(hr:W9 (k+1) X.A)(hb:Ro X.K fd ps ds)(hd:Vals dvs ds)
  (hx:W0 CX X E) (I:#[h]) (r:Vals vs us)
  (h:∀ x dx,H x=none->H dx=none->dx≠x->sp (.ref x :: (vs++dvs)) (upd (upd H dx (.own x)) x (.ins C dx [])) (fun v H2=>v=.non/\Q (.ref x) H2) E) :
  wpAny (model X.prog X.w) X.A (call (.ref C) us) (EP X pins σ Q) X.xe s:=by
 have hq:=h (s.heap.objs.size+1) s.heap.objs.size (I.hok.fresh (Nat.le_succ _)) (I.hok.fresh (zwz _)) (zxj (Nat.lt_succ_self _));have I2:=Inv.made (C:=C) I;have r2:Vals (V.ref (s.heap.objs.size+1) :: (vs++dvs)) (Value.ref (s.heap.objs.size+1) :: (us++ds)):=.cons rfl (r.append hd);have hl:(Value.ref (s.heap.objs.size+1) :: us++ds).length=ps.length:=by
  have e:=r2.length;rw[F.len _ _ _ _ hq] at e;exact e.symm
 refine wpAny_call (zfv (f:=f) I.kIn M.makes M.init (beq_iff_eq.mp M.fn) (codeAny_mono (F.run _ X.stack _ _ ⟨Value.ref (s.heap.objs.size+1) :: us,[]⟩ (Value.ref (s.heap.objs.size+1) :: (us++ds)) _ _ E (hr.make C us [])
  (I2.env0.make C us []) (hb _ (Value.ref (s.heap.objs.size+1) :: us) I2.kIn hl) r2 hq) fun r s' hq'=>?_))
 cases r with
 | error e=>exact hx pins σ _ _ e s' I2 hq'
 | ok fl =>
   cases fl with
   | ret u =>
     obtain⟨v,H',I3,rv,ev,q3⟩:=I2.after hq';subst ev;exact⟨rv,#[I,V.ref (s.heap.objs.size+1),H',I3,q3]⟩
   | next=>exact False.elim hq'
   | brk=>exact False.elim hq'
   | cont=>exact False.elim hq'
theorem zh9(M:Mk X.K C f)(F:FnOk X.prog X.w X.K X.mg X.base CX k f fd ps sp)(hr:W9 (k+1) X.A)(hg:Gl X x)(hm:X.mg x=#[c,.ref,C])(hb:Ro X.K fd ps ds)(hd:Vals dvs ds)(hx:W0 CX X E)
  (ha:PA X (e :: es) t) (hdb:(x == ("__debug__":Str))=false:=by decide) (he:starEach (e :: es) X.env=(false,#[D,e]) :: starEach es X.env:=by rfl) (hpl:#[ax]=false:=by rfl) :
  PE X (.Call (.Name x p) (e :: es) [] pos) (zco C sp dvs E t):=by
 intro pins s σ H Q I h;refine wpAny_Call_Name_kw (Oc I hg hm ?_ hdb);refine PySem.W.callWith_K (h₀:=X.base) I.ok.mod.kin M.kp (thn (ha pos pins s σ H _ I h) fun us s1 ⟨vs,H1,I1,r,q⟩=>⟨I1.kIn,?_⟩) he hpl;exact By M F hr hb hd hx I1 r q
theorem zfz(M:Mk X.K C f)(F:FnOk X.prog X.w X.K X.mg X.base CX k f fd ps sp)(hr:W9 (k+1) X.A)(hg:Gl X x)(hm:X.mg x=#[c,.ref,C])(hb:Ro X.K fd ps ds)(hd:Vals dvs ds)(hx:W0 CX X E)
  (hdb:(x == ("__debug__":Str))=false:=by decide):PE X (.Call (.Name x p) [] [] pos) (zco C sp dvs E tNil):=by
 intro pins s σ H Q I h;refine wpAny_Call_Name_kw (Oc I hg hm ?_ hdb);exact PySem.W.callWith_K0 I.kIn M.kp (By (us:=[]) M F hr hb hd hx I .nil h)
end
section
variable{X:Cx}{CX:CXT}{k:Nat}{f C:Addr}{fd:FuncData}{ps ks:#[B]}{sp:Sp}{E:XK}{x m:Str}{p pos apos kpos:Pos}{e o:Expr}{es:List Expr}{kws:List Keyword}{te ta:TE}{t tk:TA}{nm:Option Str}
structure zmx(K:Frag)(fd:FuncData)(ps ks:#[B])(g:#[U]->#[U]->#[U])(gV:#[a]->#[a]->#[a]):Prop where
 to:∀ (s:Shared) (us ws:List Value),K.In s.heap->(g us ws).length=ps.length->BindsTo s fd ⟨us,ks.zip ws⟩ (ps.zip (g us ws))
 rel:∀ {vs:List V} {us:List Value} {zs:List V} {ws:List Value},Vals vs us->Vals zs ws->Vals (gV vs zs) (g us ws)
variable{g:#[U]->#[U]->#[U]}{gV:#[a]->#[a]->#[a]}
end
structure Zm(N P:#[B])(sc:Scope):Prop where
 kind:sc.kind=.function
 co:sc.isCoroutine=false
 gen:sc.isGenerator=false
 nd:N.Nodup
 pre:N.take P.length=P
 par:∀ x∈P,sc.names.lookup x=some .local\/sc.names.lookup x=some .cell
 nofree:∀ y∈sc.names,y.2≠.free
theorem E6{kindOf:Str->Option NameKind}{x:Str}:∀ {binds:List (Str×Value)} {m:Str->Option Value},(∀ v,(x,v)∉binds)->bindL kindOf binds m x=m x
 | [],_,_=>rfl
 | (n,v) :: r,m,h=>by
   unfold bindL;rw[E6 fun w hw=>h w (zxa _ hw)];split
   ·have:x≠n:=by rintro rfl;exact h v zxl
    simp[this]
   ·rfl
theorem E7{kindOf:Str->Option NameKind}{x:Str}:∀ {binds:List (Str×Value)} {m:Str->Option Value},(∀ v,(x,v)∉binds)->bindC kindOf binds m x=m x
 | [],_,_=>rfl
 | (n,v) :: r,m,h=>by
   unfold bindC;rw[E7 fun w hw=>h w (zxa _ hw)];split
   ·rfl
   ·have:x≠n:=by rintro rfl;exact h v zxl
    simp[this]
theorem E8{kindOf:Str->Option NameKind}{x:Str}{v:Value}:∀ {P:#[B]} {vs:#[U]} {i:Nat} {m:#[V]},P.Nodup->P[i]?=some x->vs[i]?=some v->kindOf x=some .local ->
  bindL kindOf (P.zip vs) m x=some v
 | [],_,_,_,_,h,_,_=>by simp at h
 | _ :: _,[],_,_,_,_,h,_=>by simp at h
 | p :: P,w :: vs,0,m,nd,h1,h2,hk=>by
   simp at h1 h2;subst h1;subst h2;show bindL kindOf ((p,w) :: P.zip vs) m p=_;unfold bindL;rw[E6 fun v hv=>(zxh.mp nd).1 (List.of_mem_zip hv).1,#[l,hk]];simp
 | p :: P,w :: vs,i+1,m,nd,h1,h2,hk=>by
   show bindL kindOf ((p,w) :: P.zip vs) m x=_;unfold bindL;exact E8 (i:=i) (zxh.mp nd).2 (by simpa using h1) (by simpa using h2) hk
theorem E9{kindOf:Str->Option NameKind}{x:Str}{v:Value}:∀ {P:#[B]} {vs:#[U]} {i:Nat} {m:#[V]},P.Nodup->P[i]?=some x->vs[i]?=some v->kindOf x≠some .local ->
  bindC kindOf (P.zip vs) m x=some v
 | [],_,_,_,_,h,_,_=>by simp at h
 | _ :: _,[],_,_,_,_,h,_=>by simp at h
 | p :: P,w :: vs,0,m,nd,h1,h2,hk=>by
   simp at h1 h2;subst h1;subst h2;show bindC kindOf ((p,w) :: P.zip vs) m p=_;unfold bindC;rw[E7 fun v hv=>(zxh.mp nd).1 (List.of_mem_zip hv).1,#[g,hk]];simp
 | p :: P,w :: vs,i+1,m,nd,h1,h2,hk=>by
   show bindC kindOf ((p,w) :: P.zip vs) m x=_;unfold bindC;exact E9 (i:=i) (zxh.mp nd).2 (by simpa using h1) (by simpa using h2) hk
def Ku(N:#[B])(vs:#[a]):St:=vs.map some++List.replicate (N.length-vs.length) none
def cxOf(CX:CXT)(P:Program)(w:World)(K:Frag)(mg:#[V])(base:Heap)(N:#[B])(qual:Str)(scope:Scope)(f:Addr)(cd:Value)(A:Around)(outer:List Env)(s:Shared)(H:Hp)(E:XK):Cx where
 prog:=P
 w:=w
 K:=K
 mg:=mg
 base:=base
 A:=A.deeper (envOfC qual scope s.heap.objs.size f cd)
 N:=N
 s₀:=s
 H₀:=H
 env:=envOfC qual scope s.heap.objs.size f cd
 outer:=outer
 stack:=envOfC qual scope s.heap.objs.size f cd :: outer
 ex:=[]
 calm:=true
 fn:=fun _=>true
 pn:=[]
 xe:=fun e s'=>wpAny (model P w) (A.deeper (envOfC qual scope s.heap.objs.size f cd)) (leaving (envOfC qual scope s.heap.objs.size f cd) e) (fun _ s''=>CX outer H s E e s'') (fun e' s''=>CX outer H s E e' s'') s'
theorem Bz{sc:Scope}{n:Nat}{x:Str}(h:sc.names.lookup x=some .cell):∃ c,(cellsFrom n sc.names []).lookup x=some c:=by
 have q:=PySem.W.cellsFrom_some sc.names n [] (.inl h);exact zxv.mp q
theorem zd2{CX:CXT}{P:Program}{w:World}{K:Frag}{mg:#[V]}{base:Heap}{N ps:#[B]}{qual:Str}{scope:Scope}{f:Addr}{cd:Value}{A:Around}{outer:List Env}{s s1:Shared}{H:Hp}{E:XK}{us:#[U]}{vs:#[a]}
  (S:Zm N ps scope) (hd:A.handled=none) (e0:zbd P w K mg base A outer s H) (hl:vs.length=ps.length) (r:Vals vs us)
  (x:InCallC s s.heap.objs.size (bindL (envOfC qual scope s.heap.objs.size f cd).kindOf (ps.zip us) fun _=>none) (cellsFrom (s.heap.objs.size+1) scope.names []) (bindC (envOfC qual scope s.heap.objs.size f cd).kindOf (ps.zip us) fun _=>none) s1) :
  Inv (cxOf CX P w K mg base N qual scope f cd A outer s H E) [] (Ku N vs) H s1:=by
 have hpl:ps.length<=N.length:=by have:=congrArg List.length S.pre;rw[zyw] at this;omega
 obtain⟨h1,tk,rfl,hk⟩:=x.done;have noA:∀ b:Addr,b∉(cxOf CX P w K mg base N qual scope f cd A outer s H E).ex:=fun b z=>absurd (show b∈([]:List Addr) from z) (by simp);refine⟨⟨e0.mod,S.kind,rfl,rfl,zwz _,fun y z c h1 h2=>?_,fun y hy=>?_,fun y c _ h=>?_,fun _=>hd,Around.frames_deeper e0.frames,.inr ⟨rfl,rfl⟩,fun b z=>absurd z (noA b),e0.bs,e0.bsz,fun b _ _=>noA b,fun b z=>absurd z (noA b),e0.funs,e0.frf⟩,
  rfl,e0.bare,Un.kept hk,⟨_,x.toInCall.ns,fun i y v h1 h2 h3=>?_⟩,fun y c h=>⟨_,x.cell y c h⟩,e0.hok.fresh (zwz _),fun y c h=>?_,fun p hp=>absurd (show p∈([]:List (Addr×Obj)) from hp) (by simp),e0.hok.kept hk,?_⟩
 ·exact name_of_addr x.apart (PySem.mem_of_lookup h1) (PySem.mem_of_lookup h2)
 ·have hy:scope.names.lookup y=some .cell\/scope.names.lookup y=some .free:=hy;rcases hy with hy|hy
  ·exact Bz hy
  ·exact absurd rfl (S.nofree _ (PySem.mem_of_lookup hy))
 ·exact zy3 (x.above y c (PySem.mem_of_lookup h))
 ·have h2:=h2.resolve_right (Wb _);have hi:i<vs.length:=by
   unfold Ku at h2;by_cases hi:i<vs.length
   ·exact hi
   ·rw[zxx (by simpa using hi)] at h2;rw[List.getElem?_replicate] at h2;split at h2<;>cases h2
  have ha:vs[i]?=some v:=by
   unfold Ku at h2;rw[zx0 (by simpa using hi),zwx] at h2;cases e:vs[i]? with
   | none=>rw[e] at h2;cases h2
   | some a=>rw[e] at h2;cases h2;rfl
  obtain⟨u,hu,rv⟩:=r.get ha;have hp:ps[i]?=some y:=by
   rw[<- S.pre,List.getElem?_take_of_lt ⋯];exact h1
  have ndP:ps.Nodup:=by rw[<- S.pre];exact S.nd.sublist (List.take_sublist _ _)
  refine⟨u,rv,?_⟩;rcases S.par y (zw4 hp) with k|k
  ·exact .inl ⟨k,E8 ndP hp hu k⟩
  ·obtain⟨c,e⟩:=Bz (n:=s.heap.objs.size+1) k;refine .inr ⟨.inl k,c,e,?_⟩;have q:=x.cell y c e;rw[E9 ndP hp hu (by show scope.names.lookup y≠_;rw[k];decide)] at q;exact q
 ·exact e0.hok.fresh (zy3 (x.above y c (PySem.mem_of_lookup h)))
 ·unfold Ku;show _=N.length;rw[zwt,zwq,List.length_replicate];omega
theorem zlw{CX:CXT}{P:Program}{w:World}{K:Frag}{mg:#[V]}{base:Heap}{k:Nat}{f:Addr}{name qual:Str}{params:Arguments}{body:List Stmt}{scope:Scope}{dV kV doc pm cdv ct oc:Value}{an od:Option Addr}
  {osl:Array (Option Value)} {N ps:#[B]} {sp:Sp} (lk:K.lookup f=some ⟨oc,od,.func (PySem.W.fnOf name qual params body scope dV kV doc pm an cdv ct),osl⟩) (hcd:PySem.W.codeIn K cdv qual=true) (S:Zm N ps scope)
  (len:∀ vs H Q E,sp vs H Q E->vs.length=ps.length)
  (hbody:∀ (A:Around) (outer:List Env) (s:Shared) (H:Hp) (vs:#[a]) (Q:VK) (E:XK),W9 k (A.deeper (envOfC qual scope s.heap.objs.size f cdv))->sp vs H Q E ->
   ∃ t,PSs (cxOf CX P w K mg base N qual scope f cdv A outer s H E) body t/\t { nx:=fun _ H'=>Q .non H',rt:=Q } (Ku N vs) H) :
  FnOk P w K mg base CX (k+1) f (PySem.W.fnOf name qual params body scope dV kV doc pm an cdv ct) ps sp:=by
 refine⟨len,fun A outer s H args us vs Q E hr e0 hb r hsp=>?_⟩;have hl:=len _ _ _ _ hsp;have KX:K.In s.heap:=e0.mod.kin.keeps fun b o e=>(e0.bs b o e).1;have lim:s.heap.NoLimit:=e0.mod.nolimit.keeps fun b o e=>(e0.bs b o e).1;have hkind:∀ y∈ps.zip us,scope.names.lookup y.1=some .local\/(scope.names.lookup y.1=some .cell/\((cellsFrom (s.heap.objs.size+1) scope.names []).lookup y.1).isSome=true):=fun ⟨n,v⟩ hy=>by
  rcases S.par n (List.of_mem_zip hy).1 with q|q
  ·exact .inl q
  ·exact .inr ⟨q,PySem.W.cellsFrom_some _ _ _ (.inl q)⟩
 refine codeAny_call_function hr.depth (KX _ _ lk) rfl S.co S.gen rfl (PySem.W.codeRec_of KX hcd) (hb _ _ _ _ ?_);refine wpAny_newFunctionEnv_cells S.kind hkind fun env he s1 x=>?_;subst he;refine⟨lim.keeps x.toInCall.keep,codeAny_func ?_⟩;obtain⟨t,ht,hq⟩:=hbody A outer s H vs Q E (hr.deeper _) hsp;have I:Inv (cxOf CX P w K mg base N qual scope f cdv A outer s H E) [] (Ku N vs) H s1:=zd2 S hr.hd e0 hl r x;refine wpAny_mono (ht [] s1 (Ku N vs) H _ I hq) (fun fl s' hs=>?_) fun e s' hs=>hs;have fin:∀ {σ':St} {H':Hp} {v:V} {u:Value},Inv (cxOf CX P w K mg base N qual scope f cdv A outer s H E) [] σ' H' s'->RelV v u->Q v H'->CE outer P w H s Q u s' :=
  fun {σ' H' v u} J rv q=>⟨v,H',J.os,J.bare,J.base,J.hok,rv,q⟩
 cases fl with
 | ret u =>
   obtain⟨v,σ',H',J,rv,q⟩:=hs;exact fin J rv q
 | next =>
   obtain⟨σ',H',J,q⟩:=hs;exact fin (v:=V.non) (u:=Value.none) J rfl q
 | brk =>
   obtain⟨_,_,_,q⟩:=hs;exact False.elim q
 | cont =>
   obtain⟨_,_,_,q⟩:=hs;exact False.elim q
section
variable{X:Cx}{x:Str}{p pos:Pos}{e:Expr}{es:List Expr}{t:TA}{id T:String}{r:#[a]->Hp->VK->Prop}
def tCB(r:#[a]->Hp->VK->Prop)(t:TA):TE:=fun σ H Q=>t σ H fun vs H1=>r vs H1 Q
theorem Zq(hc:W8 X (.builtin id) r)(hg:Gl X x)(hm:X.mg x=none)(hv:bootBuiltins x=#[c,.builtin,id])(ha:PA X (e :: es) t)(hn:x≠"__name__":=by decide)(hdb:(x == ("__debug__":Str))=false:=by decide)
  (he:starEach (e :: es) X.env=(false,#[D,e]) :: starEach es X.env:=by rfl) (hpl:#[ax]=false:=by rfl):PE X (.Call (.Name x p) (e :: es) [] pos) (tCB r t):=by
 intro pins s σ H Q I h;refine wpAny_Call_Name_kw (O4 I hg hm hv ?_ hn hdb);exact PyProof.Rows.callWith_builtin1 (thn (ha pos pins s σ H _ I h) fun us s1 ⟨vs,H1,I1,r1,q1⟩=>hc pins s1 σ H1 vs us Q I1 r1 q1) he hpl
theorem Yq(hc:W8 X (.type T) r)(hg:Gl X x)(hm:X.mg x=none)(hv:bootBuiltins x=#[c,.type,T])(ha:PA X (e :: es) t)(hn:x≠"__name__":=by decide)(hdb:(x == ("__debug__":Str))=false:=by decide)
  (he:starEach (e :: es) X.env=(false,#[D,e]) :: starEach es X.env:=by rfl) (hpl:#[ax]=false:=by rfl):PE X (.Call (.Name x p) (e :: es) [] pos) (tCB r t):=by
 intro pins s σ H Q I h;refine wpAny_Call_Name_kw (O4 I hg hm hv ?_ hn hdb);exact PyProof.Rows.callWith_type1 (thn (ha pos pins s σ H _ I h) fun us s1 ⟨vs,H1,I1,r1,q1⟩=>hc pins s1 σ H1 vs us Q I1 r1 q1) he hpl
end
section
variable{κ:Type}[DecidableEq κ]
def valV(kvs:List (κ×V))(k:κ):Option V:=(kvs.find? fun kv=>decide (kv.1=k)).map (·.2)
def putK(kvs:List (κ×V))(k:κ)(v:V):List (κ×V) :=
 if (kvs.any fun kv=>decide (kv.1=k))=true then kvs.map (fun kv=>if kv.1=k then (kv.1,v) else kv) else kvs++[(k,v)]
def X4(kvs:List (κ×V))(k:κ):List (κ×V):=kvs.filter fun kv=>#[j,kv.1≠k]
theorem zf0:valV ([]:List (κ×V)) k=none:=rfl
theorem Xe{p:κ×V}{r:List (κ×V)}{k:κ}(e:p.1=k):valV (p :: r) k=some p.2:=by simp[valV,zyp,e]
theorem Xa{p:κ×V}{r:List (κ×V)}{k:κ}(e:¬ p.1=k):valV (p :: r) k=valV r k:=by simp[valV,zyp,e]
theorem Rp(k:κ):∀ kvs:List (κ×V),(kvs.any fun kv=>#[j,kv.1=k])=(valV kvs k).isSome
 | []=>rfl
 | p :: r=>by
   rw[zys];by_cases e:p.1=k
   ·simp only[Xe e,zwy e,Bool.true_or,zy1]
   ·rw[Xa e,zw1 e,Bool.false_or];exact Rp k r
theorem B0(k j:κ)(y:V):∀ kvs:List (κ×V),valV (kvs.map fun kv=>if kv.1=k then (kv.1,y) else kv) j=(valV kvs j).map fun x=>if j=k then y else x
 | []=>rfl
 | p :: r=>by
   have ih:=B0 k j y r;rw[zw3];by_cases h:p.1=k
   ·rw[#[l,h]];by_cases e:p.1=j
    ·rw[Xe (p:=(p.1,y)) e,Xe e,zxy,if_pos (e.symm.trans h)]
    ·rw[Xa (p:=(p.1,y)) e,Xa e,ih]
   ·rw[#[g,h]];by_cases e:p.1=j
    ·rw[Xe (p:=p) e,Xe e,zxy,#[g,fun z=>h (e.trans z)]]
    ·rw[Xa (p:=p) e,Xa e,ih]
theorem Dc(k j:κ)(y:V):∀ kvs:List (κ×V),valV kvs k=none->valV (kvs++[(k,y)]) j=if j=k then some y else valV kvs j
 | [],_=>by
   by_cases e:k=j
   ·rw[#[l,e.symm]];exact Xe (p:=(k,y)) e
   ·rw[#[g,fun z=>e z.symm]];exact Xa (p:=(k,y)) e
 | p :: r,hn=>by
   rw[List.cons_append];have hk:¬ p.1=k:=fun z=>by rw[Xe z] at hn;cases hn
   rw[Xa hk] at hn;have ih:=Dc k j y r hn;by_cases e:p.1=j
   ·rw[Xe e,Xe e,#[g,fun z=>hk (e.trans z)]]
   ·rw[Xa e,Xa e,ih]
theorem Uy(kvs:List (κ×V))(k j:κ)(y:V):valV (putK kvs k y) j=if j=k then some y else valV kvs j:=by
 unfold putK;by_cases a:(kvs.any fun kv=>#[j,kv.1=k])=true
 ·rw[#[l,a],B0];rw[Rp] at a;by_cases e:j=k
  ·obtain⟨x,hx⟩:=zxv.mp a;rw[#[l,e],e,hx,zxy,#[l,rfl]]
  ·rw[#[g,e]];cases valV kvs j with
   | none=>rfl
   | some x=>rw[zxy,#[g,e]]
 ·rw[#[g,a]];refine Dc k j y kvs ?_;rw[Rp] at a;cases q:valV kvs k with
  | none=>rfl
  | some x=>rw[q] at a;exact(a rfl).elim
theorem Xs(kvs:List (κ×V))(k:κ)(v:V):(putK kvs k v).length<=kvs.length+1:=by
 unfold putK;split
 ·rw[zwq];omega
 ·rw[zwt,zxb,List.length_nil];omega
theorem zf1{kvs:List (κ×V)}{k:κ}(v:V)(h:valV kvs k=none):putK kvs k v=kvs++[(k,v)]:=by
 unfold putK;rw[Rp,h];exact if_neg ⋯
theorem RelO.isSome_eq(r:RelO o u):o.isSome=u.isSome:=by
 cases o with
 | none=>cases u with
   | none=>rfl
   | some _=>exact(show False from r).elim
 | some _=>cases u with
   | none=>exact(show False from r).elim
   | some _=>rfl
theorem RelO.getD(r:RelO o u)(rd:RelV d d'):RelV (o.getD d) (u.getD d'):=by
 cases o with
 | none=>cases u with
   | none=>exact rd
   | some _=>exact(show False from r).elim
 | some _=>cases u with
   | none=>exact(show False from r).elim
   | some _=>exact r
theorem KV.val{kvs:List (κ×V)}{vs:List (κ×Value)}(r:KV kvs vs)(k:κ):RelO (valV kvs k) (valueAt vs k):=by
 unfold KV at r
 induction r with
 | nil=>exact True.intro
 | @cons p q ps qs h t ih =>
   obtain⟨h1,h2⟩:=h;by_cases e:p.1=k
   ·have e':q.1=k:=h1.symm.trans e;have b:valueAt (q :: qs) k=some q.2:=by simp[valueAt,zyp,e']
    rw[Xe e,b];exact h2
   ·have e':¬ q.1=k:=fun z=>e (h1.trans z);have b:valueAt (q :: qs) k=valueAt qs k:=by simp[valueAt,zyp,e']
    rw[Xa e,b];exact ih
theorem KV.any(r:KV kvs vs)(k:κ):(kvs.any fun kv=>#[j,kv.1=k])=vs.any fun kv=>#[j,kv.1=k]:=by
 unfold KV at r
 induction r with
 | nil=>rfl
 | cons h t ih=>rw[zys,zys,ih,h.1]
theorem KV.repl(r:KV kvs vs)(k:κ)(ry:RelV y u) :
  KV (kvs.map fun kv=>if kv.1=k then (kv.1,y) else kv) (vs.map fun kv=>if kv.1=k then (kv.1,u) else kv):=by
 unfold KV at r ⊢
 induction r with
 | nil=>exact .nil
 | @cons p q ps qs h t ih =>
   rw[zw3,zw3];refine .cons ?_ ih;obtain⟨h1,h2⟩:=h;by_cases e:p.1=k
   ·rw[#[l,e],if_pos (h1.symm.trans e)];exact⟨h1,ry⟩
   ·rw[#[g,e],#[g,fun z=>e (h1.trans z)]];exact⟨h1,h2⟩
theorem KV.put(r:KV kvs vs)(k:κ)(ry:RelV y u):KV (putK kvs k y) (stored vs k u):=by
 unfold putK stored;rw[r.any k];by_cases e:(vs.any fun kv=>#[j,kv.1=k])=true
 ·rw[#[l,e],#[l,e]];exact r.repl k ry
 ·rw[#[g,e],#[g,e]];exact Paired.snoc r ⟨rfl,ry⟩
theorem KV.drop(r:KV kvs vs)(k:κ):KV (X4 kvs k) (without vs k):=by
 unfold KV at r ⊢;unfold X4 without
 induction r with
 | nil=>exact .nil
 | @cons p q ps qs h t ih =>
   obtain⟨h1,h2⟩:=h;rw[zx2,zx2];by_cases e:p.1=k
   ·have a:¬ #[j,p.1≠k]=true:=by simp[e]
    have b:¬ #[j,q.1≠k]=true:=by simp[h1.symm.trans e]
    rw[#[g,a],#[g,b]];exact ih
   ·have e':¬ q.1=k:=fun z=>e (h1.trans z);have a:#[j,p.1≠k]=true:=by simp[e]
    have b:#[j,q.1≠k]=true:=by simp[e']
    rw[#[l,a],#[l,b]];exact .cons ⟨h1,h2⟩ ih
theorem KV.keys{kvs:List (κ×V)}{vs:List (κ×Value)}(r:KV kvs vs):kvs.map (·.1)=vs.map (·.1):=by
 unfold KV at r
 induction r with
 | nil=>rfl
 | cons h t ih=>rw[zw3,zw3,ih,h.1]
theorem KV.length(r:KV kvs vs):kvs.length=vs.length:=Paired.length r
theorem B1(kvs:List (κ×V))(k:κ):(X4 kvs k).length<=kvs.length:=zxo _ _
end
theorem Kv(r:RelV (kV k) u):(Yn P w).is k u=true:=by
 cases k with
 | inl i=>obtain⟨t,e⟩:=(show ∃ t,u=Value.int i t from r);subst e;exact Bq P w i t
 | inr x=>obtain⟨t,e⟩:=(show ∃ t,u=Value.str x t from r);subst e;exact Br P w x t
theorem Dd:∀ {ks:List Key} {us:List Value},Vals (ks.map kV) us->ItemsAre (Yn P w) ks us
 | [],_,r=>by rw[List.map_nil] at r;cases r;exact .nil
 | k :: ks,_,r=>by
   rw[zw3] at r;cases r with
   | cons h t=>exact .cons (Kv h) (Dd t)
abbrev KT(H:Hp):List (List Key×V)->List (List Key×Addr×Value)->Prop:=Paired fun p q=>p.1=q.1/\H q.2.1=some (.tup (p.1.map kV))/\RelV p.2 q.2.2
theorem KT.val{H:Hp}{kvs:List (List Key×V)}{xs:List (List Key×Addr×Value)}(r:KT H kvs xs)(k:List Key):RelO (valV kvs k) ((atKey xs k).map (·.2)):=by
 induction r with
 | nil=>exact True.intro
 | @cons p q ps qs h t ih =>
   obtain⟨h1,_,h2⟩:=h;by_cases e:p.1=k
   ·have e':q.1=k:=h1.symm.trans e;have b:atKey (q :: qs) k=some q.2:=by simp[atKey,zyp,e']
    rw[Xe e,b];exact h2
   ·have e':¬ q.1=k:=fun z=>e (h1.trans z);have b:atKey (q :: qs) k=atKey qs k:=by simp[atKey,zyp,e']
    rw[Xa e,b];exact ih
theorem KT.repl(r:KT H kvs xs)(k:List Key)(ry:RelV y u) :
  KT H (kvs.map fun kv=>if kv.1=k then (kv.1,y) else kv) (xs.map (putAt k u)):=by
 induction r with
 | nil=>exact .nil
 | @cons p q ps qs h t ih =>
   rw[zw3,zw3];refine .cons ?_ ih;obtain⟨h1,h2,h3⟩:=h;unfold putAt;by_cases e:p.1=k
   ·rw[#[l,e],if_pos (h1.symm.trans e)];exact⟨h1,h2,ry⟩
   ·rw[#[g,e],#[g,fun z=>e (h1.trans z)]];exact⟨h1,h2,h3⟩
theorem KT.put(r:KT H kvs xs)(k:List Key)(hb:H b=some (.tup (k.map kV)))(ry:RelV y u) :
  KT H (putK kvs k y) (storedH xs k b u):=by
 have e:(kvs.any fun kv=>#[j,kv.1=k])=(atKey xs k).isSome:=by
  rw[Rp,(r.val k).isSome_eq,Option.isSome_map]
 unfold putK storedH;rw[e];by_cases q:(atKey xs k).isSome=true
 ·rw[#[l,q],#[l,q]];exact r.repl k ry
 ·rw[#[g,q],#[g,q]];exact Paired.snoc r ⟨rfl,hb,ry⟩
theorem KT.keeps(r:KT H kvs xs)(ht:∀ b ys,H b=#[A,ys]->H' b=#[A,ys]):KT H' kvs xs :=
 Paired.mapP r fun _ _ z=>⟨z.1,ht _ _ z.2.1,z.2.2⟩
section
variable{P:Program}{w:World}{H:Hp}{h:Heap}{a:Addr}
theorem zje(ok:HOk P w H h)(e:Rd H a u):Y0 P w H h a u:=e.ok ok
theorem Qr(ok:HOk P w H h)(e:Rd H a (.dK kvs)):kvs.length<=sizeLine/\(a == sysModules)=false/\∃ vs,KV kvs vs/\h.DictOf (Yn P w) a vs :=
 show Y0 P w H h a (.dK kvs) from zje ok e
theorem B2(ok:HOk P w H h)(e:H a=#[c,.dK,kvs]):kvs.length<=sizeLine/\(a == sysModules)=false/\∃ vs,KV kvs vs/\h.DictOf (Yn P w) a vs:=Qr ok (.inl e)
theorem O6(ok:HOk P w H h)(e:H a=some (.tup (ks.map kV))):(tupleKind (Yn P w)).is h ks a:=by
 obtain⟨_,its,r,o,h1,h2,n,h3⟩:=(show Y0 P w H h a (.tup (ks.map kV)) from ok a _ e);exact⟨o,its.toArray,n,h1,h2,h3,by simpa using Dd r⟩
theorem Iv(ok:HOk P w H h)(e:Rd H a (.dT kvs)):kvs.length<=sizeLine/\(a == sysModules)=false /\
  ∃ xs,KT H kvs xs/\h.DictOfH (tupleKind (Yn P w)) a xs:=by
 obtain⟨z,y,xs,r,o,es,ep,h1,h2,h3,h4,h5⟩:=(show Y0 P w H h a (.dT kvs) from zje ok e);refine⟨z,y,xs,r,o,es,ep,h1,h2,h3,h4,fun x hx=>?_,h5⟩;have all:∀ {l:List (List Key×V)} {m:List (List Key×Addr×Value)},KT H l m->∀ x∈m,(tupleKind (Yn P w)).is h x.1 x.2.1:=by
  intro l m q
  induction q with
  | nil=>intro x hx;exact nomatch hx
  | @cons p q ps qs hq t ih =>
    intro x hx;rcases zwu.mp hx with e|hx
    ·subst e;exact O6 ok (by rw[<- hq.1];exact hq.2.1)
    ·exact ih x hx
 exact all r x hx
theorem zjf(ok:HOk P w H h)(e:H a=#[c,.dT,kvs]):kvs.length<=sizeLine/\(a == sysModules)=false /\
  ∃ xs,KT H kvs xs/\h.DictOfH (tupleKind (Yn P w)) a xs:=Iv ok (.inl e)
end
def DGet(H:Hp)(a:Addr)(y:V)(r:Option V):Prop :=
 (∃ kvs k,Rd H a (.dK kvs)/\y=kV k/\r=valV kvs k)\/∃ kvs k b,Rd H a (.dT kvs)/\y=.ref b/\H b=some (.tup (k.map kV))/\r=valV kvs k
def DPut(H:Hp)(a:Addr)(y v:V)(H':Hp):Prop :=
 (∃ kvs k,H a=#[c,.dK,kvs]/\y=kV k/\kvs.length<sizeLine/\H'=upd H a (.dK (putK kvs k v))) \/
 ∃ kvs k b,H a=#[c,.dT,kvs]/\y=.ref b/\H b=some (.tup (k.map kV))/\kvs.length<sizeLine/\H'=upd H a (.dT (putK kvs k v))
theorem DGet.k{H:Hp}{a:Addr}{kvs:#[X]}{k:Key}(e:H a=#[c,.dK,kvs]):DGet H a (kV k) (valV kvs k):=.inl #[I,kvs,k,.inl e,rfl]
theorem DGet.t{H:Hp}{a b:Addr}{kvs:List (List Key×V)}{k:List Key}(e:H a=#[c,.dT,kvs])(eb:H b=some (.tup (k.map kV))):DGet H a (.ref b) (valV kvs k):=.inr ⟨kvs,k,b,.inl e,rfl,eb,rfl⟩
theorem DPut.k{H:Hp}{a:Addr}{kvs:#[X]}{k:Key}{v:V}(e:H a=#[c,.dK,kvs])(hl:kvs.length<sizeLine):DPut H a (kV k) v (upd H a (.dK (putK kvs k v))):=.inl ⟨kvs,k,e,rfl,hl,rfl⟩
theorem DPut.t{H:Hp}{a b:Addr}{kvs:List (List Key×V)}{k:List Key}{v:V}(e:H a=#[c,.dT,kvs])(eb:H b=some (.tup (k.map kV)))(hl:kvs.length<sizeLine) :
  DPut H a (.ref b) v (upd H a (.dT (putK kvs k v))):=.inr ⟨kvs,k,b,e,rfl,eb,hl,rfl⟩
section
variable{X:Cx}{pins:#[x]}{σ:St}{H:Hp}{s:Shared}{a:Addr}{y v:V}{u r:Value}{o:Option V}{A:Around}{E:Value->Shared->Prop}
theorem Inv.big(I:#[h]):sysModules<s.heap.objs.size:=by
 have h:mainGlobals<s.heap.objs.size:=(I.mod.glob.keeps I.bk).lt;exact Nat.lt_trans ⋯ h
theorem zd3(hu:A.units+1<cLine)(I:#[h])(g:DGet H a y (some v))(ry:RelV y u)(h:∀ w' s',#[G,H,s']->RelV v w'->Q w' s') :
  wpAny (model X.prog X.w) A (getItem (.ref a) u) Q E s:=by
 rcases g with ⟨kvs,k,e,ey,l⟩|⟨kvs,k,b,e,ey,eb,l⟩
 ·subst ey;obtain⟨z,hd,vs,rel,dd⟩:=Qr I.hok e;obtain⟨w',hw,rw'⟩:=RelO.some_of (v:=v) (o:=valueAt vs k) (by rw[l];exact rel.val k);exact wpAny_getItem_of (Kv ry) dd.mapOf hw (h w' _ (I.tok _) rw')
 ·subst ey;cases (show u=Value.ref b from ry);obtain⟨z,hd,xs,rel,dd⟩:=Iv I.hok e;obtain⟨w',hw,rw'⟩:=RelO.some_of (v:=v) (o:=(atKey xs k).map (·.2)) (by rw[l];exact rel.val k);obtain⟨p,hp,hp2⟩:=zyo.mp hw;refine wpAny_getItem_heap (tupleKind_room_in1 hu) (O6 I.hok eb) dd hp ?_;rw[hp2];exact h w' _ (I.tok _) rw'
theorem zmy(hu:A.units+1<cLine)(I:#[h])(g:DGet H a y o)(ry:RelV y u)(h:∀ s',#[G,H,s']->Q (.bool o.isSome) s') :
  wpAny (model X.prog X.w) A (compareOp .In u (.ref a)) Q E s:=by
 rcases g with ⟨kvs,k,e,ey,l⟩|⟨kvs,k,b,e,ey,eb,l⟩
 ·subst ey;obtain⟨z,hd,vs,rel,dd⟩:=Qr I.hok e;refine wpAny_in_of (Kv ry) hd dd.mapOf ?_;rw[<- (rel.val k).isSome_eq,<- l];exact h _ (I.tok _)
 ·subst ey;cases (show u=Value.ref b from ry);obtain⟨z,hd,xs,rel,dd⟩:=Iv I.hok e;refine wpAny_in_heap (tupleKind_room_in1 hu) (O6 I.hok eb) hd dd ?_;have q:=(rel.val k).isSome_eq;rw[Option.isSome_map] at q;rw[<- q,<- l];exact h _ (I.tok _)
theorem zia(hu:A.units+1<cLine)(I:#[h])(g:DGet H a y o)(ry:RelV y u)(h:∀ s',#[G,H,s']->Q (.bool (!o.isSome)) s') :
  wpAny (model X.prog X.w) A (compareOp .NotIn u (.ref a)) Q E s:=by
 rcases g with ⟨kvs,k,e,ey,l⟩|⟨kvs,k,b,e,ey,eb,l⟩
 ·subst ey;obtain⟨z,hd,vs,rel,dd⟩:=Qr I.hok e;refine wpAny_notIn_of (Kv ry) hd dd.mapOf ?_;rw[<- (rel.val k).isSome_eq,<- l];exact h _ (I.tok _)
 ·subst ey;cases (show u=Value.ref b from ry);obtain⟨z,hd,xs,rel,dd⟩:=Iv I.hok e;refine wpAny_notIn_heap (tupleKind_room_in1 hu) (O6 I.hok eb) hd dd ?_;have q:=(rel.val k).isSome_eq;rw[Option.isSome_map] at q;rw[<- q,<- l];exact h _ (I.tok _)
theorem Od(I:#[h])(mu:Mut (H a))(hs:Heap.SameBut a s.heap h')(he:∃ q,h'.get? a=some q)(new:Y0 X.prog X.w (upd H a ob) h' a ob) :
  Inv X pins σ (upd H a ob) { s with heap:=h',toks:=t' } :=
 I.write (x:=a) (e:=a) mu (.inl rfl) (fun b q hb z=>(hs.2 b hb).trans z) he new
theorem Iw(z:kvs.length<=sizeLine)(hd:(a == sysModules)=false)(rel:KV kvs vs)(dd:h'.DictOf (Yn P w) a vs) :
  Y0 P w H' h' a (.dK kvs):=⟨z,hd,vs,rel,dd⟩
theorem zd4(hu:A.units+1<cLine)(I:#[h])(g:DPut H a y v H')(ry:RelV y u)(rv:RelV v r)(h:∀ s',#[G,H',s']->Q () s') :
  wpAny (model X.prog X.w) A (setItem (.ref a) u r) Q E s:=by
 rcases g with ⟨kvs,k,e,ey,l,eH⟩|⟨kvs,k,b,e,ey,eb,l,eH⟩
 ·subst ey eH;obtain⟨z,hd,vs,rel,dd⟩:=B2 I.hok e;have hz:vs.length<=sizeLine:=by rw[<- rel.length];exact z
  have hl:(putK kvs k v).length<=sizeLine:=by have:=Xs kvs k v;omega
  refine wpAny_setItem_pairs (hsz:=hz) (Kv ry) dd fun h' dd' hs=>h _ ?_;have he:∃ q,h'.get? a=some q:=let ⟨q,_,_,hq,_⟩:=dd';⟨q,hq⟩;exact Od I (by rw[e];exact True.intro) hs he (Iw hl hd (rel.put k rv) dd')
 ·subst ey eH;cases (show u=Value.ref b from ry);obtain⟨z,hd,xs,rel,dd⟩:=zjf I.hok e;have hz:xs.length<=sizeLine:=by rw[<- Paired.length rel];exact z
  have hl:(putK kvs k v).length<=sizeLine:=by have:=Xs kvs k v;omega
  refine wpAny_setItem_heap (hsz:=hz) (tupleKind_room_in1 hu) (O6 I.hok eb) dd fun h' dd' hs=>h _ ?_;obtain⟨q,es,ep,hq,h2,h3,h4,_,h5⟩:=dd';refine Od I (by rw[e];exact True.intro) hs ⟨q,hq⟩ ⟨hl,hd,_,(rel.put k eb rv).keeps fun c ys ec=>?_,q,es,ep,hq,h2,h3,h4,h5⟩;rw[Zi (Yz ec e (fun z=>nomatch z))];exact ec
end
section
variable{X:Cx}{pins:#[x]}{σ:St}{H:Hp}{s:Shared}{a:Addr}{kvs:#[X]}{k:Key}{u:Value}{A:Around}{E:Value->Shared->Prop}
theorem zlx(I:#[h])(e:H a=#[c,.dK,kvs])(ry:RelV (kV k) u)(l:valV kvs k=some v)(hm:more=[]\/∃ x,more=[x])
  (h:∀ w' s',#[G,upd H a (.dK (X4 kvs k)),s']->RelV v w'->Q w' s'):#[ab,A,call (.builtin "dict.pop") (.ref a :: u :: more),Q,E,s]:=by
 obtain⟨z,hd,vs,rel,dd⟩:=B2 I.hok e;obtain⟨w',hw,rw'⟩:=RelO.some_of (v:=v) (o:=valueAt vs k) (by rw[<- l];exact rel.val k);have hp:(keyPart u).isSome=true:=by
  cases k with
  | inl i=>obtain⟨t,q⟩:=(show ∃ t,u=Value.int i t from ry);subst q;rfl
  | inr x=>obtain⟨t,q⟩:=(show ∃ t,u=Value.str x t from ry);subst q;rfl
 have ha:argsOk "dict.pop" ⟨.ref a :: u :: more,[]⟩:=by
  rcases hm with q|⟨x,q⟩
  ·subst q;exact PySem.F.args_dict_pop_2 _ _
  ·subst q;exact PySem.F.args_dict_pop_3 _ _ _
 refine call_meetsIn PySem.F.slot_dict_pop dd.typeIs PySem.F.entry_dict_pop ha (meets_dict_pop_there (Yn X.prog X.w) a (Kv ry) more hm hp)
  ⟨vs,w',dd,by rw[<- rel.length];exact z,hw,fun h' dd' hs=>h w' _ ?_ rw'⟩
 have he:∃ q,h'.get? a=some q:=let ⟨q,_,_,hq,_⟩:=dd';⟨q,hq⟩;exact Od I (by rw[e];exact True.intro) hs he (Iw (zw6 (B1 kvs k) z) hd (rel.drop k) dd')
theorem zly(I:#[h])(e:Rd H a (.dK kvs))(h:∀ t s',#[G,H,s']->Q (.int kvs.length t) s'):#[ab,A,call (.builtin "len") [.ref a],Q,E,s]:=by
 obtain⟨z,hd,vs,rel,dd⟩:=Qr I.hok e;refine call_len_dict hd dd (by rw[<- rel.length];rw[sizeLine_eq] at z;omega) ?_;rw[<- rel.length];exact h _ _ (I.tok _)
end
def zj3(i:Expr):Prop:=∀ ov iv,subscripted i false ov iv=operate [ov,iv] (getItem ov iv)
theorem zib{prog:Program}{w:World}{A:Around}{E:Value->Shared->Prop}{s:Shared}{env:Env}{value slice:Expr}{pos:Pos}{T id:String}{Q:Value->Shared->Prop}
  (hl:typeLookup (.type T) "__getitem__"=pure #[c,.builtin,id]) (hs:zj3 slice)
  (h:wpAny (model prog w) A (eval value env) (fun o s₁=>wpAny (model prog w) A (eval slice env) (fun i s₂=>s₂.TypeIs o T/\wpAny (model prog w) A (getItem o i) Q E s₂) E s₁) E s) :
  wpAny (model prog w) A (eval (.Subscript value slice pos) env) Q E s:=by
 refine Subscript_ (wpAny_mono h (fun o s₁ h₁=>wpAny_mono h₁ (fun i s₂ h₂=>?_) fun _ _ x=>x) fun _ _ x=>x);obtain⟨hT,h₂⟩:=h₂;unfold subscriptTail;refine wpAny_bind ?_;rw[getitemInPython_of_ne hT.not_modules];refine wpAny_bind (wpAny_specialOf hT hl ?_);have fin:wpAny (model prog w) A (subscripted slice false o i) (fun r s₃=>wpAny (model prog w) A (letTemporaryGo value o r >>= fun _=>pure r) Q E s₃) E s₂:=by
  rw[hs o i];exact wpAny_operating (wpAny_mono h₂ (fun r s₃ h₃=>wpAny_bind (wpAny_letTemporaryGo (wpAny_pure h₃))) fun _ _ x=>x)
 first
  | exact wpAny_pure (wpAny_bind fin)
  | exact wpAny_bind (wpAny_pure (wpAny_bind fin))
  | exact wpAny_bind fin
theorem B3(I:#[h])(g:DGet H a y o):s.TypeIs (.ref a) "dict":=by
 rcases g with ⟨kvs,k,e,_,_⟩|⟨kvs,k,b,e,_,_,_⟩
 ·obtain⟨_,_,vs,_,dd⟩:=Qr I.hok e;exact dd.typeIs
 ·obtain⟨_,_,xs,_,dd⟩:=Iv I.hok e;exact dd.typeIs
inductive zj4(Q:VK)(x:V)(y:V)(H2:Hp):Prop where
 | mk(a)(v)(_:x=.ref a)(_:DGet H2 a y (some v))(_:Q v H2)
def zcp(td ty:TE):TE:=fun σ H Q=>td σ H fun x H1=>ty σ H1 fun y H2=>zj4 Q x y H2
inductive zlz(Q:VK)(y:V)(x:V)(H2:Hp):Prop where
 | mk(a)(o)(_:x=.ref a)(_:DGet H2 a y o)(_:Q (.bl o.isSome) H2)
def zmz(ty td:TE):TE:=fun σ H Q=>ty σ H fun y H1=>td σ H1 fun x H2=>zlz Q y x H2
inductive zf2(Q:VK)(y:V)(x:V)(H2:Hp):Prop where
 | mk(a)(o)(_:x=.ref a)(_:DGet H2 a y o)(_:Q (.bl (!o.isSome)) H2)
def zic(ty td:TE):TE:=fun σ H Q=>ty σ H fun y H1=>td σ H1 fun x H2=>zf2 Q y x H2
inductive zj5(D:Q7)(σ:L2.St)(v:V)(x:V)(y:V)(H3:Hp):Prop where
 | mk(a)(H4)(_:x=.ref a)(_:DPut H3 a y v H4)(_:D.nx σ H4)
def zl0(td ty tv:TE):TS:=fun D σ H=>tv σ H fun v H1=>td σ H1 fun x H2=>ty σ H2 fun y H3=>zj5 D σ v x y H3
section
variable{X:Cx}{o i e value:Expr}{pos pos' tpos:Pos}{td ty tv:TE}
theorem zid(hu:X.A.units+1<cLine)(ho:PE X o td)(hi:PE X i ty)(hs:zj3 i):PE X (.Subscript o i pos) (zcp td ty):=by
 intro pins s σ H Q I h;refine zib PySem.F.slot_dict_getitem.lookup hs (thn (ho pins s σ H _ I h) fun u s1 ⟨x,H1,I1,rx,q1⟩=>thn (hi pins s1 σ H1 _ I1 q1) fun iv s2 ⟨y,H2,I2,ry,a,v,ex,g,q2⟩=>?_);subst ex;obtain rfl:u=Value.ref a:=rx;exact⟨B3 I2 g,zd3 hu I2 g ry fun w' s3 I3 rw'=>⟨v,H2,I3,rw',q2⟩⟩
theorem O7(hu:X.A.units+1<cLine)(hi:PE X i ty)(ho:PE X o td):PC X .In i o (zmz ty td):=by
 intro pins s σ H Q I h;refine thn (hi pins s σ H _ I h) fun iv s1 ⟨y,H1,I1,ry,q1⟩=>thn (ho pins s1 σ H1 _ I1 q1) fun u s2 ⟨x,H2,I2,rx,a,ov,ex,g,q2⟩=>?_;subst ex;obtain rfl:u=Value.ref a:=rx;exact zmy hu I2 g ry fun s3 I3=>#[I,.bl ov.isSome,H2,I3,q2]
theorem Li(hu:X.A.units+1<cLine)(hi:PE X i ty)(ho:PE X o td):PC X .NotIn i o (zic ty td):=by
 intro pins s σ H Q I h;refine thn (hi pins s σ H _ I h) fun iv s1 ⟨y,H1,I1,ry,q1⟩=>thn (ho pins s1 σ H1 _ I1 q1) fun u s2 ⟨x,H2,I2,rx,a,ov,ex,g,q2⟩=>?_;subst ex;obtain rfl:u=Value.ref a:=rx;exact zia hu I2 g ry fun s3 I3=>#[I,.bl (!ov.isSome),H2,I3,q2]
theorem Y2(hu:X.A.units+1<cLine)(ho:PE X o td)(hi:PE X i ty)(hv:PE X value tv)(hs:swapsWith value (some (.Subscript o i pos')) pos.line X.env=pure false) :
  PS X (.Assign [.Subscript o i pos'] value pos) (zl0 td ty tv):=by
 intro pins s σ H D I h;refine wpAny_Assign_Subscript (thn (hv pins s σ H _ I h) fun r s1 ⟨v,H1,I1,rv,q1⟩=>thn (ho pins s1 σ H1 _ I1 q1) fun u s2 ⟨x,H2,I2,rx,q2⟩=>thn (hi pins s2 σ H2 _ I2 q2) fun iv s3 ⟨y,H3,I3,ry,a,H4,ex,g,q3⟩=>?_) hs;subst ex;obtain rfl:u=Value.ref a:=rx;exact zd4 hu I3 g ry rv fun s4 I4=>⟨σ,H4,I4,q3⟩
end
theorem B4(h:Heap)(hb:sysModules<h.objs.size):Y0 P w H (h.push { cls:=.type "dict",data:=.dict #[] }) h.objs.size (.dK []) :=
 ⟨zxk _,zxg.mpr (Ne.symm (zxj hb)),[],.nil,Heap.DictOf.new h⟩
theorem zf3(h:Heap)(hb:sysModules<h.objs.size):Y0 P w H (h.push { cls:=.type "dict",data:=.dict #[] }) h.objs.size (.dT []) :=
 ⟨zxk _,zxg.mpr (Ne.symm (zxj hb)),[],.nil,_,#[],0,Heap.get?_push_size _ rfl,⟨rfl,rfl,rfl⟩,rfl,rfl,zyn⟩
def zj6:TE:=fun _ H Q=>∀ p,H p=none->Q (.ref p) (upd H p (.dK []))
def zj7:TE:=fun _ H Q=>∀ p,H p=none->Q (.ref p) (upd H p (.dT []))
section
variable{X:Cx}{pos:Pos}
theorem Mb:PE X (.Dict [] [] pos) zj6:=fun pins s σ H Q I h =>
 wpAny_Dict_empty ⟨.ref s.heap.objs.size,_,I.laid (a:=s.heap.objs.size) (o:=.dK []) (t':=s.toks) (fun _ _ q=>Heap.get?_push_of_some _ q) (zwz _) (B4 s.heap I.big),rfl,h _ (I.hok.fresh (zwz _))⟩
theorem Iy:PE X (.Dict [] [] pos) zj7:=fun pins s σ H Q I h =>
 wpAny_Dict_empty ⟨.ref s.heap.objs.size,_,I.laid (a:=s.heap.objs.size) (o:=.dT []) (t':=s.toks) (fun _ _ q=>Heap.get?_push_of_some _ q) (zwz _) (zf3 s.heap I.big),rfl,h _ (I.hok.fresh (zwz _))⟩
end
def zbf:List (TE×TE)->St->Hp->(List (V×V)->Hp->Prop)->Prop
 | [],_,H,Q=>Q [] H
 | (tk,tv) :: r,σ,H,Q=>tk σ H fun x H1=>tv σ H1 fun y H2=>zbf r σ H2 fun ps H3=>Q ((x,y) :: ps) H3
abbrev VV:List (V×V)->List (Value×Value)->Prop:=Paired fun p q=>RelV p.1 q.1/\RelV p.2 q.2
def PPs(X:Cx)(pos:Pos)(keys:List (Option Expr))(values:List Expr)(trs:List (TE×TE)):Prop :=
 ∀ (pins:#[x]) (s:Shared) (σ:St) (H:Hp) (Q:List (V×V)->Hp->Prop),#[h]->zbf trs σ H Q ->
   wpAny (model X.prog X.w) X.A (evalPairs (pairTrees keys values X.env pos)) (fun vs s'=>∃ ps H',#[G,H',s']/\VV ps vs/\Q ps H') X.xe s
theorem zcq:PPs X pos [] [] []:=fun pins s σ H Q I h=>pairTrees_nil_walk ⟨[],H,I,.nil,h⟩
theorem Tj(hk:PE X k tk)(hv:PE X v tv)(hr:PPs X pos ks vs trs) :
  PPs X pos (some k :: ks) (v :: vs) ((tk,tv) :: trs):=fun pins s σ H Q I h =>
 pairTrees_cons_walk (thn (hk pins s σ H _ I h) fun u s1 ⟨x,H1,I1,rx,q1⟩=>thn (hv pins s1 σ H1 _ I1 q1) fun w2 s2 ⟨y,H2,I2,ry,q2⟩ =>
  thn (hr pins s2 σ H2 _ I2 q2) fun ws s3 ⟨ps,H3,I3,rel,q3⟩=>⟨(x,y) :: ps,H3,I3,.cons ⟨rx,ry⟩ rel,q3⟩)
def Uc(kvs more:#[X]):#[X]:=more.foldl (fun acc kv=>putK acc kv.1 kv.2) kvs
theorem KV.merge:∀ {more:List (Key×V)} {rs:List (Key×Value)} {kvs:List (Key×V)} {vs:List (Key×Value)},KV more rs->KV kvs vs->KV (Uc kvs more) (merged vs rs):=by
 intro more rs kvs vs r;unfold KV at r
 induction r generalizing kvs vs with
 | nil=>intro q;exact q
 | @cons p q ps qs h t ih =>
   intro r0;have e:KV (putK kvs p.1 p.2) (stored vs q.1 q.2):=by
    have:=r0.put p.1 h.2;rw[<- h.1];exact this
   exact ih e
theorem Sw:∀ (more kvs:List (Key×V)),(Uc kvs more).length<=kvs.length+more.length
 | [],kvs=>by show kvs.length<=kvs.length+0;omega
 | p :: r,kvs=>by
   have h1:=Sw r (putK kvs p.1 p.2);have h2:=Xs kvs p.1 p.2;show (Uc (putK kvs p.1 p.2) r).length<=_;rw[zxb];omega
theorem Iz:∀ {kvs:List (Key×V)} {ws:List (Value×Value)},VV (kvs.map fun kv=>(kV kv.1,kv.2)) ws->∃ rs,Carries (Yn P w) ws rs/\KV kvs rs
 | [],_,r=>by rw[List.map_nil] at r;cases r;exact⟨[],True.intro,.nil⟩
 | p :: kvs,_,r=>by
   rw[zw3] at r;cases r with
   | @cons a b as bs h t =>
     obtain⟨rs,c,q⟩:=Iz (P:=P) (w:=w) t;obtain⟨b1,b2⟩:=b;exact⟨(p.1,b2) :: rs,#[t,Kv h.1,c],.cons ⟨rfl,h.2⟩ q⟩
def zl1(trs:List (TE×TE)):TE:=fun σ H Q=>∀ p,H p=none->zbf trs σ (upd H p (.dK [])) fun ps H2=>H2 p=#[c,.dK,[]]/\∃ kvs:#[X],ps=kvs.map (fun kv=>(kV kv.1,kv.2))/\kvs.length<=15/\Q (.ref p) (upd H2 p (.dK (Uc [] kvs)))
theorem zcr(h:PPs X pos keys values trs)(hall:keys.all (·.isSome)=true)(hl:keys.length=values.length)(h0:keys≠[])
  (h15:keys.length<=15):PE X (.Dict keys values pos) (zl1 trs):=by
 intro pins s σ H Q I q;have hn:=I.hok.fresh (zwz s.heap.objs.size);have I1:=I.laid (a:=s.heap.objs.size) (o:=.dK []) (h':=s.heap.push { cls:=.type "dict",data:=.dict #[] }) (t':=s.toks) (fun _ _ q=>#[ah,_,q]) (zwz _) (B4 s.heap I.big);refine wpAny_Dict_walk (knd:=Yn X.prog X.w) hall hl h0 h15 (thn (h pins _ σ _ _ I1 (q _ hn)) fun ws s2 ⟨ps,H2,I2,rel,e,kvs,ep,lk,q2⟩=>?_);subst ep;obtain⟨rs,c,rk⟩:=Iz (P:=X.prog) (w:=X.w) rel;obtain⟨z,hd,vs0,r0,dd⟩:=B2 I2.hok e;cases r0;refine⟨rs,c,dd,fun h' dd' hs=>#[I,.ref s.heap.objs.size,_,?_,q2]⟩;have hz:(Uc [] kvs).length<=sizeLine:=by
  have h1:=Sw kvs [];rw[List.length_nil] at h1;rw[sizeLine_eq];omega
 have he:∃ q,h'.get? s.heap.objs.size=some q:=let ⟨q,_,_,hq,_⟩:=dd';⟨q,hq⟩;exact Od I2 (by rw[e];exact True.intro) hs he (Iw hz hd (rk.merge .nil) dd')
structure M1(X:Cx)(o:Expr)(m:Str)(apos:Pos)(e:Expr)(cpos:Pos):Prop where
 base:attributeBase o m X.env #[D,o]=#[D,o]
 few:((backTo cpos (starEach [e] X.env)).all (fun x=>!x.1)&&(backToKw cpos (keywordEach [] X.env)).all (fun x=>x.1.isSome)
  && decide (([e]:List Expr).length+([]:List Keyword).length+(if ([]:List Keyword).isEmpty then 0 else 1)<30))=true
 line:(apos.endLine == cpos.line)=true
 trees:backTo cpos (starEach [e] X.env)=[(false,eval e X.env)]
structure M2(X:Cx)(o:Expr)(m:Str)(apos:Pos)(e f:Expr)(cpos:Pos):Prop where
 base:attributeBase o m X.env #[D,o]=#[D,o]
 few:((backTo cpos (starEach [e,f] X.env)).all (fun x=>!x.1)&&(backToKw cpos (keywordEach [] X.env)).all (fun x=>x.1.isSome)
  && decide (([e,f]:List Expr).length+([]:List Keyword).length+(if ([]:List Keyword).isEmpty then 0 else 1)<30))=true
 line:(apos.endLine == cpos.line)=true
 trees:backTo cpos (starEach [e,f] X.env)=[(false,#[D,e]),(false,#[D,f])]
def IsD(H:Hp)(a:Addr):Prop:=(∃ kvs,Rd H a (.dK kvs))\/∃ kvs,Rd H a (.dT kvs)
theorem zbg(I:#[h])(d:IsD H a) :
  s.TypeIs (.ref a) "dict"/\(∀ b,Value.ref a=.ref b->∃ ob,#[O,b]=some ob/\ob.dict=none)/\(a == sysModules)=false:=by
 rcases d with ⟨kvs,e⟩|⟨kvs,e⟩
 ·obtain⟨_,hd,vs,_,dd⟩:=Qr I.hok e;refine⟨dd.typeIs,fun b q=>?_,hd⟩;cases q;obtain⟨ob,_,_,h1,h2,_⟩:=dd;exact⟨ob,h1,h2.2.1⟩
 ·obtain⟨_,hd,xs,_,dd⟩:=Iv I.hok e;refine⟨dd.typeIs,fun b q=>?_,hd⟩;cases q;obtain⟨ob,_,_,h1,h2,_⟩:=dd;exact⟨ob,h1,h2.2.1⟩
section
variable{X:Cx}{pins:#[x]}{σ:St}{H:Hp}{s:Shared}{a:Addr}{y d:V}{u r:Value}{o:Option V}{A:Around}{E:Value->Shared->Prop}
theorem zj8(hu:A.units+1<cLine)(I:#[h])(g:DGet H a y o)(ry:RelV y u)(rd:RelV d r)(h:∀ w' s',#[G,H,s']->RelV (o.getD d) w'->Q w' s') :
  wpAny (model X.prog X.w) A (call (.builtin "dict.get") [.ref a,u,r]) Q E s:=by
 rcases g with ⟨kvs,k,e,ey,l⟩|⟨kvs,k,b,e,ey,eb,l⟩
 ·subst ey;obtain⟨z,hd,vs,rel,dd⟩:=Qr I.hok e;refine call_meetsIn PySem.F.slot_dict_get dd.typeIs PySem.F.entry_dict_get (PySem.F.args_dict_get_3 _ _ _) (meets_dict_get_default (Yn X.prog X.w) a (Kv ry) hd r) ⟨_,dd.mapOf,h _ _ (I.tok _) ?_⟩;rw[l];exact(rel.val k).getD rd
 ·subst ey;cases (show u=Value.ref b from ry);obtain⟨z,hd,xs,rel,dd⟩:=Iv I.hok e;refine call_meetsIn PySem.F.slot_dict_get dd.typeIs PySem.F.entry_dict_get (PySem.F.args_dict_get_3 _ _ _) (meetsH_dict_get_default (tupleKind (Yn X.prog X.w)) a b hd r) ⟨tupleKind_room_in1 hu,k,xs,O6 I.hok eb,dd,h _ _ (I.tok _) ?_⟩;rw[l];exact(rel.val k).getD rd
end
inductive zie(ty:TE)(tx:TE)(σ:L2.St)(Q:VK)(x:V)(H1:Hp):Prop where
 | mk(a)(_:x=.ref a)(_:IsD H1 a)(_:ty σ H1 fun y H2=>tx σ H2 fun z H3=>∃ o,DGet H3 a y o/\Q (o.getD z) H3)
def zj9(td ty tx:TE):TE:=fun σ H Q=>td σ H fun x H1=>zie ty tx σ Q x H1
inductive zif(ty:TE)(σ:L2.St)(Q:VK)(x:V)(H1:Hp):Prop where
 | mk(a)(_:x=.ref a)(_:IsD H1 a)(_:ty σ H1 fun y H2=>∃ kvs k v,H2 a=#[c,.dK,kvs]/\y=kV k/\valV kvs k=some v/\Q v (upd H2 a (.dK (X4 kvs k))))
def zka(td ty:TE):TE:=fun σ H Q=>td σ H fun x H1=>zif ty σ Q x H1
section
variable{X:Cx}{o e f:Expr}{apos cpos:Pos}{td ty tx:TE}
theorem zf4(hu:X.A.units+1<cLine)(ho:PE X o td)(he:PE X e ty)(hf:PE X f tx)(m:M2 X o "get" apos e f cpos):PE X (.Call (.Attribute o "get" apos) [e,f] [] cpos) (zj9 td ty tx):=by
 intro pins s σ H Q I h;refine wpAny_Call_method m.base m.few m.line PySem.F.plainAttrs_dict PySem.F.slot_dict_get PySem.F.type_dict_get (thn (ho pins s σ H _ I h) fun u s1 ⟨x,H1,I1,rx,a,ex,d,q1⟩=>?_);subst ex;obtain rfl:u=Value.ref a:=rx;obtain⟨t1,t2,_⟩:=zbg I1 d;refine⟨t1,t2,?_⟩;rw[m.trees];refine Calls.callWith_builtin rfl (Calls.evalArgs_plain (Calls.spliced_cons (thn (he pins s1 σ H1 _ I1 q1) fun iv s2 ⟨y,H2,I2,ry,q2⟩ =>
  Calls.spliced_cons (thn (hf pins s2 σ H2 _ I2 q2) fun fv s3 ⟨z,H3,I3,rz,ov,g,q3⟩=>Calls.spliced_nil ?_))))
 exact zj8 hu I3 g ry rz fun w' s4 I4 rw'=>⟨_,H3,I4,rw',q3⟩
theorem zf5(ho:PE X o td)(he:PE X e ty)(m:M1 X o "pop" apos e cpos):PE X (.Call (.Attribute o "pop" apos) [e] [] cpos) (zka td ty):=by
 intro pins s σ H Q I h;refine wpAny_Call_method m.base m.few m.line PySem.F.plainAttrs_dict PySem.F.slot_dict_pop PySem.F.type_dict_pop (thn (ho pins s σ H _ I h) fun u s1 ⟨x,H1,I1,rx,a,ex,d,q1⟩=>?_);subst ex;obtain rfl:u=Value.ref a:=rx;obtain⟨t1,t2,_⟩:=zbg I1 d;refine⟨t1,t2,?_⟩;rw[m.trees];refine Calls.callWith_builtin rfl (Calls.evalArgs_plain (Calls.spliced_cons (thn (he pins s1 σ H1 _ I1 q1) fun iv s2 ⟨y,H2,I2,ry,kvs,k,v,ea,ey,l,q2⟩=>Calls.spliced_nil ?_)));subst ey;exact zlx I2 ea ry l (.inl rfl) fun w' s3 I3 rw'=>⟨v,_,I3,rw',q2⟩
end
section
variable{X:Cx}{pins:#[x]}{σ:St}{H:Hp}{s:Shared}{a:Addr}{kvs:#[X]}{A:Around}{E:Value->Shared->Prop}
theorem zf6(I:#[h])(e:Rd H a (.dK kvs))(h:∀ p s',H p=none->#[G,upd H p (.dK kvs),s']->Q (.ref p) s'):#[ab,A,call (.type "dict") [.ref a],Q,E,s]:=by
 obtain⟨z,hd,vs,rel,dd⟩:=Qr I.hok e;refine kt_call_dict hd dd (by rw[<- rel.length];exact z) fun h' dd' hs=>?_;refine h _ _ (I.hok.fresh (zwz _)) (I.laid (a:=s.heap.objs.size) (o:=.dK kvs) (t':=s.toks) (fun b q hq=>?_) (zwz _) (Iw z (zxg.mpr (Ne.symm (zxj I.big))) rel dd'));exact(hs.2 b (zxj (Heap.lt_size hq))).trans (Heap.get?_push_of_some _ hq)
end
end L2
namespace HT
open PySem PyProof.Rows
section
open PySem.SeqAt
open PySem.AutoSeq1 (wpAny_loadPart')
open PySem.MeetsSeq PySem.MeetsSeq2 PySem.MeetsSeq3
end
section
variable{prog:Program}{w:World}{A:Around}{E:Value->Shared->Prop}{s:Shared}
theorem cat_tup(ht:IsTup s.heap t vs.toArray)(hb:IsTup s.heap b ws.toArray)(hv:vs≠[])
  (h1:ws=[]->Q (.ref t) s) (h2:ws≠[]->Q (.ref s.heap.objs.size) { s with heap:=s.heap.push { cls:=.type "tuple",data:=.seq (vs++ws).toArray } })
  (hsz:vs.length+ws.length<=sizeLine):wpAny (model prog w) A (binaryOp .Add (.ref t) (.ref b)) Q E s:=by
 obtain⟨⟨cls,dd,data,sl⟩,ho,hc,n,hd⟩:=id ht;obtain⟨⟨cls2,dd2,data2,sl2⟩,ho2,hc2,n2,hd2⟩:=id hb;simp only at hc hd hc2 hd2;subst hc hd hc2 hd2;have e:vs.toArray++ws.toArray=(vs++ws).toArray:=by simp
 by_cases hw:ws=[]
 ·exact concat_meets ⟨_,ho,rfl⟩ ⟨_,ho2,rfl⟩ noFill_tuple_add seq_tuple_add PySem.F.slot_tuple_add PySem.F.entry_tuple_add (PySem.F.args_tuple_add_2 _ _)
   (tuple_addW1 t b vs.toArray ws.toArray n n2 dd dd2 sl sl2 (by simpa using hv) (by simp[hw])) ⟨ho,ho2,h1 hw⟩
 ·refine concat_meets ⟨_,ho,rfl⟩ ⟨_,ho2,rfl⟩ noFill_tuple_add seq_tuple_add PySem.F.slot_tuple_add PySem.F.entry_tuple_add (PySem.F.args_tuple_add_2 _ _)
   (tuple_addW2 t b vs.toArray ws.toArray n n2 dd dd2 sl sl2 (by simpa using hv) (by simpa using hw) (by rw[zw5,zw5];exact hsz)) ⟨ho,ho2,?_⟩
  rw[e];exact h2 hw
def sIx(n d:Nat):#[F]->Nat
 | none=>d
 | some v=>if v<0 then (v+(n:Int)).toNat else min v.toNat n
theorem sIx_none(n d:Nat):sIx n d none=d:=rfl
theorem sIx_nat(n d k:Nat):sIx n d (some (k:Int))=min k n:=by
 show (if (k:Int)<0 then ((k:Int)+(n:Int)).toNat else min (k:Int).toNat n)=min k n;rw[if_neg ⋯,zxc]
end
end HT
namespace L2
open PySem PySem.Spec PyProof.Rows
abbrev TO:=St->Hp->(#[F]->Hp->Prop)->Prop
def PO(X:Cx)(e:Option Expr)(t:TO):Prop :=
 ∀ (pins:#[x]) (s:Shared) (σ:St) (H:Hp) (Q:#[F]->Hp->Prop),#[h]->t σ H Q ->
   wpAny (model X.prog X.w) X.A (evalPart e X.env) (fun u s'=>∃ o H',#[G,H',s']/\IsPart u o/\Q o H') X.xe s
def zig:TO:=fun _ H Q=>Q none H
inductive zkb(Q:#[F]->Hp->Prop)(x:V)(H1:Hp):Prop where
 | mk(i)(_:x=.int i)(_:Q (some i) H1)
def zl2(t:TE):TO:=fun σ H Q=>t σ H fun x H1=>zkb Q x H1
section
variable{X:Cx}{e:Expr}{te:TE}{lo hi:Option Expr}{tl th:TO}{pos p2:Pos}
theorem zcs:PO X none zig:=by
 intro pins s σ H Q I h;rw[evalPart_none];exact wpAny_pure ⟨none,H,I,.none,h⟩
theorem zct(h:PE X e te):PO X (some e) (zl2 te):=by
 intro pins s σ H Q I hw;rw[evalPart_some];refine thn (h pins s σ H _ I hw) fun u s1 ⟨x,H1,I1,r1,q1⟩=>?_;obtain⟨i,rfl,q⟩:=q1;obtain⟨t,rfl⟩:=r1;exact⟨some i,H1,I1,.int i t,q⟩
def SlR(X:Cx)(r:V->#[F]->#[F]->Hp->VK->Prop):Prop :=
 ∀ (pins:#[x]) (s:Shared) (σ:St) (H:Hp) (x:V) (v vl vu:Value) (lo hi:#[F]) (sl:Addr) (Q:VK),#[h]->RelV x v->s.heap.IsSliceOf sl vl vu .none->IsPart vl lo->IsPart vu hi->r x lo hi H Q ->
   ∃ T id,typeLookup (.type T) "__getitem__"=pure #[c,.builtin,id]/\s.TypeIs v T/\#[ab,X.A,getItem v (.ref sl),EP X pins σ Q,X.xe,s]
def tSl(r:V->#[F]->#[F]->Hp->VK->Prop)(te:TE)(tl th:TO):TE:=fun σ H Q=>te σ H fun x H1=>tl σ H1 fun l H2=>th σ H2 fun u H3=>r x l u H3 Q
theorem B5(hr:SlR X r)(he:PE X e te)(hl:PO X lo tl)(hu:PO X hi th):PE X (.Subscript e (.Slice lo hi none p2) pos) (tSl r te tl th):=by
 intro pins s σ H Q I h;refine Subscript_ (thn (he pins s σ H _ I h) fun v s1 ⟨x,H1,I1,r1,q1⟩=>?_);refine wpAny_Slice (thn (hl pins s1 σ H1 _ I1 q1) fun vl s2 ⟨l,H2,I2,pl,q2⟩=>thn (hu pins s2 σ H2 _ I2 q2) fun vu s3 ⟨u,H3,I3,pu,q3⟩=>?_);rw[evalPart_none];refine wpAny_pure ?_;have I4:#[G,H3,{ s3 with heap:=s3.heap.push { cls:=.type "slice",data:=.fields #[vl,vu,.none] } }]:=I3.kept (t':=s3.toks) fun b ob q=>#[ah,_,q];obtain⟨T,id,hT,ht,hg⟩:=hr pins { s3 with heap:=s3.heap.push { cls:=.type "slice",data:=.fields #[vl,vu,.none] } } σ H3 x v vl vu l u s3.heap.objs.size Q I4 r1 (Heap.IsSliceOf.new ..) pl pu q3;show #[ab,X.A,subscriptTail e (.Slice lo hi none p2) v (.ref s3.heap.objs.size),EP X pins σ Q,X.xe,{ s3 with heap:=s3.heap.push { cls:=.type "slice",data:=.fields #[vl,vu,.none] } }];exact tail_any (ops:=[.ref s3.heap.objs.size,v]) ht hT hg (by with_unfolding_all rfl)
def Fo(xs:#[a])(lo hi:#[F]):#[a]:=(xs.drop (HT.sIx xs.length 0 lo)).take (HT.sIx xs.length xs.length hi-HT.sIx xs.length 0 lo)
theorem B6(xs:#[a])(lo hi:#[F]):(Fo xs lo hi).length<=xs.length:=by
 unfold Fo;rw[zyw,List.length_drop];omega
inductive zjg(K:Frag)(x:V)(y:V)(H:Hp)(Q:VK):Prop where
 | mk(a)(b)(xs)(ys)(_:x=.ref a)(_:y=.ref b)(_:SqT K H a xs)(_:SqT K H b ys)(_:xs≠[])(_:xs.length+ys.length<=sizeLine)(_:(ys=[]->Q (.ref a) H))(_:(ys≠[]->∀ p,H p=none->Q (.ref p) (upd H p (.tup (xs++ys)))))
theorem Vals.nil_iff(r:Vals xs us):us=[]↔xs=[]:=by
 cases r with
 | nil=>simp
 | cons _ _=>simp
theorem zih:OpR X (binaryOp .Add) (zjg X.K):=by
 intro pins s σ H x y v u Q I rx ry h;obtain⟨a,b,xs,ys,rfl,rfl,ha,hb,hx,hz,q1,q2⟩:=h;cases rx;cases ry;obtain⟨its,r1,p1,_⟩:=I.tuple ha;obtain⟨its2,r2,p2,_⟩:=I.tuple hb;refine HT.cat_tup p1 p2 (fun z=>hx (r1.nil_iff.mp z)) (fun z=>#[I,.ref a,H,I,q1 (r2.nil_iff.mp z)]) (fun z=>?_) (by rw[<- r1.length,<- r2.length];exact hz);refine#[I,.ref s.heap.objs.size,_,I.laid (t':=s.toks) (o:=.tup (xs++ys)) (fun b ob q=>#[ah,_,q]) (zwz _) ?_,q2 (fun w=>z (r2.nil_iff.mpr w)) _ (I.hok.fresh (zwz _))];exact⟨by rw[zwt];exact hz,_,r1.append r2,IsTup.new _ _⟩
end
def ixN(n:Nat)(i:Int):Option Nat:=if 0<=i then (if i<n then some i.toNat else none) else if -(n:Int)<=i then some (i+n).toNat else none
def atI{α:Type}(xs:List α)(i:Int):Option α:=(ixN xs.length i).bind fun j=>xs[j]?
theorem zcu(h:ixN n i=some j):seqIndex? i n=some j/\j<n/\-(n:Int)<=i/\i<n:=by
 unfold ixN at h;by_cases h0:0<=i
 ·rw[#[l,h0]] at h;by_cases h1:i<n
  ·rw[#[l,h1]] at h;have e:i.toNat=j:=#[aj,h];exact⟨by rw[seqIndex_of h0 h1,e],by omega,by omega,h1⟩
  ·rw[#[g,h1]] at h;cases h
 ·rw[#[g,h0]] at h;by_cases h1:-(n:Int)<=i
  ·rw[#[l,h1]] at h;have e:(i+n).toNat=j:=#[aj,h];exact⟨by rw[seqIndex_neg ⋯ h1,e],by omega,h1,by omega⟩
  ·rw[#[g,h1]] at h;cases h
theorem zcv(h:atI xs i=some v):∃ j,seqIndex? i xs.length=some j/\xs[j]?=some v/\j<xs.length/\-(xs.length:Int)<=i/\i<xs.length:=by
 unfold atI at h;cases e:ixN xs.length i with
 | none=>rw[e] at h;cases h
 | some j =>
   rw[e] at h;obtain⟨h1,h2,h3,h4⟩:=zcu e;exact⟨j,h1,h,h2,h3,h4⟩
theorem Zz{α:Type}{xs:List α}{j:Nat}{v:α}(h:xs[j]?=some v):atI xs (j:Int)=some v:=by
 have hj:j<xs.length:=(zwr.mp h).1;have e:ixN xs.length (j:Int)=some j:=by
  unfold ixN;rw[if_pos ⋯,if_pos ⋯];simp
 unfold atI;rw[e];exact h
theorem atI_last(xs:List α)(v:α):atI (xs++[v]) (-1)=some v:=by
 have hl:(xs++[v]).length=xs.length+1:=by simp
 have e:ixN (xs++[v]).length (-1)=some xs.length:=by
  unfold ixN;rw[hl,if_neg ⋯,if_pos ⋯]
  congr 1
  omega
 unfold atI;rw[e];show (xs++[v])[xs.length]?=some v;simp
def zcw(b:Expr):Prop:=∀ o i,subscripted b false o i=operate [o,i] (getItem o i)
def IxR(X:Cx)(r:R2):Prop :=
 ∀ (value slice:Expr) (pins:#[x]) (s:Shared) (σ:St) (H:Hp) (x y:V) (v u:Value) (Q:VK),#[h]->RelV x v->RelV y u->r x y H Q ->
   subscripted slice false v u=operate [v,u] (getItem v u)->wpAny (model X.prog X.w) X.A (subscriptTail value slice v u) (EP X pins σ Q) X.xe s
def MtR(X:Cx)(id:String)(r:V->#[a]->Hp->VK->Prop):Prop :=
 ∀ (pins:#[x]) (s:Shared) (σ:St) (H:Hp) (x:V) (xs:#[a]) (v:Value) (us:#[U]) (Q:VK),#[h]->RelV x v->Vals xs us->r x xs H Q ->
   wpAny (model X.prog X.w) X.A (call (.builtin id) (v :: us)) (EP X pins σ Q) X.xe s
section
variable{X:Cx}{a b:Expr}{ta tb:TE}{pos:Pos}
theorem zl3(hr:IxR X r)(ha:PE X a ta)(hb:PE X b tb)(hs:zcw b):PE X (.Subscript a b pos) (tOp r ta tb):=by
 intro pins s σ H Q I h;exact Subscript_ (binT ha hb I h fun v u s2 x y H2 I2 rx ry q=>hr a b pins s2 σ H2 x y v u Q I2 rx ry q (hs _ _))
inductive Cc(K:Frag)(x:V)(y:V)(H:Hp)(Q:VK):Prop where
 | mk(p)(xs)(i)(v)(_:x=.ref p)(_:y=.int i)(_:SqL K H p xs)(_:atI xs i=some v)(_:Q v H)
inductive Je(K:Frag)(x:V)(y:V)(H:Hp)(Q:VK):Prop where
 | mk(p)(xs)(i)(v)(_:x=.ref p)(_:y=.int i)(_:SqT K H p xs)(_:atI xs i=some v)(_:Q v H)
theorem zii:IxR X (Cc X.K):=by
 intro value slice pins s σ H x y v u Q I rx ry h hs;obtain⟨p,xs,i,z,rfl,rfl,hq,he,q⟩:=h;cases rx;obtain⟨t,rfl⟩:=ry;obtain⟨its,r,pl,hz⟩:=I.list hq;obtain⟨j,h1,h2,h3,h4,h5⟩:=zcv he;obtain⟨w,ew,rw'⟩:=r.get h2;have hl:=r.length;have hn:=O5;have fin:EP X pins σ Q w s:=⟨z,H,I,rw',q⟩;by_cases h0:0<=i
 ·have hj:i.toNat=j:=by
   rw[seqIndex_of h0 h5] at h1;exact #[aj,h1]
  exact item_listR pl.isList h0 ⋯ (by rw[hj];simpa using ew) fin hs
 ·have hj:(i+(its.toArray.size:Int)).toNat=j:=by
   rw[seqIndex_neg ⋯ h4] at h1;rw[zw5,<- hl];exact #[aj,h1]
  exact subscriptTail_builtinR (x:=w) pl.isList.typeIs slot_list_getitem.lookup
   (wpAny_getItem_list_neg (Q:=fun r s'=>r=w/\EP X pins σ Q r s') pl.isList ⋯ (by rw[zw5]<;>omega) ⋯ (by rw[hj];simpa using ew) ⟨rfl,fin⟩) hs
theorem zkc:IxR X (Je X.K):=by
 intro value slice pins s σ H x y v u Q I rx ry h hs;obtain⟨p,xs,i,z,rfl,rfl,hq,he,q⟩:=h;cases rx;obtain⟨t,rfl⟩:=ry;obtain⟨its,r,pl,hz⟩:=I.tuple hq;obtain⟨j,h1,h2,h3,h4,h5⟩:=zcv he;obtain⟨w,ew,rw'⟩:=r.get h2;have hl:=r.length;have hn:=O5;have fin:EP X pins σ Q w s:=⟨z,H,I,rw',q⟩;exact subscriptTail_builtinR (x:=w) pl.typeIs slot_tuple_getitem.lookup
  (getItem_tuple (j:=j) (Q:=fun r s'=>r=w/\EP X pins σ Q r s') pl ⋯ ⋯ (by rw[zw5,<- hl];exact h1) (by simpa using ew) ⟨rfl,fin⟩) hs
theorem zbh(its:#[U])(n j:Nat)(u:Value):Obj.mapSeq (·.setIfInBounds j u) { cls:=.type "list",data:=.seq its.toArray n }={ cls:=.type "list",data:=.seq (its.set j u).toArray n }:=by
 simp[Obj.mapSeq]
theorem Inv.lst(I:#[h])(h:#[y,H,p,xs]) :
  ∃ (its:#[U]) (n:Nat),Vals xs its/\#[O,p]=some { cls:=.type "list",data:=.seq its.toArray n }/\xs.length<=sizeLine:=by
 obtain⟨z,its,n,r,e⟩:=I.hok p _ h;exact⟨its,n,r,e,z⟩
theorem Inv.lstUpd{pins:#[x]}{σ:St}{H:Hp}{s:Shared}{p:Addr}{xs ys:#[a]}{its its':#[U]}{n n':Nat}{f:Obj->Obj}(I:#[h])(h:#[y,H,p,xs])
  (ho:s.heap.get? p=some { cls:=.type "list",data:=.seq its.toArray n }) (hf:f { cls:=.type "list",data:=.seq its.toArray n }={ cls:=.type "list",data:=.seq its'.toArray n' }) (r:Vals ys its') (hz:ys.length<=sizeLine) (t:Nat) :
  Inv X pins σ (upd H p (.lst ys)) { s with heap:=s.heap.update p f,toks:=t }:=by
 have e:(s.heap.update p f).get? p=some { cls:=.type "list",data:=.seq its'.toArray n' }:=by
  rw[Heap.get?_update_self f ho (by rw[hf]<;>rfl),hf]
 refine I.write (x:=p) (e:=p) (by rw[h];trivial) (.inl rfl) (fun b u hb q=>(Heap.get?_update_other _ _ (Ne.symm hb)).trans q) ⟨_,e⟩ ?_;exact⟨hz,its',n',r,e⟩
def zl4:V->V->V->Hp->(Hp->Prop)->Prop:=fun o i v H Q=>∃ p xs k j,o=.ref p/\i=.int k/\H p=#[w,xs]/\ixN xs.length k=some j/\Q (upd H p (.lst (xs.set j v)))
theorem zf7:zlj X zl4:=by
 intro pins s σ H o i v ov iv u Q I ro ri rv h;obtain⟨p,xs,k,j,rfl,rfl,hp,hj,q⟩:=h;cases ro;obtain⟨t,rfl⟩:=ri;obtain⟨its,n,r,ho,hz⟩:=I.lst hp;obtain⟨h1,h2,h3,h4⟩:=zcu hj;have hl:=r.length;have hn:=O5;have I':#[G,upd H p (.lst (xs.set j v)),{ s with heap:=s.heap.update p (Obj.mapSeq (·.setIfInBounds j u)) }] :=
  I.lstUpd hp ho (zbh its n j u) (r.set rv j) (by rw[zyg];exact hz) s.toks
 by_cases h0:0<=k
 ·have hk:k.toNat=j:=by
   rw[seqIndex_of h0 h4] at h1;exact #[aj,h1]
  exact PySem.W.ki_setAt ho h0 ⋯ (by rw[zw5,<- hl];exact h4) (by rw[hk];exact⟨_,I',q⟩)
 ·have hk:(k+(its.toArray.size:Int)).toNat=j:=by
   rw[seqIndex_neg ⋯ h3] at h1;rw[zw5,<- hl];exact #[aj,h1]
  exact PySem.W.ki_setBack ho ⋯ (by rw[zw5,<- hl];exact h3) ⋯ (by rw[hk];exact⟨_,I',q⟩)
theorem Cd(lo hi:#[F])(n:Nat):(sliceBounds lo hi none n).1=((HT.sIx n 0 lo:Nat):Int)/\(sliceBounds lo hi none n).2.1=((HT.sIx n n hi:Nat):Int)/\(sliceBounds lo hi none n).2.2=1:=by
 refine⟨?_,?_,rfl⟩
 ·cases lo with
  | none=>simp[sliceBounds,HT.sIx]
  | some i =>
    simp only[sliceBounds,HT.sIx,Option.getD_none,show (1:Int)>0 by decide,if_true];by_cases h:i<0
    ·simp only[h,if_true]<;>omega
    ·simp only[h,if_false]<;>omega
 ·cases hi with
  | none=>simp[sliceBounds,HT.sIx]
  | some i =>
    simp only[sliceBounds,HT.sIx,Option.getD_none,show (1:Int)>0 by decide,if_true];by_cases h:i<0
    ·simp only[h,if_true]<;>omega
    ·simp only[h,if_false]<;>omega
theorem Fp(its:#[U])(lo hi:#[F]):slicePick its.toArray lo hi none=((its.drop (HT.sIx its.length 0 lo)).take (HT.sIx its.length its.length hi-HT.sIx its.length 0 lo)).toArray:=by
 obtain⟨h1,h2,h3⟩:=Cd lo hi its.toArray.size;unfold slicePick;rw[h1,h2,h3];simp only[sliceRange_one,pick_run,zw5]<;>rfl
def zl5(K:Frag):V->#[F]->#[F]->Hp->VK->Prop:=fun x lo hi H Q=>∃ a xs,x=.ref a/\SqL K H a xs/\∀ p,H p=none->Q (.ref p) (upd H p (.lst (Fo xs lo hi)))
theorem zij:SlR X (zl5 X.K):=by
 intro pins s σ H x v vl vu lo hi sl Q I rx hs pl pu h;obtain⟨a,xs,rfl,hx,q⟩:=h;cases rx;obtain⟨its,r,ht,hz⟩:=I.list hx;have hlen:=r.length;refine⟨"list",_,slot_list_getitem.lookup,ht.isList.typeIs,?_⟩;refine wpAny_getItem_list_slice ht.isList hs pl pu .none (by simp) ?_ (by rw[zw5]<;>omega);rw[Fp,<- hlen];refine#[I,.ref s.heap.objs.size,_,I.laid (t':=s.toks) (o:=.lst (Fo xs lo hi)) (fun b ob q=>#[ah,_,q]) (zwz _) ?_,q _ (I.hok.fresh (zwz _))];exact⟨zw6 (B6 xs lo hi) hz,_,0,(r.drop (HT.sIx xs.length 0 lo)).take (HT.sIx xs.length xs.length hi-HT.sIx xs.length 0 lo),Heap.get?_push_size _ rfl⟩
def Rq:V->Bool
 | .non=>true
 | .bl _=>true
 | .int _=>true
 | .str _=>true
 | _=>false
def eqV:V->V->Bool
 | .non,.non=>true
 | .bl a,.bl b=>a == b
 | .bl a,.int b=>(if a then 1 else 0) == b
 | .int a,.bl b=>a == (if b then 1 else 0)
 | .int a,.int b=>a == b
 | .str a,.str b=>a == b
 | _,_=>false
theorem zkd(ry:RelV y u)(rx:RelV x v)(fy:Rq y=true)(fx:Rq x=true):SeqAt.EqAt A s u v (eqV y x):=by
 cases y with
 | non =>
   cases ry;cases x with
   | non=>cases rx;exact SeqAt.EqAt.same _
   | bl b=>cases rx;exact SeqAt.EqAt.none_bool b
   | int b=>obtain⟨t,rfl⟩:=rx;exact SeqAt.EqAt.none_int b t
   | str b=>obtain⟨t,rfl⟩:=rx;exact SeqAt.EqAt.none_str b t
   | _=>exact absurd (show false=true from fx) zw8
 | bl a =>
   cases ry;cases x with
   | non=>cases rx;exact SeqAt.EqAt.bool_none a
   | bl b=>cases rx;exact SeqAt.EqAt.bool_bool a b
   | int b=>obtain⟨t,rfl⟩:=rx;exact SeqAt.EqAt.bool_int a b t
   | str b=>obtain⟨t,rfl⟩:=rx;exact SeqAt.EqAt.bool_str a b t
   | _=>exact absurd (show false=true from fx) zw8
 | int a =>
   obtain⟨t',rfl⟩:=ry;cases x with
   | non=>cases rx;exact SeqAt.EqAt.int_none a t'
   | bl b=>cases rx;exact SeqAt.EqAt.int_bool a t' b
   | int b=>obtain⟨t,rfl⟩:=rx;exact SeqAt.EqAt.int_int a t' b t
   | str b=>obtain⟨t,rfl⟩:=rx;exact SeqAt.EqAt.int_str a t' b t
   | _=>exact absurd (show false=true from fx) zw8
 | str a =>
   obtain⟨t',rfl⟩:=ry;cases x with
   | non=>cases rx;exact SeqAt.EqAt.str_none a t'
   | bl b=>cases rx;exact SeqAt.EqAt.str_bool a t' b
   | int b=>obtain⟨t,rfl⟩:=rx;exact SeqAt.EqAt.str_int a t' b t
   | str b=>obtain⟨t,rfl⟩:=rx;exact SeqAt.EqAt.str_str a t' b t
   | _=>exact absurd (show false=true from fx) zw8
 | _=>exact absurd (show false=true from fy) zw8
def eqU(x:V)(u:Value):Bool:=match u with
 | .none=>eqV .non x
 | .bool b=>eqV (.bl b) x
 | .int i _=>eqV (.int i) x
 | .str z _=>eqV (.str z) x
 | _=>false
theorem zbi(r:RelV y u)(f:Rq y=true):eqU x u=eqV y x:=by
 cases y with
 | non=>cases r;rfl
 | bl b=>cases r;rfl
 | int i=>obtain⟨t,rfl⟩:=r;rfl
 | str z=>obtain⟨t,rfl⟩:=r;rfl
 | _=>exact absurd (show false=true from f) zw8
theorem Mc:∀ {xs:List V} {us:List Value},Vals xs us->xs.all Rq=true->us.any (eqU x)=xs.any fun y=>eqV y x
 | _,_,.nil,_=>rfl
 | y :: xs,u :: us,.cons r t,f=>by
   rw[List.all_cons,zx3] at f;rw[zys,zys,zbi r f.1,Mc t f.2]
theorem Rr(rx:RelV x v)(fx:Rq x=true):∀ {xs:List V} {us:List Value},Vals xs us->xs.all Rq=true->∀ u∈us,SeqAt.EqAt A s u v (eqU x u)
 | _,_,.nil,_=>fun u hu=>by cases hu
 | y :: xs,u :: us,.cons r t,f=>fun u' hu=>by
   rw[List.all_cons,zx3] at f;rcases zwu.mp hu with rfl|hu
   ·rw[zbi r f.1];exact zkd r rx f.1 fx
   ·exact Rr rx fx t f.2 u' hu
def inV(x:V)(xs:#[a]):Bool:=xs.any fun y=>eqV y x
inductive rIn(K:Frag)(neg:Bool)(x:V)(y:V)(H:Hp)(Q:VK):Prop where
 | mk(p)(xs)(_:y=.ref p)(_:(SqL K H p xs\/SqT K H p xs))(_:Rq x=true)(_:xs.all Rq=true)(_:Q (.bl (if neg then !inV x xs else inV x xs)) H)
theorem zd5:OpR X (compareOp .In) (rIn X.K false):=by
 intro pins s σ H x y v u Q I rx ry h;obtain⟨p,xs,rfl,hq,fx,fs,q⟩:=h;cases ry;rcases hq with hq|hq
 ·obtain⟨its,r,pl,hz⟩:=I.list hq;refine SeqAt.in_listAt (eqU x) pl.isList (fun w hw=>Rr rx fx r fs w (by simpa using hw)) #[I,.bl _,H,I,?_];rw[show its.toArray.any (eqU x)=its.any (eqU x) by simp,Mc r fs];exact q
 ·obtain⟨its,r,pl,hz⟩:=I.tuple hq;refine SeqAt.in_tupleAt (eqU x) pl (fun w hw=>Rr rx fx r fs w (by simpa using hw)) #[I,.bl _,H,I,?_];rw[show its.toArray.any (eqU x)=its.any (eqU x) by simp,Mc r fs];exact q
theorem Ce:OpR X (compareOp .NotIn) (rIn X.K true):=by
 intro pins s σ H x y v u Q I rx ry h;obtain⟨p,xs,rfl,hq,fx,fs,q⟩:=h;cases ry;rcases hq with hq|hq
 ·obtain⟨its,r,pl,hz⟩:=I.list hq;refine SeqAt.notIn_listAt (eqU x) pl.isList (fun w hw=>Rr rx fx r fs w (by simpa using hw)) #[I,.bl _,H,I,?_];rw[show its.toArray.any (eqU x)=its.any (eqU x) by simp,Mc r fs];exact q
 ·obtain⟨its,r,pl,hz⟩:=I.tuple hq;refine SeqAt.notIn_tupleAt (eqU x) pl (fun w hw=>Rr rx fx r fs w (by simpa using hw)) #[I,.bl _,H,I,?_];rw[show its.toArray.any (eqU x)=its.any (eqU x) by simp,Mc r fs];exact q
theorem Cf:W8 X (.builtin "len") (fun xs H Q=>∃ p ys,xs=[.ref p]/\(SqL X.K H p ys\/SqT X.K H p ys)/\Q (.int ys.length) H):=by
 intro pins s σ H xs us Q I r h;obtain⟨p,ys,rfl,hq,q⟩:=h;obtain⟨u,rfl,rx⟩:=Rm r;cases rx;have hn:=O5;rcases hq with hq|hq
 ·obtain⟨its,r',pl,hz⟩:=I.list hq;have hlen:=r'.length;exact Calls.call_len_list pl.isList (by simp only[zw5]<;>omega) ⟨.int ys.length,H,I.tok _,⟨s.toks+1,by rw[zw5,hlen]⟩,q⟩
 ·obtain⟨its,r',pl,hz⟩:=I.tuple hq;have hlen:=r'.length;exact len_tuple pl (by simp only[zw5]<;>omega) ⟨.int ys.length,H,I.tok _,⟨s.toks+1,by rw[zw5,hlen]⟩,q⟩
theorem Cg:W8 X (.type "list") (fun xs H Q=>∃ p ys,xs=[.ref p]/\(SqL X.K H p ys\/SqT X.K H p ys)/\∀ l,H l=none->Q (.ref l) (upd H l (.lst ys))):=by
 intro pins s σ H xs us Q I r h;obtain⟨p,ys,rfl,hq,q⟩:=h;obtain⟨u,rfl,rx⟩:=Rm r;cases rx;have fin:∀ (its:#[U]),Vals ys its->ys.length<=sizeLine->∀ (h':Heap) (c':Nat),(∀ b o',#[O,b]=some o'->h'.get? b=some o') ->
   h'.get? s.heap.objs.size=some { cls:=.type "list",dict:=none,data:=.seq its.toArray c',slots:=#[] }->EP X pins σ Q (.ref s.heap.objs.size) { s with heap:=h' }:=fun its r' hz h' c' kp e =>
  ⟨.ref s.heap.objs.size,_,I.laid (t':=s.toks) kp (zwz _) (show Y0 X.prog X.w _ h' _ (.lst ys) from⟨hz,its,c',r',e⟩),rfl,q _ (I.hok.fresh (zwz _))⟩
 rcases hq with hq|hq
 ·obtain⟨its,r',pl,hz⟩:=I.list hq;have hlen:=r'.length;obtain⟨o,ho,hc,n,hd⟩:=pl.isList;exact call_list_seq p (.inl rfl) ho hc hd (fun h' c' kp e=>fin its r' hz h' c' kp e) (by simp only[zw5]<;>omega)
 ·obtain⟨its,r',pl,hz⟩:=I.tuple hq;have hlen:=r'.length;obtain⟨o,ho,hc,n,hd⟩:=pl;exact call_list_seq p (.inr rfl) ho hc hd (fun h' c' kp e=>fin its r' hz h' c' kp e) (by simp only[zw5]<;>omega)
theorem Fq:W8 X (.type "tuple") (fun xs H Q=>∃ p ys,xs=[.ref p]/\((SqL X.K H p ys/\∀ l,H l=none->Q (.ref l) (upd H l (.tup ys)))\/(SqT X.K H p ys/\Q (.ref p) H))):=by
 intro pins s σ H xs us Q I r h;obtain⟨p,ys,rfl,h⟩:=h;obtain⟨u,rfl,rx⟩:=Rm r;cases rx;rcases h with ⟨hq,q⟩|⟨hq,q⟩
 ·obtain⟨its,r',pl,hz⟩:=I.list hq;have hlen:=r'.length;refine call_tuple_list pl.isList (fun h' kp=>?_) (by simp only[zw5]<;>omega);have I1:#[G,H,{ s with heap:=h' }]:=I.kept (t':=s.toks) kp;have I2:#[G,upd H h'.objs.size (.tup ys),{ s with heap:=h'.push { cls:=.type "tuple",data:=.seq its.toArray } }] :=
   I1.laid (t':=s.toks) (fun b o e=>#[ah,_,e]) (zwz _) (show Y0 X.prog X.w _ _ _ (.tup ys) from⟨hz,its,r',IsTup.new _ _⟩)
  exact#[I,.ref h'.objs.size,_,I2,q _ (I1.hok.fresh (zwz _))]
 ·obtain⟨its,r',pl,hz⟩:=I.tuple hq;exact call_tuple_same pl #[I,.ref p,H,I,q]
def tyV(K:Frag)(T:String)(x:V)(H:Hp):Prop:=match x with
 | .str _=>T="str"
 | .int _=>T="int"
 | .ref p=>(T="list"/\∃ xs,SqL K H p xs)\/(T="tuple"/\∃ o,K.lookup p=#[d]/\o.cls=.type "tuple"/\o.dict=none) \/
   (T="dict"/\((∃ kvs,H p=#[c,.dK,kvs])\/∃ kvs,H p=#[c,.dT,kvs]))\/(T="set"/\∃ S n,H p=some (.set S n))
 | _=>False
theorem zbj(I:#[h])(r:RelV x v)(ty:tyV X.K T x H) :
  s.TypeIs v T/\∀ a,v=.ref a->∃ ob,#[O,a]=some ob/\ob.dict=none:=by
 cases x with
 | str z =>
   obtain⟨t,rfl⟩:=r;cases (show T="str" from ty);exact⟨typeIs_str s z t,fun _ e=>nomatch e⟩
 | int i =>
   obtain⟨t,rfl⟩:=r;cases (show T="int" from ty);exact⟨typeIs_int s i t,fun _ e=>nomatch e⟩
 | ref p =>
   cases r;rcases ty with ⟨rfl,xs,hq⟩|⟨rfl,o,hk,hc,hd⟩|⟨rfl,hk⟩|⟨rfl,S,n,hk⟩
   ·obtain⟨its,_,pl,_⟩:=I.list hq;refine⟨pl.isList.typeIs,fun a e=>?_⟩;cases e;obtain⟨o,n,e,c,hd,_⟩:=pl;exact⟨o,e,hd⟩
   ·refine⟨⟨o,I.kIn p o hk,hc⟩,fun a e=>?_⟩;cases e;exact⟨o,I.kIn _ o hk,hd⟩
   ·have z:∃ o,#[O,p]=#[d]/\o.ExactDict:=by
     rcases hk with ⟨kvs,hk⟩|⟨kvs,hk⟩
     ·obtain⟨_,_,_,_,o,_,_,e,ex,_⟩:=I.hok p _ hk;exact⟨o,e,ex⟩
     ·obtain⟨_,_,_,_,o,_,_,e,ex,_⟩:=I.hok p _ hk;exact⟨o,e,ex⟩
    obtain⟨o,e,ex⟩:=z;refine⟨⟨o,e,ex.1⟩,fun a e2=>?_⟩;cases e2;exact⟨o,e,ex.2.1⟩
   ·obtain⟨o,_,_,_,e,ex,_⟩:=I.hok p _ hk;refine⟨⟨o,e,ex.1⟩,fun a e2=>?_⟩;cases e2;exact⟨o,e,ex.2.1⟩
 | _=>exact False.elim ty
inductive zl6(K:Frag)(T:String)(r:V->#[a]->Hp->VK->Prop)(Q:VK)(x:V)(H1:Hp):Prop where
 | mk(_:tyV K T x H1)(_:r x [] H1 Q)
def zm0(K:Frag)(T:String)(r:V->#[a]->Hp->VK->Prop)(to:TE):TE:=fun σ H Q=>to σ H fun x H1=>zl6 K T r Q x H1
inductive zm1(K:Frag)(T:String)(r:V->#[a]->Hp->VK->Prop)(t:TA)(σ:L2.St)(Q:VK)(x:V)(H1:Hp):Prop where
 | mk(_:tyV K T x H1)(_:t σ H1 fun xs H2=>r x xs H2 Q)
def tBM(K:Frag)(T:String)(r:V->#[a]->Hp->VK->Prop)(to:TE)(t:TA):TE:=fun σ H Q=>to σ H fun x H1=>zm1 K T r t σ Q x H1
variable{o e:Expr}{es:List Expr}{to:TE}{t:TA}{name:Str}{apos cpos:Pos}{T id:String}{r:V->#[a]->Hp->VK->Prop}
theorem zf8(pa:PlainAttrs T)(slot:Slot T name id)(hty:typeOf (.builtin id)=pure (.type "method_descriptor"))(hm:MtR X id r)(ho:PE X o to)
  (hbase:attributeBase o name X.env #[D,o]=eval o X.env:=by rfl) (hline:(apos.endLine == cpos.line)=true:=by rfl):PE X (.Call (.Attribute o name apos) [] [] cpos) (zm0 X.K T r to):=by
 intro pins s σ H Q I h;refine wpAny_Call_method0_late hbase hline (thn (ho pins s σ H _ I h) fun v s1 ⟨x,H1,I1,r1,ty,q1⟩=>?_);obtain⟨h1,h2⟩:=zbj I1 r1 ty;exact⟨T,id,pa,slot,hty,h1,h2,Calls.callWith_builtin rfl (PySem.evalArgs_none (hm pins s1 σ H1 x [] v [] Q I1 r1 .nil q1))⟩
theorem zf9(pa:PlainAttrs T)(slot:Slot T name id)(hty:typeOf (.builtin id)=pure (.type "method_descriptor"))(hm:MtR X id r)(ho:PE X o to)(ha:PA X (e :: es) t)
  (hbase:attributeBase o name X.env #[D,o]=eval o X.env:=by rfl)
  (hfew:((backTo cpos (starEach (e :: es) X.env)).all (fun x=>!x.1)&&(backToKw cpos (keywordEach [] X.env)).all (fun x=>x.1.isSome)
   && decide ((e :: es).length+([]:List Keyword).length+(if ([]:List Keyword).isEmpty then 0 else 1)<30))=true:=by rfl)
  (hline:(apos.endLine == cpos.line)=true:=by rfl) (hs:starEach (e :: es) X.env=(false,#[D,e]) :: starEach es X.env:=by rfl) (hplain:(backTo cpos (starEach es X.env)).any (·.1)=false:=by rfl) :
  PE X (.Call (.Attribute o name apos) (e :: es) [] cpos) (tBM X.K T r to t):=by
 intro pins s σ H Q I h;refine wpAny_Call_method_late hbase hfew hline rfl (thn (ho pins s σ H _ I h) fun v s1 ⟨x,H1,I1,r1,ty,q1⟩=>?_);obtain⟨h1,h2⟩:=zbj I1 r1 ty;refine⟨T,id,pa,slot,hty,h1,h2,?_⟩;have hA:=ha cpos pins s1 σ H1 _ I1 q1;rw[hs] at hA ⊢;refine Calls.callWith_builtin (by show (false||(backTo cpos (starEach es X.env)).any (·.1))=false;rw[hplain]<;>rfl) (Calls.evalArgs_plain ?_);exact thn hA fun us s2 ⟨vs,H2,I2,r2,q2⟩=>hm pins s2 σ H2 x vs v us Q I2 r1 r2 q2
end
def MtM(X:Cx)(id:String)(r:V->#[a]->Hp->VK->Prop):Prop :=
 ∀ (pins:#[x]) (s:Shared) (σ:St) (H:Hp) (x:V) (xs:#[a]) (v:Value) (us:#[U]) (Q:VK),#[h]->RelV x v->Vals xs us->r x xs H Q ->
   wpAny (model X.prog X.w) X.A (call (.builtin id) (v :: us)) (EP X pins σ Q) X.xe s
theorem Vals.one:∀ {x:V} {us:List Value},Vals [x] us->∃ u,us=[u]/\RelV x u
 | _,_,.cons r .nil=>#[t,_,r]
theorem Vals.zero:∀ {us:List Value},Vals [] us->us=[]
 | _,.nil=>rfl
theorem Vals.dropLast(h:Vals xs us):Vals xs.dropLast us.dropLast:=by
 induction h with
 | nil=>exact .nil
 | cons r t ih =>
   cases t with
   | nil=>exact .nil
   | cons q t'=>exact .cons r ih
theorem Vals.reverse(h:Vals xs us):Vals xs.reverse us.reverse:=by
 induction h with
 | nil=>exact .nil
 | cons r t ih=>rw[zyt,zyt];exact Vals.append ih (.cons r .nil)
theorem Vals.rep(h:Vals xs us):∀ k:Nat,Vals (List.replicate k xs).flatten (List.replicate k us).flatten
 | 0=>.nil
 | k+1=>by
   rw[zyl,zyl,List.flatten_cons,List.flatten_cons];exact Vals.append h (Vals.rep h k)
theorem zbk(l:List α):l.eraseIdx (l.length-1)=l.dropLast:=by
 induction l with
 | nil=>rfl
 | cons a r ih =>
   cases r with
   | nil=>rfl
   | cons b r =>
     have e:(a :: b :: r).length-1=((b :: r).length-1)+1:=by
      have h1:(a :: b :: r).length=r.length+2:=rfl;have h2:(b :: r).length=r.length+1:=rfl;omega
     rw[e,List.eraseIdx_cons_succ,ih]
     all_goals rfl
theorem De(its:#[U]):∀ (k:Nat) (acc:#[U]),
  List.foldl (fun x1 x2=>x1++x2) acc.toArray (List.replicate k its.toArray)=(acc++(List.replicate k its).flatten).toArray
 | 0,acc=>by simp
 | k+1,acc=>by
   have e:acc.toArray++its.toArray=(acc++its).toArray:=by simp
   have e2:(acc++its)++(List.replicate k its).flatten=acc++(List.replicate (k+1) its).flatten:=by
    rw[zyl,List.flatten_cons,zyf]
   rw[<- e2,<- De its k (acc++its),<- e,zyl,List.foldl_cons]
section
variable{X:Cx}{pins:#[x]}{σ:St}{H:Hp}{s:Shared}{l b:Addr}{xs ys zs:#[a]}
theorem Inv.lset{its its':#[U]}{n:Nat}{f:Array Value->Array Value}{t':Nat}(I:#[h])(hH:#[y,H,l,xs])
  (e:s.heap.get? l=some { cls:=.type "list",data:=.seq its.toArray n }) (hf:f its.toArray=its'.toArray) (hv:Vals ys its') (hz:ys.length<=sizeLine) :
  Inv X pins σ (upd H l (.lst ys)) { s with heap:=s.heap.update l (Obj.mapSeq f),toks:=t' }:=by
 have q:=PySem.IsL.update e f;rw[hf] at q;refine I.write (x:=l) (e:=l) (by rw[hH];exact trivial) (.inl rfl) (fun b' u hb hu=>(Heap.get?_update_other s.heap (Obj.mapSeq f) (Ne.symm hb)).trans hu) ⟨_,q⟩ ?_;exact⟨hz,its',_,hv,q⟩
theorem Inv.lnew(I:#[h])(hv:Vals ys its)(hz:ys.length<=sizeLine) :
  Inv X pins σ (upd H s.heap.objs.size (.lst ys)) { s with heap:=s.heap.push { cls:=.type "list",data:=.seq its.toArray },toks:=t' } :=
 I.laid (fun _ _ q=>#[ah,_,q]) (zwz _) ⟨hz,its,0,hv,Heap.get?_push_size _ rfl⟩
theorem Inv.fresh(I:#[h]):H s.heap.objs.size=none:=I.hok.fresh (zwz _)
theorem Inv.lstM(I:#[h])(hH:#[y,H,l,xs]):xs.length<=sizeLine/\∃ (its:List Value) (n:Nat),Vals xs its/\xs.length=its.length/\#[O,l]=some { cls:=.type "list",data:=.seq its.toArray n }:=by
 obtain⟨z,its,n,r,e⟩:=I.hok l _ hH;exact⟨z,its,n,r,r.length,e⟩
theorem zga(h:n<=sizeLine):Builtin.List.listTooLong n=false:=by
 unfold Builtin.List.listTooLong;exact zw1 ⋯
end
section
variable{X:Cx}
inductive zik(x:V)(vs:#[a])(H:Hp)(Q:VK):Prop where
 | mk(l)(xs)(y)(_:x=.ref l)(_:vs=[y])(_:#[y,H,l,xs])(_:xs.length<sizeLine)(_:Q .non (upd H l (.lst (xs++[y]))))
theorem zd6:MtM X "list.append" zik:=by
 intro pins s σ H x vs v us Q I rx rv h;obtain⟨l,xs,y,rfl,rfl,hH,hz,q⟩:=h;cases rx;obtain⟨u,rfl,ru⟩:=rv.one;obtain⟨z,its,n,r,hl,e⟩:=I.lstM hH;refine call_meets F.slot_list_append ⟨_,e,rfl⟩ F.entry_list_append (F.args_list_append_2 _ _) (PySem.list_append l its.toArray n u (by rw[zw5];omega)) ⟨e,?_⟩;refine#[I,.non,_,I.lset (its':=its++[u]) hH e (by simp) (r.append (.cons ru .nil)) ?_,q];rw[zwt,List.length_singleton];omega
inductive zm2(x:V)(vs:#[a])(H:Hp)(Q:VK):Prop where
 | mk(l)(xs)(y)(_:x=.ref l)(_:vs=[])(_:#[y,H,l,xs])(_:xs[xs.length-1]?=some y)(_:Q y (upd H l (.lst xs.dropLast)))
theorem zke:MtM X "list.pop" zm2:=by
 intro pins s σ H x vs v us Q I rx rv h;obtain⟨l,xs,y,rfl,rfl,hH,hy,q⟩:=h;cases rx;have hus:=rv.zero;subst hus;obtain⟨z,its,n,r,hl,e⟩:=I.lstM hH;obtain⟨u,hu,ru⟩:=r.get hy;have hy':its.toArray[its.toArray.size-1]?=some u:=by
  show its.toArray[its.length-1]?=some u;rw[<- Array.getElem?_toList,<- hl];exact hu
 refine call_meets F.slot_list_pop ⟨_,e,rfl⟩ F.entry_list_pop (F.args_list_pop_1 _) (MeetsSeq.list_pop_last l its.toArray n u hy' (by rw[zw5];omega)) ⟨e,?_⟩;refine⟨y,_,I.lset (its':=its.dropLast) hH e ?_ r.dropLast ?_,ru,q⟩
 ·show its.toArray.eraseIdxIfInBounds (its.toArray.size-1)=its.dropLast.toArray;rw[zw5,List.eraseIdxIfInBounds_toArray,zbk]
 ·rw[List.length_dropLast];omega
inductive zgb(x:V)(vs:#[a])(H:Hp)(Q:VK):Prop where
 | mk(l)(xs)(_:x=.ref l)(_:vs=[])(_:#[y,H,l,xs])(_:Q .non (upd H l (.lst xs.reverse)))
theorem zbl:MtM X "list.reverse" zgb:=by
 intro pins s σ H x vs v us Q I rx rv h;obtain⟨l,xs,rfl,rfl,hH,q⟩:=h;cases rx;have hus:=rv.zero;subst hus;obtain⟨z,its,n,r,hl,e⟩:=I.lstM hH;refine call_meets F.slot_list_reverse ⟨_,e,rfl⟩ F.entry_list_reverse (F.args_list_reverse_1 _) (AutoSeq1.list_reverse_list_0 l its.toArray n (by rw[zw5];omega)) ⟨e,?_⟩;refine#[I,.non,_,I.lset (its':=its.reverse) hH e (by simp) r.reverse ?_,q];rw[List.length_reverse];omega
inductive zkf(x:V)(y:V)(H:Hp)(Q:VK):Prop where
 | mk(l)(b)(xs)(zs)(_:x=.ref l)(_:y=.ref b)(_:#[y,H,l,xs])(_:#[y,H,b,zs])(_:xs.length+zs.length<=sizeLine)(_:∀ p,H p=none->Q (.ref p) (upd H p (.lst (xs++zs))))
theorem W2:OpR X (binaryOp .Add) zkf:=by
 intro pins s σ H x y v u Q I rx ry h;obtain⟨l,b,xs,zs,rfl,rfl,hH,hB,hz,q⟩:=h;cases rx;cases ry;obtain⟨z,its,n,r,hl,e⟩:=I.lstM hH;obtain⟨z2,its2,n2,r2,hl2,e2⟩:=I.lstM hB;refine PySem.P.add_list e e2 ?_ (by rw[zw5,zw5];omega);have ea:its.toArray++its2.toArray=(its++its2).toArray:=by simp
 rw[ea];exact#[I,.ref _,_,I.lnew (t':=s.toks) (r.append r2) (by rw[zwt];omega),q _ I.fresh]
inductive zm3(x:V)(y:V)(H:Hp)(Q:VK):Prop where
 | mk(l)(k)(xs)(_:x=.ref l)(_:y=.int k)(_:#[y,H,l,xs])(_:-(2 ^ 63)<=k)(_:k<2 ^ 63)(_:xs.length*k.toNat<=sizeLine)(_:∀ p,H p=none->Q (.ref p) (upd H p (.lst (List.replicate k.toNat xs).flatten)))
theorem zil(xs:List α)(k:Nat):(List.replicate k xs).flatten.length=k*xs.length:=by
 induction k with
 | zero=>simp
 | succ k ih=>rw[zyl,List.flatten_cons,zwt,ih,Nat.succ_mul,Nat.add_comm]
theorem zkg:OpR X (binaryOp .Mult) zm3:=by
 intro pins s σ H x y v u Q I rx ry h;obtain⟨l,k,xs,rfl,rfl,hH,h1,h2,hz,q⟩:=h;cases rx;obtain⟨t,rfl⟩:=ry;obtain⟨z,its,n,r,hl,e⟩:=I.lstM hH;have hlen:its.toArray.size*k.toNat<=sizeLine:=by rw[zw5,<- hl];exact hz
 have hcap:¬ its.toArray.size*k.toNat>(2 ^ 63-1)/8:=by
  have:(sizeLine:Nat)<=(2 ^ 63-1)/8:=by decide
  omega
 have hfit:¬ (!Builtin.List.listFitsIndex k)=true:=by
  rw[fitsIndex_both h1 h2];exact zw8
 have hlong:¬ Builtin.List.listTooLong (its.toArray.size*k.toNat)=true:=by
  rw[zga hlen];exact zw8
 have hnew:List.foldl (fun x1 x2=>x1++x2) #[] (List.replicate (if its.toArray.isEmpty=true then 0 else k.toNat) its.toArray)=(List.replicate k.toNat its).flatten.toArray:=by
  have f0:∀ m:Nat,List.foldl (fun x1 x2=>x1++x2) #[] (List.replicate m its.toArray)=(List.replicate m its).flatten.toArray:=fun m=>by
   have:=De its m [];rw[List.nil_append] at this;exact this
  rw[f0];cases its with
  | nil=>simp
  | cons a r'=>rw[#[g,(by simp)]]
 refine wpAny_binaryOp_repeat_ref (T:="list") (U:="int") ⋯ ⟨_,e,rfl⟩ (fun s'=>typeIs_int s' k t) noFill_list_mul F.fills_int_mul F.slot_int_rmul repeat_list F.slot_int_index.lookup
  (call_meets F.slot_int_rmul (typeIs_int s k t) F.entry_int_rmul (F.args_int_rmul_2 _ _) (int___rmul___int_list k t l its.toArray n)
   ⟨e,rfl,⟨_,e,rfl⟩,call_meets F.slot_list_mul ⟨_,e,rfl⟩ F.entry_list_mul (F.args_list_mul_2 _ _) (AutoListH.list___mul___list_int_3 l its.toArray n k t hfit hcap hlong) ⟨e,?_⟩⟩)
 rw[hnew];exact#[I,.ref _,_,I.lnew (t':=s.toks) (r.rep k.toNat) (by rw[zil,Nat.mul_comm];exact hz),q _ I.fresh]
end
end L2
namespace Att
open PySem PySem.W PySem.Calls PyProof.Rows
theorem Jf:∀ (ns:List Int) (vs:List Value),WellAll P h vs (ns.map WData.int)->IntsAre vs ns:=by
 intro ns
 induction ns with
 | nil =>
   intro vs w;rw[List.map_nil] at w;cases w;exact .nil
 | cons n ns ih =>
   intro vs w;rw[zw3] at w;cases w with
   | cons a b =>
     cases a;exact .cons _ _ (ih _ b)
theorem zd7{l:OpenLaw}{n:Nat}(hn:l.most=some n){P:Params}{h:Heap}{args:List WData}{vals:#[U]}
  (hpre:l.row.toRowW.claim.pre args=true) (hwl:WellAll P h vals args) :
  ∃ a vs ns,vals=[Value.ref a]/\args=[WData.list (ns.map WData.int)]/\h.get? a=some { cls:=.type "list",data:=.seq vs.toArray }/\IntsAre vs ns/\ns.length<=n:=by
 have hsh:WShape.hasAll [] args [.list .int]=true:=(pre_splitW hpre).1;have hc:l.pre.holds [] { args:=args }=true:=(pre_splitW hpre).2;obtain⟨d,r,rfl,h1,h2⟩:=hasAllW_cons hsh;obtain rfl:=hasAllW_nil h2;obtain⟨xs,rfl,h3⟩:=hasW_list h1;obtain⟨ns,rfl⟩:=items_int h3;have hlen:ns.length<=n:=by
  unfold OpenLaw.pre at hc;have h4:(WTm.not (.lt (.lit (.int (n:Int))) (.len (.arg 0)))).holds [] { args:=[.list (ns.map .int)] }=true:=by
   have h4:=(holds_andW hc).1;rw[hn] at h4;exact h4
  have h5:=condW_of h4 (w_not (w_lt w_lit (w_len_list (w_arg rfl))));rw[zwq] at h5;refine Nat.le_of_not_lt fun q=>?_;have q':(n:Int)<((ns.length:Nat):Int):=by omega
  first
   | (rw[zwy q'] at h5;exact absurd h5 ⋯)
   | (simp at h5;omega)
 cases hwl with
 | cons w1 w2 =>
   cases w2;cases w1 with
   | list ho hall=>exact⟨_,_,ns,rfl,rfl,ho,Jf ns _ hall,hlen⟩
theorem zd8(l:OpenLaw)(args:List WData):l.row.toRowW.claim.post args (.bool true) args=true :=
 postW_of (r:=l.row.toRowW) (X:=(true == true))
  (show WShape.has [] (.bool true) .bool=true by first|rfl|decide|simp[WShape.has,WShape.arms,WShape.armsAll])
  (show (WTm.eq .res (.lit (.bool true))).value [] { args:=args,res:=#[c,.bool,true],after:=args }=#[c,.bool,true == true] from w_eq_bool (w_res rfl) w_lit) rfl
theorem attach_call{l:OpenLaw}{n:Nat}{q:Program}{loose:#[B]}{XP:#[V]->Heap->Prop}{YP:World->Heap->Prop}{d:DefRec}
  (hn:l.most=some n) (hdf:d.params.defaults=[])
  (call:∀ (w:World) (s₀ s₁:Shared) (mg mb:#[V]) (fa:Addr) (o:Obj) (pm cd doc:Value) (a:Addr) (vs:#[U]) (ns:#[p]),
   Ground q loose [] XP w s₀ mg mb s₁.heap->YP w s₁.heap ->
   s₁.heap.get? fa=some o->o.data=.func (docDef d.name d.params d.body d.scope pm cd doc)->s₁.heap.CodeRec cd d.name->mg d.name=some (.ref fa) ->
   s₁.heap.get? a=some { cls:=.type "list",data:=.seq vs.toArray }->IntsAre vs ns->ns.length<=n->s₁.gens=#[] ->
   codeAny (model l.prog w) callerA (.call (.ref fa) ⟨[.ref a],[]⟩) (fun r s'=>r=.ok (.ret (.bool true))/\OldK s₁.heap s'.heap/\s'.os=s₁.os/\AllBare s'.gens) s₁) :
  WalkO q loose XP YP l.row.toRowW d [] (fun f vs=>PySem.call f vs):=by
 intro w s₀ s₁ mg mb G Y fa o pm cd doc dV kV ho hd hcd hD hmg hg args vals as hpre hlay hrd hwl hlo;obtain rfl:dV=.none:=Dflts.none hD hdf;obtain rfl:kV=.none:=Dflts.noKw hD;obtain⟨a,vs,ns,rfl,rfl,hobj,hints,hlen⟩:=zd7 hn hpre hwl;refine enter_call (codeAny_mono (call w s₀ s₁ mg mb fa o pm cd doc a vs ns G Y ho (fd_plain hd) hcd hmg hobj hints hlen hg) fun r s' hq=>?_);obtain⟨rfl,h2,h3,h4⟩:=hq;exact⟨.inl ⟨.bool true,.bool true,[],rfl,fun _=>rfl,.bool true,zd8 l _,fun _=>⟨List.Pairwise.nil,fun _ hm=>(nomatch hm)⟩⟩,h2,h3,h4⟩
section
variable{prog:Program}{w:World}{A:Around}{E:Value->Shared->Prop}{s:Shared}{K:Frag}
def noObjs(h:Heap):Heap:={ h with objs:=#[] }
theorem noObjs_get(h:Heap)(b:Addr):(noObjs h).get? b=none:=by
 cases e:(noObjs h).get? b with
 | none=>rfl
 | some o=>exact absurd (Heap.lt_size e) (zy2 _)
end
end Att
namespace L2
open PySem PySem.Spec PyProof.Rows
theorem Lj:∀ {vs:List Value} {ns:List Int},IntsAre vs ns->Vals (ns.map V.int) vs
 | _,_,.nil=>.nil
 | _,_,.cons n t h=>.cons #[C,t] (Lj h)
def zkh(H:Hp):Prop:=∀ b,H b=none\/∃ o xs,H b=some (.frz o (.lst xs))
theorem zgc{P:Program}{w:World}{K:Frag}{mg mb:#[V]}{CX:CXT}{k:Nat}{fa a:Addr}{fd:FuncData}{x:Str}{sp:Sp}{s₁:Shared}{vs:#[U]}{ns:#[p]}
  (KX:K.In s₁.heap) (hns:s₁.heap.Ns mainGlobals mg) (hb:s₁.heap.Ns builtinsNs mb) (hbb:∀ x:Str,x≠"__name__"->mb x=bootBuiltins x) (hlim:s₁.heap.NoLimit) (hg:s₁.gens=#[])
  (ha:s₁.heap.get? a=some { cls:=.type "list",data:=.seq vs.toArray }) (hi:IntsAre vs ns) (hl:ns.length<=sizeLine) (hr:W9 k callerA)
  (F:∀ base:Heap,K.In base->base.Ns mainGlobals mg->FnOk P w K mg base CX k fa fd [x] sp) (hbind:∀ (s:Shared) (u:Value),BindsTo s fd ⟨[u],[]⟩ [(x,u)])
  (hsp:∀ H:Hp,zkh H->SqL K H a (ns.map V.int)->sp [.ref a] H (fun v _=>v=.bl true) fun _ _ _=>False)
  (hCX:∀ H e s',CX [] H s₁ (fun _ _ _=>False) e s'->False) :
  codeAny (model P w) callerA (.call (.ref fa) ⟨[.ref a],[]⟩) (fun r s'=>r=.ok (.ret (.bool true))/\OldK s₁.heap s'.heap/\s'.os=s₁.os/\AllBare s'.gens) s₁:=by
 have rv:=Lj hi;have lenV:=hi.length;have core:∀ H:Hp,zkh H->SqL K H a (ns.map V.int)->HOk P w H s₁.heap->(∀ b,H b≠none->b=a)->(H a≠none->K.lookup a=none) ->
   codeAny (model P w) callerA (.call (.ref fa) ⟨[.ref a],[]⟩) (fun r s'=>r=.ok (.ret (.bool true))/\OldK s₁.heap s'.heap/\s'.os=s₁.os/\AllBare s'.gens) s₁:=by
  intro H hO hS hok hA hK;have base_of:∀ {b:Addr} {o:Obj},s₁.heap.get? b=#[d]->H b=none->(Ca s₁.heap H).get? b=#[d]:=fun e n=>zfl e n;have noA:∀ {b:Addr} {o:Obj} {es:Array DictEntry} {ep:Nat},s₁.heap.get? b=#[d]->o.data=.dict es ep->H b=none:=fun {b o es ep} e d=>by
   cases q:H b with
   | none=>rfl
   | some u =>
     have e':b=a:=hA b (by rw[q];simp);subst e';rw[ha] at e;cases e;have d':Data.seq vs.toArray _=Data.dict es ep:=d;cases d'
  have nsK:∀ {b:Addr} {m:Str->Option Value},s₁.heap.Ns b m->(Ca s₁.heap H).Ns b m:=fun {b m} ⟨o,es,ep,e,d,r⟩=>⟨o,es,ep,base_of e (noA e d),d,r⟩
  have hKb:K.In (Ca s₁.heap H):=fun b o e=>base_of (KX b o e) (by
   cases q:H b with
   | none=>rfl
   | some u =>
     have e':b=a:=hA b (by rw[q];simp);subst e';rw[hK (by rw[q];simp)] at e;cases e)
  have hM:Mod K mg (Ca s₁.heap H):=⟨hKb,nsK hns,⟨mb,nsK hb,hbb⟩,let ⟨mc,h1,h2⟩:=hlim;⟨mc,nsK h1,h2⟩⟩;have e0:zbd P w K mg (Ca s₁.heap H) callerA [] s₁ H:=⟨rfl,hM,fun b o e=>zh0 e,Nat.le_of_eq (zdv _ _),trivial,fun b hb=>absurd (show b∈([]:List Addr) from hb) (by simp),hok,.of_eq hg⟩;refine codeAny_mono ((F _ hKb (nsK hns)).run callerA [] s₁ H ⟨[.ref a],[]⟩ [.ref a] [.ref a] _ _ hr e0 (hbind s₁ (.ref a)) (.cons rfl .nil) (hsp H hO hS)) fun r s' h=>?_;cases r with
  | error e=>exact(hCX H e s' h).elim
  | ok fl =>
    cases fl with
    | next=>exact False.elim h
    | brk=>exact False.elim h
    | cont=>exact False.elim h
    | ret u =>
      obtain⟨v,H',os,bare,un,hok',r',q⟩:=h;have q':v=.bl true:=q;subst q';obtain rfl:u=Value.bool true:=r';refine⟨rfl,OldK.of_keep fun b o e=>?_,os,bare⟩;cases q:H b with
      | none=>exact un.keep b o e q (by intro z;exact absurd (show b∈([]:List Addr) from z) (by simp)) (by simp)
      | some u =>
        rcases hO b with z|⟨ob,xs,z⟩
        ·rw[q] at z;cases z
        ·have z2:=un.frzs b ob _ z;obtain⟨e1,_⟩:=hok b _ z;obtain⟨e2,_⟩:=hok' b _ z2;rw[e] at e1;cases e1;exact e2
 cases hk:K.lookup a with
 | some o =>
   have e:=KX a o hk;rw[ha] at e;cases e;refine core (fun _=>none) (fun _=>.inl rfl) (.inr ⟨_,vs.toArray,_,hk,rfl,rfl,rfl,by rw[zw5,lenV];exact hl,by simpa using rv⟩) (fun b u z=>by have z':(none:Option HO)=some u:=z;cases z') (fun b z=>absurd rfl z) fun z=>absurd rfl z
 | none =>
   refine core (fun b=>if b=a then some (.frz { cls:=.type "list",data:=.seq vs.toArray } (.lst (ns.map V.int))) else none) (fun b=>?_) (.inl (.inr ⟨{ cls:=.type "list",data:=.seq vs.toArray },#[l,rfl]⟩)) (fun b u z=>?_) (fun b z=>?_) fun _=>hk
   ·by_cases hb:b=a
    ·exact .inr ⟨_,_,#[l,hb]⟩
    ·exact .inl (if_neg hb)
   ·by_cases hb:b=a
    ·have z':=(if_pos hb).symm.trans z;cases z';subst hb;exact⟨ha,by rw[zwq];exact hl,vs,_,rv,ha⟩
    ·have z':=(if_neg hb).symm.trans z;cases z'
   ·by_cases hb:b=a
    ·exact hb
    ·exact absurd (if_neg hb) z
theorem zim{l:PySem.W.OpenLaw}{n k:Nat}{q:Program}{loose:#[B]}{XP:#[V]->Heap->Prop}{YP:World->Heap->Prop}{d:DefRec}{K:Params->Frag}{CX:World->CXT}{sp:World->Sp}{x:Str}
  (hn:l.most=some n) (hn2:n<=sizeLine) (hdf:d.params.defaults=[]) (hr:W9 k callerA)
  (hY:∀ (w:World) (h:Heap),YP w h->(K w.params).In h)
  (F:∀ (w:World) (mg:#[V]) (fa:Addr) (h:Heap),(K w.params).In h->h.Ns mainGlobals mg->mg d.name=#[b,fa] ->
   ∃ fd:FuncData,(∀ (s:Shared) (u:Value),BindsTo s fd ⟨[u],[]⟩ [(x,u)]) /\
     ∀ base:Heap,(K w.params).In base->base.Ns mainGlobals mg->FnOk l.prog w (K w.params) mg base (CX w) k fa fd [x] (sp w))
  (hsp:∀ (w:World) (H:Hp) (a:Addr) (ns:#[p]),ns.length<=n->zkh H->SqL (K w.params) H a (ns.map V.int)->sp w [.ref a] H (fun v _=>v=.bl true) fun _ _ _=>False)
  (hCX:∀ (w:World) (H:Hp) (s:Shared) (e:Value) (s':Shared),CX w [] H s (fun _ _ _=>False) e s'->False) :
  PySem.W.WalkO q loose XP YP l.row.toRowW d [] (fun f vs=>PySem.call f vs):=by
 refine Att.attach_call hn hdf fun w s₀ s₁ mg mb fa o pm cd doc a vs ns G Y ho hd hcd hmg hobj hints hlen hg=>?_;have KX:=hY w _ Y;obtain⟨fd,hb,hF⟩:=F w mg fa _ KX G.T.g hmg;exact zgc KX G.T.g G.T.b G.T.builtins G.T.nolimit hg hobj hints (zw6 hlen hn2) hr hF hb (fun H hO hS=>hsp w H a ns hlen hO hS) fun H e s'=>hCX w H s₁ e s'
def Z0(s:Stmt)(j:Nat):Stmt:=match s with
 | .ClassDef _ _ _ body _ _ _ _ _ _ _=>body.getD j (.Pass ⟨0,0,0,0⟩)
 | _=>.Pass ⟨0,0,0,0⟩
def Sf(s:Stmt):Arguments:=match s with
 | .FunctionDef _ a _ _ _ _ _ _ _ _=>a
 | _=>{ posonlyargs:=[],args:=[],vararg:=none,kwonlyargs:=[],kw_defaults:=[],kwarg:=none,defaults:=[] }
def Zv(s:Stmt):List Stmt:=match s with
 | .FunctionDef _ _ b _ _ _ _ _ _ _=>b
 | _=>[]
def Zk(s:Stmt):Scope:=match s with
 | .FunctionDef _ _ _ _ _ _ sc _ _ _=>sc
 | _=>{ kind:=.function,names:=[],isGenerator:=false,isCoroutine:=false }
abbrev E0:XK:=fun _ _ _=>False
structure Fun(K:Frag)(x qual:Str)(st:Stmt)(f:Addr)(fd:FuncData):Prop where
 ex:∃ (oc:Value) (od:Option Addr) (kV doc pm:Value) (an:Option Addr) (cdv ct:Value) (osl:Array (Option Value)),
  fd=PySem.W.fnOf x qual (Sf st) (Zv st) (Zk st) .none kV doc pm an cdv ct/\K.lookup f=some ⟨oc,od,.func fd,osl⟩/\PySem.W.codeIn K cdv qual=true
 kp:PySem.W.keepIn K (.ref f)=true
section
variable{P:Program}{w:World}{K:Frag}{mg:#[V]}{base:Heap}
theorem Fun.binds{x qual:Str}{st:Stmt}{f:Addr}{fd:FuncData}{ps:#[B]}(F:#[k,x,qual,st])
  (h:∀ (kV doc pm:Value) (an:Option Addr) (cdv ct:Value) (us:List Value),us.length=ps.length->bindArgs (PySem.W.fnOf x qual (Sf st) (Zv st) (Zk st) .none kV doc pm an cdv ct) ⟨us,[]⟩=pure (ps.zip us)):Ro K fd ps []:=by
 obtain⟨oc,od,kV,doc,pm,an,cdv,ct,osl,rfl,lk,hcd⟩:=F.ex;exact .all (h kV doc pm an cdv ct)
theorem R7{x qual:Str}{st:Stmt}{f:Addr}{oc:Value}{od an:Option Addr}{osl:Array (Option Value)}{kV doc pm cdv ct:Value}(l:K.lookup f=some ⟨oc,od,.func (PySem.W.fnOf x qual (Sf st) (Zv st) (Zk st) .none kV doc pm an cdv ct),osl⟩)
  (c:PySem.W.codeIn K cdv qual=true) (k:PySem.W.keepIn K (.ref f)=true):Fun K x qual st f (PySem.W.fnOf x qual (Sf st) (Zv st) (Zk st) .none kV doc pm an cdv ct):=⟨⟨oc,od,kV,doc,pm,an,cdv,ct,osl,rfl,l,c⟩,k⟩
end
theorem X8(hr:W9 k A):A.units+1<cLine:=zyc (Nat.add_le_add_left (by decide:1<=64) _) hr.units
theorem Tf(h:n<=1000):n<sizeLine:=zyc h ⋯
section
variable{X:Cx}
theorem pv(i:Nat)(hN:X.N[i]?=some x:=by rfl)(hv:Vis X.env.scope x:=by first|exact Or.inl rfl|exact Or.inr (Or.inl rfl)|exact Or.inr (Or.inr rfl))(hd:(x == ("__debug__":Str))=false:=by decide)
  (hcd:(x == ("__classdict__":Str))=false:=by decide):PE X (.Name x pos) (tVar i):=zjq hN hv hd hcd
theorem zd9:W8 X (.builtin "len") (fun xs H Q=>∃ a kvs,xs=[V.ref a]/\H a=#[c,.dK,kvs]/\Q (.int kvs.length) H):=by
 intro pins s σ H xs us Q I r h;obtain⟨a,kvs,rfl,ha,q⟩:=h;obtain⟨u,rfl,ru⟩:=Rm r;cases ru;exact zly I (.inl ha) fun t s' I'=>⟨.int kvs.length,H,I',#[C,t],q⟩
end
theorem iteF{A B:Prop}(h:B):if false=true then A else B:=by
 rw[#[g,zw8]];exact h
theorem iteT{A B:Prop}(h:A):if true=true then A else B:=by
 rw[#[l,rfl]];exact h
theorem Fs{c A B:Prop}[Decidable c](h1:c->A)(h2:¬ c->B):if c then A else B:=by
 by_cases h:c
 ·rw[#[l,h]];exact h1 h
 ·rw[#[g,h]];exact h2 h
def Same(H H':Hp):Prop:=∀ b o,H b=#[d]->H' b=#[d]
theorem Same.refl(H:Hp):Same H H:=fun _ _ h=>h
theorem Same.trans(a:Same H H1)(b:Same H1 H2):Same H H2:=fun c o h=>b c o (a c o h)
theorem Same.free(e:#[q])(h:H' l=Option.none):H l=Option.none:=by
 cases q:H l with
 | none=>rfl
 | some o =>
   rw[e l o q] at h;cases h
theorem Same.seq{K:Frag}{H H':Hp}{a:Addr}{xs:#[a]}(e:#[q])(h:SqL K H a xs):SqL K H' a xs:=by
 rcases h with (h|⟨o,h⟩)|h
 ·exact .inl (.inl (e _ _ h))
 ·exact .inl (.inr ⟨o,e _ _ h⟩)
 ·exact .inr h
section
variable{κ:Type}[DecidableEq κ]
theorem Ci:∀ {l:List κ} {k:κ},l.Nodup->¬ k∈l->(l++[k]).Nodup
 | [],k,_,_=>by simp
 | a :: r,k,h,hk=>by
   obtain⟨h1,h2⟩:=zxh.mp h;show (a :: (r++[k])).Nodup;refine zxh.mpr ⟨fun m=>?_,Ci h2 fun m=>hk (zwu.mpr (Or.inr m))⟩;rcases zw2.mp m with q|q
   ·exact h1 q
   ·exact hk (zwu.mpr (Or.inl (zwv.mp q).symm))
theorem zea{p:κ×V}{r:List (κ×V)}{k:κ}(e:p.1=k):X4 (p :: r) k=X4 r k:=by
 unfold X4;rw[zx2,#[g,(by simp[e])]]
theorem zeb{p:κ×V}{r:List (κ×V)}{k:κ}(e:¬ p.1=k):X4 (p :: r) k=p :: X4 r k:=by
 unfold X4;rw[zx2,#[l,(by simp[e])]]
end
section
variable{X:Cx}{pins:#[x]}{σ:List (Option V)}{H H':Hp}{s:Shared}{h':Heap}
theorem Inv.stepN{g':Array GenState}{t':Nat}{d':Drawn}{ch:#[z]}(I:#[h])
  (hch:#[aE,b])
  (keep:∀ b o,b≠X.env.locals->b∉X.fs->b∉ch->#[O,b]=#[d]->H b=none->h'.get? b=#[d])
  (slot:∀ b o,b≠X.env.locals->b∈X.fs->b∉ch->#[O,b]=#[d]->H b=none->∃ sl,h'.get? b=some { o with slots:=sl }) (free:∀ b o,b∉ch->#[O,b]=#[d]->H b=none->H' b=none)
  (there:∀ b o,b∉ch->#[O,b]=#[d]->∃ o',h'.get? b=some o')
  (tups:∀ b xs,H b=#[A,xs]->H' b=#[A,xs]) (frzs:∀ b o u,H b=some (.frz o u)->H' b=some (.frz o u)) (tbls:∀ b ps,H b=#[c,.tbl,ps]->∃ more,H' b=#[c,.tbl,ps++more])
  (ns:∀ m,s.heap.Ns X.env.locals m->h'.Ns X.env.locals m) (hok:HOk X.prog X.w H' h') (hg:AllBare g') :
  Inv X pins σ H' { s with heap:=h',gens:=g',drawn:=d',toks:=t' }:=by
 have neL:∀ b o,X.s₀.heap.get? b=#[d]->b≠X.env.locals:=fun b o e=>zxj (zw7 (Heap.lt_size e) I.ok.above);have neC:∀ b o,X.s₀.heap.get? b=#[d]->b∉X.ex->b∉ch:=fun b o e hx hb=>by
  rcases(hch b hb).1 with z|z
  ·exact hx z
  ·rw[z] at e;cases e
 have cellK:∀ x c,#[W,x]=some c->∀ v,s.heap.IsCell c v->h'.IsCell c v:=fun x c e v ⟨o,ho,hd⟩=>by
  have nch:c∉ch:=fun z=>(hch c z).2.2.1 x c e rfl;by_cases hc:c∈X.fs
  ·obtain⟨sl,q⟩:=slot c o (I.cne x c e) hc nch ho (I.freeC x c e);exact⟨_,q,hd⟩
  ·exact⟨o,keep c o (I.cne x c e) hc nch ho (I.freeC x c e),hd⟩
 refine⟨I.ok,I.os,hg,⟨fun b o e n hb hx=>?_,fun b o e n hb hx=>?_,fun b o e n hx=>?_,fun b o e hx=>?_,fun b xs e=>tups b xs (I.base.tups b xs e),fun b o xs e=>frzs b o xs (I.base.frzs b o xs e),fun b ps e=>?_⟩,?_,fun x c e=>?_,?_,fun x c e=>?_,fun p hp=>?_,hok,I.len⟩
 ·exact keep b o (neL b o e) hb (neC b o e hx) (I.base.keep b o e n hb hx) (I.base.free b o e n hx)
 ·obtain⟨sl,e1⟩:=I.base.slot b o e n hb hx;obtain⟨sl',e2⟩:=slot b _ (neL b o e) hb (neC b o e hx) e1 (I.base.free b o e n hx);exact⟨sl',e2⟩
 ·obtain⟨o',e1⟩:=I.base.there b o e hx;exact free b o' (neC b o e hx) e1 (I.base.free b o e n hx)
 ·obtain⟨o',e1⟩:=I.base.there b o e hx;exact there b o' (neC b o e hx) e1
 ·obtain⟨m1,e1⟩:=I.base.tbls b ps e;obtain⟨m2,e2⟩:=tbls b _ e1;exact⟨m1++m2,by rw[e2,Array.append_assoc]⟩
 ·obtain⟨m,hn,hl⟩:=I.loc;refine⟨m,ns m hn,fun i x v e1 e2 e3=>?_⟩;obtain⟨u,r,l⟩:=hl i x v e1 e2 e3;refine⟨u,r,?_⟩;rcases l with l|⟨k,c,e,z⟩
  ·exact .inl l
  ·exact .inr ⟨k,c,e,cellK x c e _ z⟩
 ·obtain⟨v,z⟩:=I.cell x c e;exact⟨v,cellK x c e v z⟩
 ·obtain⟨m,⟨o,_,_,ho,_⟩,_⟩:=I.loc;exact free _ o (fun z=>(hch _ z).2.1 rfl) ho I.free
 ·obtain⟨v,o,ho,hd⟩:=I.cell x c e;exact free c o (fun z=>(hch c z).2.2.1 x c e rfl) ho (I.freeC x c e)
 ·obtain⟨e,n,ne,nf,d⟩:=I.pin p hp;have nch:p.1∉ch:=fun z=>(hch p.1 z).2.2.2 p hp rfl;exact⟨keep p.1 p.2 ne nf nch e n,free p.1 p.2 nch e n,ne,nf,d⟩
theorem Inv.callN{g':Array GenState}{t':Nat}{d':Drawn}{ch:#[z]}(I:#[h])(u:Un (frs X.stack) ch H H' s.heap h')(hok:HOk X.prog X.w H' h')(hg:AllBare g')
  (hch:#[aE,b]) :
  Inv X pins σ H' { s with heap:=h',gens:=g',drawn:=d',toks:=t' }:=by
 obtain⟨m,⟨o,es,ep,ho,r⟩,_⟩:=id I.loc;obtain⟨sl,hL⟩:=u.any ho I.free fun z=>(hch _ z).2.1 rfl;exact I.stepN (ch:=ch) hch (fun b o hL hb hc e n=>u.keep b o e n (fun z=>(zwu.mp (I.stkSub b z)).elim hL hb) hc) (fun b o _ _ hc e n=>u.any e n hc) (fun b o hc e n=>u.free b o e n hc) (fun b o hc e=>u.there b o e hc) u.tups u.frzs u.tbls (fun m' hm=>by
  obtain⟨o',es',ep',ho',r'⟩:=hm;rw[ho] at ho';cases ho';exact⟨_,es',ep',hL,r'⟩) hok hg
theorem Inv.callN'(I:#[h])(ho:s'.os=s.os)(u:Un (frs X.stack) ch H H' s.heap s'.heap)(hok:HOk X.prog X.w H' s'.heap)(hg:AllBare s'.gens)
  (hch:#[aE,b]):#[G,H',s']:=by
 obtain⟨h',g',d',t',o'⟩:=s';have e:o'=s.os:=ho;subst e;exact I.callN (g':=g') (t':=t') (d':=d') u hok hg hch
end
section
variable{P:Program}{w:World}{H H':Hp}{h h' g:Heap}{a:Addr}{o:HO}
theorem Y0.there(x:Y0 P w H h a o):∃ ob,h.get? a=some ob:=by
 cases o with
 | lst xs=>obtain⟨_,_,_,_,e⟩:=x;exact⟨_,e⟩
 | tup xs=>obtain⟨_,_,_,ob,e,_⟩:=x;exact⟨_,e⟩
 | dK kvs=>obtain⟨_,_,_,_,o,_,_,e,_⟩:=x;exact⟨_,e⟩
 | dT kvs=>obtain⟨_,_,_,_,o,_,_,e,_⟩:=x;exact⟨_,e⟩
 | set S n=>obtain⟨o,_,_,_,e,_⟩:=x;exact⟨_,e⟩
 | ins C dx fs=>obtain⟨_,_,_,e,_⟩:=x;exact⟨_,e⟩
 | own y=>obtain⟨_,e⟩:=x;exact⟨_,e⟩
 | xd fs=>obtain⟨_,⟨_,_,_,e,_⟩,_⟩:=x;exact⟨_,e⟩
 | rng lo hi=>obtain⟨_,_,_,e⟩:=x;exact⟨_,e⟩
 | frz ob u=>obtain⟨e,_⟩:=x;exact⟨_,e⟩
 | tbl ps=>exact⟨_,show h.get? a=some _ from x⟩
 | met f y=>exact⟨_,show h.get? a=some _ from x⟩
 | ext φ=>obtain⟨_,⟨_,e⟩,_⟩:=x;exact⟨_,e⟩
theorem HOk.none_of(x:HOk P w H h)(e:h.get? a=none):H a=none:=by
 cases q:H a with
 | none=>rfl
 | some u =>
   obtain⟨_,z⟩:=(x a u q).there;rw[e] at z;cases z
theorem B7(e:(PySem.W.hideAll h as).get? a=none):h.get? a=none\/a∈as:=by
 by_cases m:a∈as
 ·exact .inr m
 ·cases q:h.get? a with
  | none=>exact .inl rfl
  | some o=>rw[PySem.W.hideAll_get as q m] at e;cases e
end
structure Fly(g:Heap)(H:Hp)(h:Heap)(e T:Addr)(cls:Value):Prop where
 ex:∃ oe vs oT ts,h.get? e=some oe/\oe.cls=cls/\oe.data=.fields vs/\vs[1]?=#[b,T]/\T≠e/\h.get? T=some oT/\oT.data=.fields ts/\ts[3]?=some .none
 newE:g.get? e=none
 newT:g.get? T=none
 freeE:H e=none
 freeT:H T=none
def CX1(P:Program)(w:World):CXT:=fun outer H s E e s'=>∃ a T cls H',e=.ref a/\s'.os=s.os/\AllBare s'.gens/\Un (frs outer) [] H H' s.heap s'.heap/\HOk P w H' s'.heap/\Fly s.heap H' s'.heap a T cls/\E cls none H'
section
variable{X:Cx}{pins:#[x]}{σ:St}{H H':Hp}{s s':Shared}{h':Heap}{e T:Addr}{cls:Value}
structure Tn(X:Cx)(ch:#[z])(h h':Heap):Prop where
 keep:∀ b o,h.get? b=#[d]->b∉ch->b∉frs X.stack->h'.get? b=#[d]
 slot:∀ b o,h.get? b=#[d]->b∉ch->b∈frs X.stack->∃ sl,h'.get? b=some { o with slots:=sl }
theorem Tn.of(I:#[h])(st:(PySem.W.hideAll s.heap (as++frs X.stack)).StaysIn h')(up:s.heap.UpToSlots h'):Tn X as s.heap h' where
 keep:=fun b o q n1 n2=>st b o (PySem.W.hideAll_get _ q (by simp[n1,n2]))
 slot:=fun b o q _ m=>by
  obtain⟨_,o',ho,nf⟩:=I.stack.mem m;rw[q] at ho;cases ho;exact up b o q nf
theorem Tn.un(I:#[h])(t:Tn X ch s.heap h')(hch:∀ b∈ch,H b=none):Un (frs X.stack) ch H H s.heap h' where
 keep:=fun b o q n hf hc=>t.keep b o q hc hf
 slot:=fun b o q n hf hc=>t.slot b o q hc hf
 free:=fun _ _ _ n _=>n
 there:=fun b o q hc=>by
  by_cases m:b∈frs X.stack
  ·obtain⟨_,z⟩:=t.slot b o q hc m;exact⟨_,z⟩
  ·exact⟨o,t.keep b o q hc m⟩
 tups:=fun _ _ q=>q
 frzs:=fun _ _ _ q=>q
 tbls:=fun b ps q=>⟨#[],by rw[q];simp⟩
theorem Tn.hok(I:#[h])(t:Tn X ch s.heap h')(hch:∀ b∈ch,H b=none):HOk X.prog X.w H h':=fun b u q=>by
 have tr:∀ c v,H c=some v->c∉ch/\c∉frs X.stack:=fun c v z=>⟨(fun m=>by rw[hch c m] at z;cases z),(fun m=>by rw[I.stkFree c m] at z;cases z)⟩
 refine(I.hok b u q).stay (fun c v hc r=>?_) (fun _ z=>z) fun _ _ z=>z;rcases hc with z|z
 ·subst z;exact t.keep c v r (tr c u q).1 (tr c u q).2
 ·exact t.keep c v r (tr c _ z).1 (tr c _ z).2
theorem Inv.newRec(I:#[h])(hx:X.ex=[])(n:#[O,b]=none):(b∈X.ex\/X.s₀.heap.get? b=none)/\b≠X.env.locals/\(∀ x c,X.env.cells.lookup x=some c->c≠b)/\∀ p∈X.pn++pins,p.1≠b:=by
 refine⟨.inr ?_,?_,?_,?_⟩
 ·cases q:X.s₀.heap.get? b with
  | none=>rfl
  | some o =>
    obtain⟨_,z⟩:=I.base.there b o q (by rw[hx];simp);rw[n] at z;cases z
 ·rintro rfl;obtain⟨m,⟨o,_,_,ho,_⟩,_⟩:=I.loc;rw[n] at ho;cases ho
 ·rintro x c hc rfl;obtain⟨v,o,ho,_⟩:=I.cell x c hc;rw[n] at ho;cases ho
 ·rintro p hp rfl;obtain⟨z,_⟩:=I.pin p hp;rw[n] at z;cases z
theorem Inv.raised(I:#[h])(ho:s'.os=s.os)(hg:AllBare s'.gens)(u:Un (frs X.stack) [] H H' s.heap s'.heap)(hok:HOk X.prog X.w H' s'.heap):#[G,H',s'] :=
 I.call' ho u hok hg (fun _ z=>nomatch z)
theorem Fly.flying(J:#[h])(hl:s.heap.FunFrames X.base l)(hsub:∀ b∈frs l,b∈frs X.stack)(F:Fly g H s.heap e T cls) :
  ∃ a0,Heap.FlyingW (PySem.W.hideAll s.heap ([e,T]++frs X.stack)) l e cls a0 s.heap:=by
 obtain⟨oe,vs,oT,ts,e1,e2,e3,e4,e5,e6,e7,e8⟩:=F.ex;have sz:0<vs.size:=zyc (zxk _) (Array.getElem?_eq_some_iff.mp e4).1;refine⟨vs[0],fun b o q=>PySem.W.of_hideAll _ q,PySem.W.hideAll_none _ (by simp),PySem.W.funFrames_hide hl fun env he a ha=>?_,oe,vs,T,oT,ts,e1,⟨e2,?_⟩,e3,e4,PySem.W.hideAll_none _ (by simp),e5,e6,e7,e8⟩
 ·have:a∈frs l:=zyj.mpr ⟨env,he,ha⟩;simp[hsub a this]
 ·exact Array.getElem?_eq_getElem sz
theorem Fly.again(J:#[h])(F:Fly g H s.heap e T cls)(hg:∀ b,#[O,b]=none->g.get? b=none)
  (up:s.heap.UpToSlots h') (st:(PySem.W.hideAll s.heap ([e,T]++frs X.stack)).StaysIn h') (tr:h'.TracedW (PySem.W.hideAll s.heap ([e,T]++frs X.stack)) e cls a0):∃ T',Fly g H h' e T' cls:=by
 obtain⟨oe,vs,T',oT,ts,f1,⟨f2,_⟩,f3,f4,f5,f6,f7,f8,f9⟩:=tr;refine⟨T',⟨oe,vs,oT,ts,f1,f2,f3,f4,f6,f7,f8,f9⟩,F.newE,?_,F.freeE,?_⟩
 all_goals
  rcases B7 f5 with z|z
  ·first
    | exact hg _ z
    | exact J.hok.none_of z
  ·simp only[zw2,zwu,zxm,or_false] at z;rcases z with (z|z)|z
   ·exact absurd z f6
   ·subst z
    first
     | exact F.newT
     | exact F.freeT
   ·obtain⟨_,o,ho,nf⟩:=J.stack.mem z;obtain⟨sl,q⟩:=up T' o ho nf;rw[f7] at q;cases q;exact absurd f8 (nf _)
end
section
variable{P:Program}{w:World}{K:Frag}{mg:#[V]}{base:Heap}{N:#[B]}{qual:Str}{scope:Scope}{f:Addr}{cd:Value}{A:Around}{outer:List Env}{s0:Shared}{H0:Hp}{E:XK}
 {pins:#[x]} {σ:St} {H H':Hp} {s s':Shared} {h':Heap} {e T:Addr} {cls:Value}
theorem B8(hx:X.ex=[])(J:#[h])(hst:X.stack=X.env :: X.outer)(hf:X.env.frame=some X.env.locals)(t:Tn X ch s.heap h')(hch:∀ b∈ch,X.s₀.heap.get? b=none) :
  Un X.fs [] X.H₀ H X.s₀.heap h':=by
 have nb:∀ b o,X.s₀.heap.get? b=#[d]->b∉ch:=fun b o q m=>by rw[hch b m] at q;cases q
 have mem:∀ b,b∈frs X.stack↔b=X.env.locals\/b∈X.fs:=fun b=>by
  unfold Cx.fs frs;rw[hst,zyk,hf];exact zwu
 have neL:∀ b o,X.s₀.heap.get? b=#[d]->b≠X.env.locals:=fun b o q=>zxj (zw7 (Heap.lt_size q) J.ok.above);have nx:∀ b:Addr,b∉X.ex:=fun b=>by rw[hx];simp
 refine⟨fun b o q n hb _=>?_,fun b o q n hb _=>?_,fun b o q n _=>J.base.free b o q n (nx b),fun b o q _=>?_,J.base.tups,J.base.frzs,J.base.tbls⟩
 ·refine t.keep b o (J.base.keep b o q n hb (nx b)) (nb b o q) fun m=>?_;exact((mem b).mp m).elim (neL b o q) hb
 ·obtain⟨sl,z⟩:=J.base.slot b o q n hb (nx b);obtain⟨sl',z'⟩:=t.slot b _ z (nb b o q) ((mem b).mpr (.inr hb));exact⟨sl',z'⟩
 ·obtain⟨o',z⟩:=J.base.there b o q (nx b);by_cases m:b∈frs X.stack
  ·obtain⟨_,z'⟩:=t.slot b o' z (nb b o q) m;exact⟨_,z'⟩
  ·exact⟨o',t.keep b o' z (nb b o q) m⟩
theorem Zj:W0 #[i] (cxOf #[i] P w K mg base N qual scope f cd A outer s0 H0 E) E:=by
 intro pins σ H s ev s' I h;obtain⟨a,T,cls,H',q0,ho,hg,u,hok,F,hE⟩:=h;subst q0;have J:=I.raised ho hg u hok;obtain⟨a0,hfl⟩:=F.flying J J.stack fun _ z=>z;refine wpAny_leaves_onW (base:=PySem.W.hideAll s'.heap ([a,T]++frs _)) J.ok.frames rfl hfl fun h2 hfl2 up=>?_;have old:∀ b,#[O,b]=none->s0.heap.get? b=none:=fun b n=>by
  cases q:s0.heap.get? b with
  | none=>rfl
  | some o =>
    obtain⟨_,z⟩:=I.base.there b o q (by show b∉([]:List Addr);simp);rw[n] at z;cases z
 have old2:∀ b,s'.heap.get? b=none->s0.heap.get? b=none:=fun b n=>by
  cases q:s0.heap.get? b with
  | none=>rfl
  | some o =>
    obtain⟨_,z⟩:=J.base.there b o q (by show b∉([]:List Addr);simp);rw[n] at z;cases z
 have t:=Tn.of (as:=[a,T]) J hfl2.1 up;have F0:Fly s0.heap H' s'.heap a T cls:=⟨F.ex,old _ F.newE,old _ F.newT,F.freeE,F.freeT⟩;obtain⟨T',F'⟩:=F0.again J old2 up hfl2.1 hfl2.2.2.2;refine⟨a,T',cls,H',rfl,J.os,J.bare,B8 rfl J rfl rfl t ?_,t.hok J ?_,F',hE⟩
 ·intro b hb;rcases zwu.mp hb with rfl|hb
  ·exact F0.newE
  ·rcases zwu.mp hb with rfl|hb
   ·exact F0.newT
   ·cases hb
 ·intro b hb;rcases zwu.mp hb with rfl|hb
  ·exact F.freeE
  ·rcases zwu.mp hb with rfl|hb
   ·exact F.freeT
   ·cases hb
def zjh(X:Cx)(E:XK):Prop:=∀ (pins:List (Addr×Obj)) (σ:St) (H:Hp) (s:Shared) (h':Heap) (e C:Addr) (args:List Value),#[h]->Heap.MadeExcOf s.heap h' e (.ref C) args->#[H,C]->X.xe (.ref e) { s with heap:=h' }
theorem Xf:zjh (cxOf #[i] P w K mg base N qual scope f cd A outer s0 H0 E) E:=by
 intro pins σ H s h1 e C args I hm hE;refine wpAny_leaves_madeW (base:=PySem.W.hideAll s.heap ([]++frs _)) (h:=s.heap) I.ok.frames rfl (fun b o q=>PySem.W.of_hideAll _ q)
  (PySem.W.funFrames_hide I.stack fun env he a ha=>by
   have:a∈frs _:=zyj.mpr ⟨env,he,ha⟩
   simpa using this) hm fun h2 t hfl _ _ up=>?_
 have up2:s.heap.UpToSlots h2:=(Heap.UpToSlots.of_keeps hm.keeps).trans up;have tt:=Tn.of (as:=[]) I hfl.1 up2;have old2:∀ b,#[O,b]=none->s0.heap.get? b=none:=fun b n=>by
  cases q:s0.heap.get? b with
  | none=>rfl
  | some o =>
    obtain⟨_,z⟩:=I.base.there b o q (by show b∉([]:List Addr);simp);rw[n] at z;cases z
 obtain⟨oe,vs,T',oT,ts,f1,⟨f2,_⟩,f3,f4,f5,f6,f7,f8,f9⟩:=hfl.2.2.2;have nT:#[O,T']=none:=by
  rcases B7 f5 with z|z
  ·exact z
  ·have z':T'∈frs (cxOf (CX1 P w) P w K mg base N qual scope f cd A outer s0 H0 E).stack:=(zw2.mp z).resolve_left (by simp);obtain⟨_,o,ho,nf⟩:=I.stack.mem z';obtain⟨sl,q⟩:=up2 T' o ho nf;rw[f7] at q;cases q;exact absurd f8 (nf _)
 refine⟨e,T',.ref C,H,rfl,I.os,I.bare,B8 rfl I rfl rfl tt (fun _ z=>nomatch z),tt.hok I (fun _ z=>nomatch z),⟨⟨oe,vs,oT,ts,f1,f2,f3,f4,f6,f7,f8,f9⟩,old2 _ hm.new,old2 _ nT,I.hok.none_of hm.new,I.hok.none_of nT⟩,hE⟩
end
structure Qy(K:Frag)(mg:#[V])(x:Str)(C:Addr):Prop where
 nm:#[ag,x,C]
 ex:PySem.W.excIn K C [.type "ValueError",.type "Exception",.type "BaseException",.type "object"] "ValueError.__new__"=true
theorem Qy.own{K:Frag}{mg:#[V]}{x:Str}{C:Addr}{h:Heap}(c:Qy K mg x C)(X:K.In h):OwnCls x C [.type "ValueError",.type "Exception",.type "BaseException",.type "object"] "ValueError.__new__" mg h:=by
 refine⟨c.nm,?_⟩;have q:=c.ex;unfold PySem.W.excIn at q;split at q
 ·rename_i dd cd sl ho;split at q
  ·rename_i C' bm k0 k1 k2 k3 n k5 hm hs;simp only[zx3,beq_iff_eq,Bool.not_eq_true'] at q;obtain⟨⟨⟨⟨⟨rfl,rfl⟩,hdel⟩,ht⟩,hok⟩,hni⟩:=q;obtain⟨nm,bs,mro,ns,qn,hd,sn,sub,ab,col,del⟩:=cd;dsimp only at hm hdel hok hni;subst hm hdel;have hsl:sl=#[k0,k1,k2,k3,#[c,.builtin,"ValueError.__new__"],k5]:=by
    obtain⟨l⟩:=sl;simp only at hs;rw[hs]
   subst hsl;exact⟨bm,ns,nm,qn,bs,hd,sn,sub,ab,col,dd,k0,k1,k2,k3,k5,_,X _ _ ho,.of_isNs (PySem.W.isNs_of_in X hok),PySem.W.nsMap_none_of_in X hok hni,PySem.W.tail_of_in X ht⟩
  ·cases q
 ·cases q
inductive zin(C:Addr)(E:XK)(vs:#[a])(H1:Hp):Prop where
 | mk(_:vs.length<=sizeLine)(_:E (.ref C) none H1)
def zki(C:Addr)(E:XK)(t:TA):TS:=fun _ σ H=>t σ H fun vs H1=>zin C E vs H1
theorem Xg{X:Cx}{x:Str}{C:Addr}{E:XK}{e₀:Expr}{rest:List Expr}{t:TA}{np cpos pos:Pos}(hl:zjh X E)(hc:X.calm=true)(c:Qy X.K X.mg x C)(hg:Gl X x)(ha:PA X (e₀ :: rest) t)
  (he:starEach (e₀ :: rest) X.env=(false,#[D,e₀]) :: starEach rest X.env:=by rfl) (hplain:(backTo cpos (starEach rest X.env)).any (·.1)=false:=by rfl) (hd:(x == ("__debug__":Str))=false:=by decide) :
  PS X (.Raise (some (.Call (.Name x np) (e₀ :: rest) [] cpos)) none pos) (zki C E t):=by
 intro pins s σ H D I h;have O:=c.own I.mod.kin;obtain⟨tl,N,nm,q,bs,hdct,sn,sub,ab,col,dd,k0,k1,k2,k3,k5,mN,hC,hN,hni,T⟩:=O.obj;refine wpAny_Raise_call_subT (C:=C) (nm:=nm) (q:=q) (N:=N) (bs:=bs) (bm:=tl) (hdct:=hdct) (sn:=sn) (sub:=sub) (ab:=ab) (col:=col) (dd:=dd) (k0:=k0) (k1:=k1) (k2:=k2) (k3:=k3) (k5:=k5)
  PySem.F.excBase_ValueError (mN:=mN) (T.hasType (by rfl)) (I.ok.hd hc) (by rw[he];show (false||(backTo cpos (starEach rest X.env)).any (·.1))=false;rw[hplain];rfl) hni (Oc I hg c.nm ⟨rfl,?_⟩ hd)
 have hp:=ha cpos pins s σ H _ I h;rw[he] at hp ⊢;refine Calls.evalArgs_plain (wpAny_mono hp (fun us s2 h2=>?_) fun _ _ y=>y);obtain⟨vs,H1,I1,r,hlen,hE⟩:=h2;exact⟨rfl,by rw[<- r.length];exact hlen,I1.bk _ _ hC,hN.keeps I1.bk,T.keeps I1.bk,fun h' e hm=>hl _ _ _ _ _ _ _ _ I1 hm hE⟩
structure zgd(K:Frag)(CB:Addr):Prop where
 ty:PySem.W.typeIn K (.ref CB)=#[c,.type,"type"]
 cl:(PySem.W.clsIn K CB).isSome=true
 bx:PySem.W.mroIn K CB (.type "BaseException")=some true
theorem B9{K:Frag}{M:Model}{A:Around}{E:Value->Shared->Prop}{s:Shared}{e C CB:Addr}{b:Bool}{oe:Obj}{Q:Bool->Shared->Prop}(X:K.In s.heap)(c:zgd K CB)
  (he:s.heap.get? e=some oe) (hcls:oe.cls=.ref C) (hm:PySem.W.mroIn K C (.ref CB)=some b) (h:Q b s):wpAny M A (excMatches (.ref e) (.ref CB)) Q E s:=by
 obtain⟨hp,g,d,tk,os⟩:=s;have L1:=PySem.W.looks_typeIn (M:=M) X c.ty;have L2:=PySem.W.looks_mroIn (M:=M) X c.bx;have L3:=PySem.W.looks_mroIn (M:=M) X hm;have L0:PySem.W.Looks M hp (typeOf (.ref e)) (.ref C):=hcls▸(PySem.W.Looks.ld he).andThen .now;have L4:PySem.W.Looks M hp (isType (.ref CB)) true:=by
  have z:=c.cl;unfold PySem.W.clsIn at z;split at z
  ·rename_i c' d' cd' sl' ho;intro A' Q' E' s' k q;unfold isType loadHead;exact wpAny_bind (wpAny_loadPart #[N,k,X,ho] (wpAny_pure q))
  ·cases z
 unfold excMatches isInstance isExcClass;refine wpAny_bind (wpAny_bind (L1.at (wpAny_of_eq tc_notTuple ?_)));simp only[zx6,if_false,List.forIn_cons,List.forIn_nil];refine wpAny_bind (wpAny_pure (wpAny_bind ?_));simp only[List.forIn_cons,List.forIn_nil];refine wpAny_bind (wpAny_bind (wpAny_bind (L4.at ?_)));simp only[if_true];refine L2.at ?_;simp only[Bool.not_true,zx6,if_false];refine wpAny_pure (wpAny_pure (wpAny_bind (L0.at (wpAny_bind (wpAny_bind (wpAny_bind (L3.at ?_)))))));cases b with
 | true=>simp only[if_true];exact wpAny_pure (wpAny_pure (wpAny_pure h))
 | false=>simp only[zx6,if_false];exact wpAny_pure (wpAny_pure (wpAny_pure h))
end L2
namespace L2
open PySem PySem.Spec PyProof.Rows PySem.W PySem.Calls PySem.Builtin PySem.Builtin.ObjectAttr PySem.Builtin.Getset_descriptor
def excO(a:Addr)(cls:Value):HO:=.ext fun h=>∃ o vs,h.get? a=#[d]/\o.cls=cls/\o.data=.fields vs
structure Cj(K:Frag)(D:Addr):Prop where
 ga:findIn K (.ref D) "__getattribute__"=some #[c,.builtin,"BaseException.__getattribute__"]
 gk:#[ao,K,D,"__getattr__"]
 cl:(clsIn K D).isSome=true
 at_:findIn K (.ref D) "__class__"=some #[c,.builtin,"object.__class__"]
 gt:specialIn K (.builtin "object.__class__") "__get__"=some #[c,.builtin,"getset_descriptor.__get__"]
 tk:takesIn K (.builtin "object.__class__")=some true
 mo:mroIn K D (.type "object")=some true
 mx:mroIn K D (.type "BaseException")=some true
section
variable{prog:Program}{w:World}{A:Around}{E:Value->Shared->Prop}{s:Shared}{K:Frag}{x D:Addr}
theorem zge(X:K.In h)(c:Cj K D):Looks M h (find (.ref x) (.ref D) "__class__") (.bind (.builtin "getset_descriptor.__get__") (.builtin "object.__class__")):=by
 have L1:=looks_findIn (M:=M) X c.at_;have L2:Looks M h (getOf #[c,.builtin,"object.__class__"]) #[c,.builtin,"getset_descriptor.__get__"]:=looks_specialIn X c.gt;have L3:=looks_takesIn (M:=M) X c.tk;exact L1.andThen (L2.andThen ((show Looks M h (dataDescriptor? (some (.builtin "object.__class__")) (some (.builtin "getset_descriptor.__get__"))) (some (.builtin "getset_descriptor.__get__",.builtin "object.__class__")) from L3.andThen .now).andThen (Looks.tag .now)))
theorem zbm(X:K.In s.heap)(hx:s.heap.get? x=some o)(hc:o.cls=.ref D)(c:Cj K D)(q:R (.ok (.ret (.ref D))) s) :
  codeAny (model prog w) A (.call (.builtin "getset_descriptor.__get__") ⟨[.builtin "object.__class__",.ref x,.ref D],[]⟩) R s:=by
 obtain⟨hh,g,d,t,os⟩:=s;have L0:Looks (model prog w) hh (typeOf (.ref x)) (.ref D):=hc▸(Looks.ld hx).andThen .now;have Lm:=looks_mroIn (M:=model prog w) X c.mo;refine codeAny_call_builtin KF.slot_gs.plain KF.entry_gs (KF.slot_gs.check _ _ _ _ _ _ _ _ KF.type_class (KF.args_gs _ _ _) ?_);unfold Builtin.«getset_descriptor.__get__» descrGet;rw[dga_obj];refine wpAny_bind (wpAny_pure ?_);unfold descrGetter descrCheckInstance descrNameAndClass isInstance;simp only[KF.owner_class]
 repeat lk
 refine⟨Code.quiet_builtin _ ⋯,codeAny_builtin KF.entry_class ?_⟩;unfold Builtin.«object.__class__» shownTypeOf
 repeat lk
 exact q
theorem zkj(X:K.In s.heap)(hx:s.heap.get? x=some o)(hc:o.cls=.ref D)(c:Cj K D)(q:Q (.done (.ret (.ref D))) s) :
  wpAny (model prog w) A (Builtin.«object.__getattribute__» ⟨[.ref x,.str "__class__" tk],[]⟩) Q E s:=by
 have L0:Looks (model prog w) s.heap (typeOf (.ref x)) (.ref D):=hc▸(Looks.ld hx).andThen .now;have Lf:=zge (x:=x) (M:=model prog w) X c;have e1:slotArgs "__getattribute__" 1 ⟨[.ref x,.str "__class__" tk],[]⟩=pure (.ref x,[.str "__class__" tk]):=rfl;unfold Builtin.«object.__getattribute__»;rw[e1];refine wpAny_bind (wpAny_pure ?_);refine wpAny_bind (show wpAny _ _ (attrName (.str "__class__" tk)) _ _ _ from wpAny_pure ?_);obtain⟨hh,g,d,t,os⟩:=s;refine wpAny_bind (L0.at (wpAny_bind (Lf.at ?_)));show wpAny _ _ (bindTo _ _ _ _) _ _ _;unfold bindTo;dsimp only;refine wpAny_bind (wpAny_holding (wpAny_call (zbm X hx hc c ?_)));exact wpAny_pure q
theorem Ft(X:K.In s.heap)(hx:s.heap.get? x=some o)(hc:o.cls=.ref D)(c:Cj K D)(q:Q #[b,D] { s with toks:=s.toks+1 }) :
  wpAny (model prog w) A (getAttr? (.ref x) "__class__") Q E s:=by
 obtain⟨hh,g,d,t,os⟩:=s;have L0:Looks (model prog w) hh (typeOf (.ref x)) (.ref D):=hc▸(Looks.ld hx).andThen .now;have La:=looks_findIn (M:=model prog w) X c.ga;have Lk:=looks_findIn (M:=model prog w) X c.gk;have Lx:=looks_mroIn (M:=model prog w) X c.mx;have hb:=PySem.F.attr_ValueError.ga.bind (.ref x);have hne0:(Value.builtin "BaseException.__getattribute__" == Value.builtin "object.__getattribute__")=false:=by decide +kernel
 have hne:(onTheHeap (Value.ref D)&&Value.builtin "BaseException.__getattribute__" == Value.builtin "object.__getattribute__")=false:=by rw[hne0];rfl
 unfold getAttr? getAttrBy? getAttrBy;refine wpAny_bind (wpAny_mkText (wpAny_bind (wpAny_attempt (wpAny_holding (wpAny_bind (L0.at (wpAny_bind (La.at ?_))))))));dsimp only;rw[#[g,(by rw[hne];decide)]];unfold getAttrByItsOwn;refine wpAny_bind (show wpAny _ _ (typeLookup (.ref D) "__getattr__") _ _ _ from Lk.at ?_);refine wpAny_bind (wpAny_attempt (wpAny_holding ?_));show wpAny _ _ (boundAndCalled _ _ _) _ _ _;unfold boundAndCalled;rw[hb];refine wpAny_bind (wpAny_pure (wpAny_call ?_));refine codeAny_call_builtin PySem.F.attr_ValueError.ga.plain PySem.F.entry_bexc_ga ?_;have hk:builtinKind "BaseException.__getattribute__"=some .slot:=by decide +kernel
 have hsplit:splitId "BaseException.__getattribute__"=some ("BaseException","__getattribute__"):=by decide +kernel
 have ha:=PySem.F.args_bexc_ga (.ref x) (.str "__class__" t);simp only[checkBuiltinCall,hk,hsplit,List.cons_append,List.nil_append];unfold isInstance
 repeat (first|with_reducible refine zkj X hx hc c ?_|lk)
 exact q
theorem zgf(c:Cj K D):KitX K (.ref x) (.ref D) (fun h=>∃ o,h.get? x=#[d]/\o.cls=.ref D) where
 ty:=fun M h _ p=>by obtain⟨o,hx,hc⟩:=p;exact hc▸(Looks.ld hx).andThen .now
 it:=fun _ _ X _=>by
  have z:=c.cl;unfold clsIn at z;split at z
  ·rename_i ho;intro A' Q' E' s' k q;unfold isType loadHead;exact wpAny_bind (wpAny_loadPart #[N,k,X,ho] (wpAny_pure q))
  ·cases z
 ne:=fun h tp dd its n sl X htp=>by
  refine Bool.eq_false_iff.mpr fun q=>?_;have e:D=tp:=Value.ref.inj (beq_iff_eq.mp q);subst e;have z:=c.cl;unfold clsIn at z;split at z
  ·rename_i ho;have z:=(X _ _ ho).symm.trans htp;cases z
  ·cases z
 ca:=fun X p q=>by obtain⟨o,hx,hc⟩:=p;exact Ft X hx hc c q
end
inductive TyX(K:Frag)(H:Hp)(x:V)(t:Value):Prop where
 | of (h:Lh K H x t):TyX K H x t
 | exc {a D:Addr} (ex:x=.ref a) (et:t=.ref D) (h:H a=some (excO a (.ref D))) (c:Cj K D):TyX K H x t
def zl7:V->Value
 | .ty n=>.type n
 | .ref a=>.ref a
 | _=>.none
inductive rIsI(K:Frag)(xs:#[a])(H:Hp)(Q:VK):Prop where
 | mk(x)(c)(t)(b)(_:xs=[x,c])(_:TyX K H x t)(_:((∃ n,c=.ty n)\/∃ a,c=.ref a))(_:kitOne K t (zl7 c)=some b)(_:Q (.bl b) H)
theorem zgg:W8 X (.builtin "isinstance") (rIsI X.K):=by
 intro pins s σ H xs us Q I r h;obtain⟨x,c,t,b,rfl,ty,hc,hk,q⟩:=h;obtain⟨u,w',rfl,r1,r2⟩:=zcm r;have e:w'=zl7 c:=by
  rcases hc with ⟨n,rfl⟩|⟨a,rfl⟩
  ·exact r2
  ·exact r2
 subst e;cases ty with
 | of ty=>exact zd1 I r1 ty hk fun tk=>#[I,.bl b,H,I.tok tk,q]
 | @exc a D ex et ha cl =>
   subst ex et;cases (show u=Value.ref a from r1);obtain⟨⟨o,vs,ho,hcl,_⟩,_⟩:=(show Y0 X.prog X.w H s.heap a (excO a (.ref D)) from I.hok a _ ha);exact kia_one (zgf cl) I.kIn ⟨o,ho,hcl⟩ hk (fun z=>nomatch z) fun tk=>#[I,.bl b,H,I.tok tk,q]
section
variable{X:Cx}{pins:#[x]}{σ:St}{H:Hp}{s:Shared}
theorem Oe(I:#[h])(hN:X.N.Nodup)(hi:X.N[i]?=some x)(hk:X.env.scope.names.lookup x=some .local)(hlk:∀ v,X.lk[i]?≠#[c,some,v])
  (h:∀ s',Inv X pins (σ.set i none) H s'->Q () s'):wpAny M A (do bindName X.env x .none;unbindBehindTheSuite X.env x pos) Q E s:=by
 obtain⟨m,hn,hl⟩:=id I.loc;have hcls:(X.env.scope.kind == .class||(X.env.scope.kind == .module&&X.env.locals != X.env.globals))=false:=by rw[I.ok.kind];rfl
 have hiσ:i<σ.length:=by rw[I.len];exact(zwr.mp hi).1
 have cne:=I.cne;refine wpAny_nameGoes_keeps hk hn hcls fun h' v hn' hs=>?_;obtain⟨oL,_,_,hoL,_⟩:=id hn;have ne0:∀ b o,X.s₀.heap.get? b=#[d]->b≠X.env.locals:=fun b o q=>zxj (zw7 (Heap.lt_size q) I.ok.above);refine h _ ⟨I.ok,I.os,I.bare,⟨fun b o q n hb hx=>(hs.2 b (ne0 b o q)).trans (I.base.keep b o q n hb hx),fun b o q n hb hx=>?_,I.base.free,fun b o q hx=>?_,I.base.tups,I.base.frzs,I.base.tbls⟩,
  ⟨_,hn',fun j y v' e1 e2 e3=>?_⟩,fun y c e=>?_,I.free,I.freeC,fun p hp=>?_,fun b ob e=>?_,by simpa using I.len⟩
 ·obtain⟨sl,e1⟩:=I.base.slot b o q n hb hx;exact⟨sl,(hs.2 b (ne0 b o q)).trans e1⟩
 ·obtain⟨o',e1⟩:=I.base.there b o q hx;exact⟨o',(hs.2 b (ne0 b o q)).trans e1⟩
 ·by_cases hj:j=i
  ·subst hj;rcases e2 with e2|e2
   ·rw[zxt hiσ] at e2;cases e2
   ·exact absurd e2 (hlk _)
  ·have e2':σ[j]?=#[c,some,v']\/X.lk[j]?=#[c,some,v']:=e2.imp_left fun z=>by rw[zxq (Ne.symm hj)] at z;exact z
   obtain⟨u',r',q⟩:=hl j y v' e1 e2' e3;refine⟨u',r',?_⟩;rcases q with ⟨k,e⟩|⟨k,c,e,z⟩
   ·refine .inl ⟨k,?_⟩;have:y≠x:=fun e=>hj (Im hN e1 (e▸hi));simp[this,e]
   ·exact .inr ⟨k,c,e,z.sameBut hs (cne y c e)⟩
 ·obtain⟨w',z⟩:=I.cell y c e;exact⟨w',z.sameBut hs (cne y c e)⟩
 ·obtain⟨e,n,ne,nf,d⟩:=I.pin p hp;exact⟨(hs.2 p.1 ne).trans e,n,ne,nf,d⟩
 ·refine(I.hok b ob e).stay (fun c w' hc q=>(hs.2 c ?_).trans q) (fun _ q=>q) fun _ _ q=>q;rintro rfl;rcases hc with rfl|hc
  ·rw[I.free] at e;cases e
  ·rw[I.free] at hc;cases hc
theorem Inv.track(I:#[h])(n:H a=none)(hch:#[aF,a])
  (hok:∀ H',Y0 X.prog X.w H' s.heap a o):#[G,upd H a o,s]:=by
 have nt:∀ b u,H b=some u->b≠a:=fun b u q z=>by subst z;rw[n] at q;cases q
 have J:=I.stepN (h':=s.heap) (H':=upd H a o) (g':=s.gens) (d':=s.drawn) (t':=s.toks) (ch:=[a]) (fun b hb=>by rw[zwv.mp hb];exact hch) (fun _ _ _ _ _ q _=>q) (fun _ ob _ _ _ q _=>⟨ob.slots,q⟩)
  (fun b _ hb _ q=>by rw[Zi fun z=>hb (by simp[z])];exact q) (fun _ ob _ q=>⟨ob,q⟩) (fun b xs q=>by rw[Zi (nt b _ q)];exact q) (fun b u xs q=>by rw[Zi (nt b _ q)];exact q)
  (fun b ps q=>⟨#[],by rw[Zi (nt b _ q),q];simp⟩) (fun _ q=>q) (fun b u q=>?_) I.bare
 ·exact J
 ·by_cases hb:b=a
  ·subst hb;rw[Zc] at q;cases q;exact hok _
  ·rw[Zi hb] at q;exact(I.hok b u q).stay (fun c v _ z=>z) (fun c z=>by rw[Zi (nt c _ z)];exact z) fun c xs z=>by rw[Zi (nt c _ z)];exact z
end
def fgt:List Nat->St->St
 | [],σ=>σ
 | i :: r,σ=>fgt r (σ.set i none)
theorem I9:∀ (as:List Nat) (σ:St),(fgt as σ).length=σ.length
 | [],_=>rfl
 | i :: r,σ=>by rw[fgt,I9 r,zyg]
theorem Ck:∀ (as:List Nat) {σ:St} {i:Nat} {v:V},(fgt as σ)[i]?=#[c,some,v]->σ[i]?=#[c,some,v]/\i∉as
 | [],_,_,_,h=>⟨h,by simp⟩
 | j :: r,σ,i,v,h=>by
   obtain⟨h1,h2⟩:=Ck r h;by_cases e:i=j
   ·subst e;rw[List.getElem?_set] at h1;simp at h1
   ·rw[zxq (Ne.symm e)] at h1;exact⟨h1,by simp[e,h2]⟩
abbrev Cx.tried(X:Cx)(E:Value->Shared->Prop)(lk:St)(pn:#[x]):Cx:={ X with xe:=E,lk:=lk,pn:=pn }
abbrev Cx.hand(X:Cx)(e:Addr):Cx:={ X with A:=X.A.mark #[b,e],calm:=false,xe:=fun _ _=>False }
section
variable{X:Cx}{pins pins':#[x]}{σ σ' lk:St}{H:Hp}{s:Shared}{E:Value->Shared->Prop}{e:Addr}
theorem Cx.Ok.tried(ok:X.Ok)(E:Value->Shared->Prop)(lk:St)(pn:#[x]):(X.tried E lk pn).Ok :=
 ⟨ok.mod,ok.kind,ok.glob,ok.blt,ok.above,ok.inj,ok.has,ok.cab,ok.hd,ok.frames,ok.stk,ok.exf,ok.bs,ok.bsz,ok.noex,ok.exfs,ok.funs,ok.frf⟩
theorem Cx.Ok.untried{pn:#[x]}(ok:(X.tried E lk pn).Ok):X.Ok :=
 ⟨ok.mod,ok.kind,ok.glob,ok.blt,ok.above,ok.inj,ok.has,ok.cab,ok.hd,ok.frames,ok.stk,ok.exf,ok.bs,ok.bsz,ok.noex,ok.exfs,ok.funs,ok.frf⟩
theorem Cx.Ok.hand(ok:X.Ok)(e:Addr):(X.hand e).Ok :=
 ⟨ok.mod,ok.kind,ok.glob,ok.blt,ok.above,ok.inj,ok.has,ok.cab,fun z=>(nomatch z),ok.frames,ok.stk,ok.exf,ok.bs,ok.bsz,ok.noex,ok.exfs,ok.funs,ok.frf⟩
theorem Inv.tried(I:#[h])(E:Value->Shared->Prop)(hlk:∀ (i:Nat) v,lk[i]?=#[c,some,v]->σ[i]?=#[c,some,v]):Inv (X.tried E lk (X.pn++pins)) [] σ H s:=by
 refine⟨I.ok.tried _ _ _,I.os,I.bare,I.base,?_,I.cell,I.free,I.freeC,fun p hp=>I.pin p (by simpa using hp),I.hok,I.len⟩;obtain⟨m,hn,hl⟩:=I.loc;exact⟨m,hn,fun i x v e1 e2 e3=>hl i x v e1 (.inl (e2.elim id (hlk i v))) e3⟩
theorem Inv.untried(I:Inv (X.tried E lk (X.pn++pins)) pins' σ' H s)(hX:X.lk=[])(hl:lk.length=X.N.length):Inv X pins lk H s:=by
 refine⟨I.ok.untried,I.os,I.bare,I.base,?_,I.cell,I.free,I.freeC,fun p hp=>I.pin p (zxf _ hp),I.hok,hl⟩;obtain⟨m,hn,hl⟩:=I.loc;exact⟨m,hn,fun i x v e1 e2 e3=>hl i x v e1 (.inr (e2.elim id fun z=>by rw[hX] at z;simp at z)) e3⟩
theorem Inv.untriedN(I:Inv (X.tried E lk (X.pn++pins)) [] σ' H s)(hX:X.lk=[]):Inv X pins σ' H s:=by
 refine⟨I.ok.untried,I.os,I.bare,I.base,?_,I.cell,I.free,I.freeC,fun p hp=>I.pin p (by simpa using hp),I.hok,I.len⟩;obtain⟨m,hn,hl⟩:=I.loc;exact⟨m,hn,fun i x v e1 e2 e3=>hl i x v e1 (e2.elim .inl fun z=>by rw[hX] at z;simp at z) e3⟩
theorem Inv.hand(I:#[h])(e:Addr):Inv (X.hand e) pins σ H s:=⟨I.ok.hand e,I.os,I.bare,I.base,I.loc,I.cell,I.free,I.freeC,I.pin,I.hok,I.len⟩
theorem Inv.unhand(ok:X.Ok)(I:Inv (X.hand e) pins σ H s):#[h]:=⟨ok,I.os,I.bare,I.base,I.loc,I.cell,I.free,I.freeC,I.pin,I.hok,I.len⟩
theorem SP.untried(hX:X.lk=[])(h:SP (X.tried E lk (X.pn++pins)) [] D f s'):SP X pins D f s':=by
 cases f with
 | next=>obtain⟨a,b,c,d⟩:=h;exact⟨a,b,c.untriedN hX,d⟩
 | brk=>obtain⟨a,b,c,d⟩:=h;exact⟨a,b,c.untriedN hX,d⟩
 | cont=>obtain⟨a,b,c,d⟩:=h;exact⟨a,b,c.untriedN hX,d⟩
 | ret u=>obtain⟨v,a,b,c,r,d⟩:=h;exact⟨v,a,b,c.untriedN hX,r,d⟩
end
structure zkk(X:Cx):Prop where
 ex:X.ex=[]
 lk:X.lk=[]
 st:X.stack=X.env :: X.outer
 fr:X.env.frame=some X.env.locals
theorem zec{CX:CXT}{P:Program}{w:World}{K:Frag}{mg:#[V]}{base:Heap}{N:#[B]}{qual:Str}{scope:Scope}{f:Addr}{cd:Value}{A:Around}{outer:List Env}{s0:Shared}{H0:Hp}{E:XK} :
  zkk (cxOf CX P w K mg base N qual scope f cd A outer s0 H0 E):=⟨rfl,rfl,rfl,rfl⟩
section
variable{X:Cx}{pins:#[x]}{σ:St}{H:Hp}{s:Shared}{E:Value->Shared->Prop}
theorem zm4(B:zkk X)(hlk:lk.length=X.N.length)
  (I:Inv (X.tried E' lk (X.pn++pins)) pins' σ' H1 s1) (h:CX1 X.prog X.w X.stack H1 s1 EX ev s2)
  (k:∀ a T cls H2 s3,ev=.ref a->EX cls none H2->Inv X pins lk H2 s3->Fly s1.heap H2 s3.heap a T cls->(#[aF,a]) ->
   ((T∈X.ex\/X.s₀.heap.get? T=none)/\T≠X.env.locals/\(∀ x c,#[W,x]=some c->c≠T)/\∀ p∈X.pn++pins,p.1≠T) ->
   wpAny (model X.prog X.w) X.A (handleBy (.ref a) X.env hs) Q E s3) :
  wpAny (model X.prog X.w) X.A (noteFrame ev X.env) (fun _ s₂=>#[ab,X.A,setFlight ev none,fun _ s₃=>#[ab,X.A,handleBy ev X.env hs,Q,E,s₃],E,s₂]) E s2:=by
 obtain⟨a,T,cls,H2,q0,ho,hg,u,hok,F,hE⟩:=h;subst q0;have J:=I.raised ho hg u hok;obtain⟨a0,hfl⟩:=F.flying J J.stack fun _ z=>z;have hfl':Heap.FlyingW (PySem.W.hideAll s2.heap ([a,T]++frs X.stack)) (X.env :: X.outer) a cls a0 s2.heap:=by rw[<- B.st];exact hfl
 refine wpAny_looks_onW (base:=PySem.W.hideAll s2.heap ([a,T]++frs X.stack)) (by rw[J.ok.frames];exact congrArg some B.st) B.fr hfl' fun h3 held up1=>?_;refine wpAny_landsW held fun h4 hfl4 up2=>?_;have up:s2.heap.UpToSlots h4:=up1.trans up2;have t:=Tn.of (as:=[a,T]) J hfl4.1 up;have frE:∀ b∈[a,T],H2 b=none:=by
  intro b hb;rcases zwu.mp hb with rfl|hb
  ·exact F.freeE
  ·rcases zwu.mp hb with rfl|hb
   ·exact F.freeT
   ·cases hb
 have rcs:∀ b∈[a,T],(b∈X.ex\/X.s₀.heap.get? b=none)/\b≠X.env.locals/\(∀ x c,X.env.cells.lookup x=some c->c≠b)/\∀ p∈(X.pn++pins)++pins',p.1≠b:=by
  intro b hb;rcases zwu.mp hb with rfl|hb
  ·exact I.newRec B.ex F.newE
  ·rcases zwu.mp hb with rfl|hb
   ·exact I.newRec B.ex F.newT
   ·cases hb
 have J4:Inv (X.tried E' lk (X.pn++pins)) pins' σ' H2 { s2 with heap:=h4 }:=J.callN' (s':={ s2 with heap:=h4 }) (ch:=[a,T]) rfl (t.un J frE) (t.hok J frE) J.bare rcs;have old:∀ b,s2.heap.get? b=none->s1.heap.get? b=none:=fun b n=>by
  cases q:s1.heap.get? b with
  | none=>rfl
  | some o =>
    obtain⟨_,z⟩:=u.there b o q (by simp);rw[n] at z;cases z
 obtain⟨T',F'⟩:=F.again J old up hfl4.1 hfl4.2.2.2;have sub:∀ {b:Addr},((b∈X.ex\/X.s₀.heap.get? b=none)/\b≠X.env.locals/\(∀ x c,X.env.cells.lookup x=some c->c≠b)/\∀ p∈(X.pn++pins)++pins',p.1≠b) ->
   (b∈X.ex\/X.s₀.heap.get? b=none)/\b≠X.env.locals/\(∀ x c,#[W,x]=some c->c≠b)/\∀ p∈X.pn++pins,p.1≠b:=fun z=>⟨z.1,z.2.1,z.2.2.1,fun p hp=>z.2.2.2 p (zxf _ hp)⟩
 exact k a T' cls H2 _ rfl hE (J4.untried B.lk hlk) F' (sub (rcs a (by simp))) (sub (I.newRec B.ex F'.newT))
theorem zgh(I:#[h])(F:Fly g H s.heap a T cls)(hg:∀ b,#[O,b]=none->g.get? b=none)
  (ha:#[aF,a])
  (hT:(T∈X.ex\/X.s₀.heap.get? T=none)/\T≠X.env.locals/\(∀ x c,X.env.cells.lookup x=some c->c≠T)/\∀ p∈X.pn++pins,p.1≠T)
  (k:∀ s',#[G,H,s']->(∃ T',Fly g H s'.heap a T' cls)->Q () s'):#[ab,A,setFlight (.ref a) none,Q,E,s]:=by
 obtain⟨a0,hfl⟩:=F.flying I I.stack fun _ z=>z;refine lands_againW hfl fun h4 hfl4 up=>?_;have t:=Tn.of (as:=[a,T]) I hfl4.1 up;have frE:∀ b∈[a,T],H b=none:=by
  intro b hb;rcases zwu.mp hb with rfl|hb
  ·exact F.freeE
  ·rcases zwu.mp hb with rfl|hb
   ·exact F.freeT
   ·cases hb
 have J4:#[G,H,{ s with heap:=h4 }]:=I.callN' (s':={ s with heap:=h4 }) (ch:=[a,T]) rfl (t.un I frE) (t.hok I frE) I.bare fun b hb=>by
  rcases zwu.mp hb with rfl|hb
  ·exact ha
  ·rcases zwu.mp hb with rfl|hb
   ·exact hT
   ·cases hb
 exact k _ J4 (F.again I hg up hfl4.1 hfl4.2.2.2)
end
def xAs(K:Frag)(as:List Nat)(i:Nat)(CB:Addr)(th:TS)(D:Q7)(σ:St):XK:=fun cls _ H'=>∃ C,cls=.ref C/\PySem.W.mroIn K C (.ref CB)=some true /\
 ∀ a,H' a=none->th { nx:=fun σ' H''=>D.nx (σ'.set i none) H'',rt:=D.rt,bk:=fun σ' H''=>D.bk (σ'.set i none) H'',ct:=fun σ' H''=>D.ct (σ'.set i none) H'' } ((fgt as σ).set i #[b,a]) (upd H' a (excO a cls))
def zkl(K:Frag)(as:List Nat)(i:Nat)(CB:Addr)(tb:XK->TS)(th:TS):TS:=fun D σ H=>tb (xAs K as i CB th D σ) D σ H
section
variable{X:Cx}{as:List Nat}{i:Nat}{CB:Addr}{tb:XK->TS}{th:TS}{body suite:List Stmt}{b₀:Stmt}{n cx:Str}{p hpos pos:Pos}
theorem zgi(B:zkk X)(hN:X.N.Nodup)(hi:X.N[i]?=some n)(hk:X.env.scope.names.lookup n=some .local)(c:zgd X.K CB)(hg:Gl X cx)(hm:X.mg cx=#[c,.ref,CB])
  (hb:∀ (E':Value->Shared->Prop) (lk:St) (pn:List (Addr×Obj)) (EX:XK),(∀ j∈as,∀ v,lk[j]?≠some (some v))->PassesOwn (model X.prog X.w) X.A X.env E'->W0 (CX1 X.prog X.w) (X.tried E' lk pn) EX->PSs (X.tried E' lk pn) body (tb EX))
  (hh:∀ a,PSs (X.hand a) (b₀ :: suite) th) (hd:(cx == ("__debug__":Str))=false:=by decide) :
  PS X (.Try body [.ExceptHandler (some (.Name cx p)) (some n) (b₀ :: suite) hpos] [] [] pos) (zkl X.K as i CB tb th):=by
 intro pins s σ H D I h;refine wpAny_Try_except ?_;have lkl:(fgt as σ).length=X.N.length:=by rw[I9];exact I.len
 have I':=I.tried (lk:=fgt as σ) (fun ev s₁=>#[ab,X.A,noteFrame ev X.env,(fun _ s₂=>wpAny (model X.prog X.w) X.A (setFlight ev none)
  (fun _ s₃=>#[ab,X.A,handleBy ev X.env [.ExceptHandler (some (.Name cx p)) (some n) (b₀ :: suite) hpos],SP X pins D,X.xe,s₃]) X.xe s₂),X.xe,s₁]) fun i v z=>(Ck as z).1
 refine wpAny_mono (hb _ _ _ (xAs X.K as i CB th D σ) (fun j hj v z=>(Ck as z).2 hj) PassesOwn.looking (fun pins' σ' H1 s1 ev s2 J hcx=>?_) [] s σ H D I' h) (fun f s1 h1=>?_) fun _ _ z=>z
 ·refine zm4 B lkl J hcx fun a T cls H2 s3 _ hE J3 F ha hT=>?_;obtain⟨C,rfl,hmro,hth⟩:=hE;obtain⟨oe,vs,oT,ts,e1,e2,e3,_⟩:=F.ex;refine wpAny_handleBy_cons (codeAny_handlers_test (Oc (X:=X.hand a) (J3.hand a) hg hm (B9 J3.kIn c e1 e2 hmro ?_) hd)) (by intro q;cases q);refine codeAny_handlers_suite_as ?_;have F0:Fly (Att.noObjs s3.heap) H2 s3.heap a T (.ref C):=⟨F.ex,Att.noObjs_get _ _,Att.noObjs_get _ _,F.freeE,F.freeT⟩;refine zgh J3 F0 (fun b _=>Att.noObjs_get _ _) ha hT fun s4 J4 ⟨T',F4⟩=>?_;obtain⟨oe,vs,oT,ts,e1,e2,e3,_⟩:=F4.ex;have J5:Inv X pins (fgt as σ) (upd H2 a (excO a (.ref C))) s4:=J4.track F4.freeE ha fun H'=>⟨⟨oe,vs,e1,e2,e3⟩,⟨oe,e1⟩,fun h1 h2 ⟨o,vs,z1,z2,z3⟩ k=>⟨o,vs,k o z1,z2,z3⟩⟩
  refine Io (X:=X.hand a) (J5.hand a) hN hi (.inl hk) (v:=.ref a) (show RelV (.ref a) (.ref a) from rfl) (fun s5 J6=>?_) ⟨.inr hk,fun v z=>by rw[show (X.hand a).lk=[] from B.lk] at z;exact Wb v z⟩;refine wpAny_mono (hh a pins s5 _ _ _ J6 (hth a F.freeE)) (fun f s6 h6=>?_) fun _ _ z=>z.elim;have lk0:∀ v,X.lk[i]?≠#[c,some,v]:=fun v z=>by rw[B.lk] at z;exact Wb v z
  cases f with
  | next=>obtain⟨σ6,H6,J7,d⟩:=h6;exact Oe (J7.unhand I.ok) hN hi hk lk0 fun s7 J8=>⟨_,H6,J8,d⟩
  | brk=>obtain⟨σ6,H6,J7,d⟩:=h6;exact Oe (J7.unhand I.ok) hN hi hk lk0 fun s7 J8=>⟨_,H6,J8,d⟩
  | cont=>obtain⟨σ6,H6,J7,d⟩:=h6;exact Oe (J7.unhand I.ok) hN hi hk lk0 fun s7 J8=>⟨_,H6,J8,d⟩
  | ret u=>obtain⟨v,σ6,H6,J7,r,d⟩:=h6;exact Oe (J7.unhand I.ok) hN hi hk lk0 fun s7 J8=>⟨v,_,H6,J8,r,d⟩
 ·have h2:=SP.untried B.lk h1;cases f with
  | next=>exact wpAny_execs_nil h2
  | brk=>exact h2
  | cont=>exact h2
  | ret u=>exact h2
end
section
variable{P:Program}{w:World}{K:Frag}{mg:#[V]}{base:Heap}
theorem Fun.okX{x qual:Str}{st:Stmt}{f:Addr}{fd:FuncData}{N ps:#[B]}{k:Nat}{sp:Sp}(F:#[k,x,qual,st])(S:#[r,N,ps,st])(len:∀ vs H Q E,sp vs H Q E->vs.length=ps.length)
  (hbody:∀ (cdv:Value) (A:Around) (outer:List Env) (s:Shared) (H:Hp) (vs:#[a]) (Q:VK) (E:XK),W9 k (A.deeper (envOfC qual (Zk st) s.heap.objs.size f cdv))->sp vs H Q E ->
   ∃ t,PSs (cxOf #[i] P w K mg base N qual (Zk st) f cdv A outer s H E) (Zv st) t/\t { nx:=fun _ H'=>Q .non H',rt:=Q } (Ku N vs) H):FnOk P w K mg base #[i] (k+1) f fd ps sp:=by
 obtain⟨oc,od,kV,doc,pm,an,cdv,ct,osl,rfl,lk,hcd⟩:=F.ex;exact zlw lk hcd S len fun A outer s H vs Q E hr hsp=>hbody cdv A outer s H vs Q E hr hsp
end
def Fu{α:Type}(p:α->Prop):List α->Prop
 | []=>True
 | a :: r=>p a/\Fu p r
theorem Fu.get:∀ {l:List α} {a:α},Fu p l->a∈l->p a
 | _ :: _,_,h,.head _=>h.1
 | _ :: _,_,h,.tail _ m=>Fu.get h.2 m
def Y3(X:Cx)(pn:#[x])(Nc:#[B])(scope:Scope)(cl:List (Str×Addr))(s₀:Shared)(H₀:Hp)(fp:#[z])(C:Addr):Cx :=
 { X with N:=Nc,s₀:=s₀,H₀:=H₀,env:=compEnvC scope cl C X.env,outer:=X.stack,stack:=X.stack,ex:=fp,fn:=fun _=>false,pn:=pn,xe:=fun _ _=>False,lk:=[] }
def cs(js:List Nat)(σ:St)(x:V):St:=some x :: js.map fun j=>(σ[j]?).getD none
def PTs(X:Cx)(ifs:List Expr)(t:TT):Prop :=
 ∀ (pins:#[x]) (s:Shared) (σ:St) (H:Hp) (Q:Bool->Hp->Prop),#[h]->t σ H Q ->
   wpAny (model X.prog X.w) X.A (forIn ifs true fun c r=>if r=true then do let ok <- isTrue c X.env #[D,c];pure (ForInStep.yield ok) else pure (ForInStep.yield r)) (TP X pins σ Q) X.xe s
def tYes:TT:=fun _ H Q=>Q true H
theorem Vc:PTs X [] tYes:=fun _ _ _ H _ I h=>wpAny_tests_nil ⟨H,I,h⟩
theorem R8(h:PT X c t):PTs X [c] t:=fun pins s σ H Q I q=>wpAny_tests_one (h pins s σ H Q I q)
def Aa(J:It)(js:List Nat)(tt:TT)(te:TE)(σ:St)(H:Hp)(Q:VK):Prop:=∃ W:Nat->Nat->#[a]->Hp->Prop,(∃ m,W 0 m [] H)/\∀ i m ys H,W i m ys H ->
 (J.stop i H/\ys.length<=sizeLine/\∀ p,H p=none->Q (.ref p) (upd H p (.lst ys))) \/
 (J.go i H/\ys.length<sizeLine/\∃ N:#[a]->Hp->Prop,(∀ ys' H',N ys' H'->∃ m',m' < m/\W (i+1) m' ys' H')/\∀ x H',J.yld i H x H'->tt (cs js σ x) H' fun b H2=>if b=true then te (cs js σ x) H2 fun y H3=>N (ys++[y]) H3 else N ys H2)
def zcx(wi:TI)(js:List Nat)(tt:TT)(te:TE):TE:=fun σ H Q=>wi σ H fun J H1=>Aa J js tt te σ H1 Q
section
variable{X:Cx}{elt iter:Expr}{x:Str}{px pos:Pos}{ifs:List Expr}{scope:Scope}{cl:List (Str×Addr)}{ys:#[B]}{js:List Nat}
structure zcy(X:Cx)(x:Str)(scope:Scope)(cl:List (Str×Addr))(ys:#[B])(js:List Nat):Prop where
 clos:closureFor scope X.env=pure cl
 kind:scope.kind=.function
 names:∀ y∈scope.names,y.2=.local->scope.names.lookup y.1=some .local
 nocell:∀ y∈scope.names,y.2≠.cell
 own:scope.names.lookup x=some .local
 nd:(x :: ys).Nodup
 at_:js.map (X.N[·]?)=ys.map some
 free:Fu (fun y=>X.env.kindOf y=some .cell/\(relabel scope X.env).names.lookup y=some .cell/\cl.lookup y=#[W,y]) ys
 only:Fu (fun p=>#[W,p.1]=some p.2) cl
 vis:∀ y∈scope.names,y.2=.free->y.1∈ys
theorem Md{env:Env}:∀ {names:List (Str×NameKind)} {y:Str},(names.map fun (n,k)=>if (k == NameKind.free&&env.scope.kind == .function&&env.kindOf n == some .cell) then (n,NameKind.cell) else (n,k)).lookup y=some .cell \/
  (names.map fun (n,k)=>if (k == NameKind.free&&env.scope.kind == .function&&env.kindOf n == some .cell) then (n,NameKind.cell) else (n,k)).lookup y=some .free->∃ k,(y,k)∈names/\(k=.cell\/k=.free)
 | [],_,h=>by rcases h with h|h<;>simp at h
 | (n,k) :: r,y,h=>by
   by_cases hx:y=n
   ·subst hx;refine⟨k,zxl,?_⟩;rw[zw3] at h;dsimp only at h;by_cases hc:(k == NameKind.free&&env.scope.kind == .function&&env.kindOf y == some .cell)=true
    ·simp only[zx3,beq_iff_eq] at hc;exact .inr hc.1.1
    ·rw[#[g,hc]] at h;simp only[zxr,beq_self_eq_true] at h;rcases h with h|h
     ·exact .inl (Option.some.inj h)
     ·exact .inr (Option.some.inj h)
   ·have hb:(y == n)=false:=zxg.mpr hx;have ih:=@Md env r y;rw[zw3] at h;have key:∀ z:Str×NameKind,z.1=n->List.lookup y (z :: (r.map fun (n,k)=>if (k == NameKind.free&&env.scope.kind == .function&&env.kindOf n == some .cell) then (n,NameKind.cell) else (n,k))) =
      List.lookup y (r.map fun (n,k)=>if (k == NameKind.free&&env.scope.kind == .function&&env.kindOf n == some .cell) then (n,NameKind.cell) else (n,k)):=fun z hz=>by
     obtain⟨z1,z2⟩:=z;cases hz;simp only[zxr,hb]
    rw[key _ (by dsimp only;split<;>rfl)] at h;obtain⟨k',m,q⟩:=ih h;exact⟨k',zxa _ m,q⟩
variable{wi:TI}{tt:TT}{te:TE}
end
theorem Xp{K:Frag}{js:List Nat}{tt:TT}{te:TE}{a:Addr}{xs:#[a]}{σ:St}{H:Hp}{Q:VK}(Pv:Nat->#[a]->Hp->Prop)(h0:Pv 0 [] H)(hl:∀ i ys H,i<=xs.length->Pv i ys H->SqL K H a xs)(hz:xs.length<=sizeLine)
  (hy:∀ i ys H,Pv i ys H->ys.length<=i)
  (hs:∀ i x ys H,xs[i]?=some x->Pv i ys H->tt (cs js σ x) H fun b H2=>if b=true then te (cs js σ x) H2 fun y H3=>Pv (i+1) (ys++[y]) H3 else Pv (i+1) ys H2)
  (hd:∀ ys H,Pv xs.length ys H->∀ p,H p=none->Q (.ref p) (upd H p (.lst ys))):Aa (Itl K a) js tt te σ H Q:=by
 refine⟨fun i m ys H=>m=xs.length-i/\i<=xs.length/\Pv i ys H,⟨xs.length,by simp,zxk _,h0⟩,?_⟩;rintro i m ys H ⟨rfl,hi,p⟩;have q:=hl i ys H hi p;have ly:=hy i ys H p;by_cases hlt:i<xs.length
 ·refine .inr ⟨⟨xs,xs[i],q,by simp[hlt]⟩,by omega,Pv (i+1),fun ys' H' p'=>⟨xs.length-(i+1),by omega,rfl,hlt,p'⟩,fun x H' y=>?_⟩;obtain⟨e,y⟩:=y;subst e;exact hs i x ys _ (y xs q) p
 ·have e:i=xs.length:=by omega
  subst e;exact .inl ⟨⟨xs,q,zwz _⟩,by omega,hd ys H p⟩
theorem He{js:List Nat}{tt:TT}{te:TE}{lo:Int}{n:Nat}{σ:St}{H:Hp}{Q:VK}(Pv:Nat->#[a]->Hp->Prop)(h0:Pv 0 [] H)(hz:n<=sizeLine)(hy:∀ i ys H,Pv i ys H->ys.length<=i)
  (hs:∀ i ys H,i<n->Pv i ys H->tt (cs js σ (.int (lo+i))) H fun b H2=>if b=true then te (cs js σ (.int (lo+i))) H2 fun y H3=>Pv (i+1) (ys++[y]) H3 else Pv (i+1) ys H2)
  (hd:∀ ys H,Pv n ys H->∀ p,H p=none->Q (.ref p) (upd H p (.lst ys))):Aa (Itr lo n) js tt te σ H Q:=by
 refine⟨fun i m ys H=>m=n-i/\i<=n/\Pv i ys H,⟨n,by simp,zxk _,h0⟩,?_⟩;rintro i m ys H ⟨rfl,hi,p⟩;have ly:=hy i ys H p;by_cases hlt:i<n
 ·refine .inr ⟨hlt,by omega,Pv (i+1),fun ys' H' p'=>⟨n-(i+1),by omega,rfl,hlt,p'⟩,fun x H' y=>?_⟩;obtain⟨e,y⟩:=y;subst e y;exact hs i ys _ hlt p
 ·have e:i=n:=by omega
  subst e;exact .inl ⟨zwz _,by omega,hd ys H p⟩
theorem Df{js:List Nat}{te:TE}{lo:Int}{n:Nat}{σ:St}{H:Hp}{Q:VK}(f:Nat->V)(hz:n<=sizeLine)
  (hs:∀ i (R:VK),i<n->R (f i) H->te (cs js σ (.int (lo+i))) H R) (hd:∀ p,H p=none->Q (.ref p) (upd H p (.lst ((List.range n).map f)))):Aa (Itr lo n) js tYes te σ H Q:=by
 refine He (fun i ys H'=>H'=H/\ys=(List.range i).map f) #[C,rfl] hz (fun i ys H' ⟨_,e⟩=>by rw[e,zwq,zxs];exact zwz _) (fun i ys H' hi ⟨e1,e2⟩=>?_) fun ys H' ⟨e1,e2⟩ p hp=>?_
 ·subst e1;unfold tYes;dsimp only;rw[#[l,rfl]];refine hs i _ hi ⟨rfl,?_⟩;rw[e2,List.range_succ,zww];rfl
 ·subst e1;rw[e2];exact hd p hp
theorem Kw:∀ {xs:List V} {us:List Value},xs.length=us.length->(∀ (j:Nat) x u,xs[j]?=some x->us[j]?=some u->RelV x u)->Vals xs us
 | [],[],_,_=>.nil
 | x :: xs,u :: us,hl,h=>.cons (h 0 x u rfl rfl) (Kw (by simpa using hl) fun j x' u' h1 h2=>h (j+1) x' u' (by simpa using h1) (by simpa using h2))
abbrev TF:=St->Hp->(Hp->Prop)->Prop
def PF(X:Cx)(e:Expr)(t:TF):Prop :=
 ∀ (pins:#[x]) (s:Shared) (σ:St) (H:Hp) (k:Hp->Prop),#[h]->t σ H k ->
   wpAny (model X.prog X.w) X.A (eval e X.env) (fun u s'=>∃ y tk H',u=.str y tk/\y.length<=10000/\#[G,H',s']/\k H') X.xe s
def PFs(X:Cx)(es:List Expr)(t:TF):Prop :=
 ∀ (pins:#[x]) (s:Shared) (σ:St) (H:Hp) (k:Hp->Prop) (acc:Str),#[h]->acc.length+10000*es.length<=sizeLine->t σ H k ->
   Joins (model X.prog X.w) X.A X.xe (evalEach es X.env) acc (fun out s'=>out.length<=sizeLine/\∃ H',#[G,H',s']/\k H') s
def zl8:TF:=fun _ H k=>k H
def zl9(t u:TF):TF:=fun σ H k=>t σ H fun H1=>u σ H1 k
def okF(v:V):Prop:=(∃ i,v=.int i/\i.natAbs.log2<1920)\/∃ y,v=.str y/\y.length<=10000
def zm5(te:TE):TF:=fun σ H k=>te σ H fun v H1=>okF v/\k H1
def zma(t:TF):TE:=fun σ H Q=>t σ H fun H1=>∀ z,Q (.str z) H1
section
variable{X:Cx}{e:Expr}{es:List Expr}{te:TE}{t u:TF}{pos:Pos}
theorem Xw{j}(h:x.length<=10000):PF X (.Constant (.str x) j pos) zl8:=fun _ _ _ H _ I hk=>Calls.Constant_str ⟨x,_,H,rfl,h,I.tok _,hk⟩
theorem W3(he:PE X e te):PF X (.FormattedValue e (-1) none pos) (zm5 te):=by
 intro pins s σ H k I h;refine FormattedValue_plain (thn (he pins s σ H _ I h) fun v s1 ⟨x,H1,I1,r1,ok,hk⟩=>?_);rcases ok with ⟨i,rfl,hi⟩|⟨y,rfl,hy⟩
 ·obtain⟨t,rfl⟩:=r1;refine formatField_int_small hi ⟨_,_,H1,rfl,?_,I1.tok _,hk⟩;have:=int_text_length_le (k:=1920) ⋯ hi;show (Str.ofString (toString i)).length<=10000;rw[PySem.ofString_length];omega
 ·obtain⟨t,rfl⟩:=r1;exact formatField_str (fun t' tk=>⟨y,t',H1,rfl,hy,I1.tok tk,hk⟩) (by rw[sizeLine_eq];omega)
theorem Vd:PFs X [] zl8:=fun _ _ _ H _ _ I hz hk=>⟨by simpa using hz,H,I,hk⟩
theorem Z4(h1:PF X e t)(h2:PFs X es u)(hs:evalEach (e :: es) X.env=#[D,e] :: evalEach es X.env:=by rfl):PFs X (e :: es) (zl9 t u):=by
 intro pins s σ H k acc I hz h;rw[hs];refine thn (h1 pins s σ H _ I h) fun v s1 ⟨y,tk,H1,e1,hy,I1,hk⟩=>⟨y,tk,e1,?_,?_⟩
 ·rw[strLen_append];rw[zxb] at hz;omega
 ·exact h2 pins s1 σ H1 k _ I1 (by rw[strLen_append];rw[zxb] at hz;omega) hk
theorem Ve(h:PFs X (e :: e' :: es) t)(hl:es.length<=100):PE X (.JoinedStr (e :: e' :: es) pos) (zma t):=by
 intro pins s σ H Q I h';refine wpAny_JoinedStr ?_;have q:=h pins s σ H _ Str.empty I (by rw[sizeLine_eq];simp only[zxb];have:Str.empty.length=0:=rfl;omega) h';have mono:∀ (ps:List (Sem Value)) (acc:Str) (Q1 Q2:Str->Shared->Prop) (s:Shared),(∀ o s,Q1 o s->Q2 o s)->Joins (model X.prog X.w) X.A X.xe ps acc Q1 s->Joins (model X.prog X.w) X.A X.xe ps acc Q2 s:=by
  intro ps
  induction ps with
  | nil=>intro acc Q1 Q2 s m z;exact m _ _ z
  | cons p r ih=>intro acc Q1 Q2 s m z;exact thn z fun v s1 ⟨y,tk,e1,hz,z1⟩=>⟨y,tk,e1,hz,ih _ _ _ _ m z1⟩
 refine mono _ _ _ _ _ (fun out s1 ⟨hz,H1,I1,hk⟩=>⟨hz,.str out,H1,I1.tok _,#[C,_],hk out⟩) q
end
section
variable{X:Cx}
theorem zbn(hc:X.calm=true):W8 X (.type "list") (fun xs H Q=>∃ a kvs,xs=[.ref a]/\Rd H a (.dK kvs)/\∀ l,H l=none->Q (.ref l) (upd H l (.lst (kvs.map fun kv=>kV kv.1)))):=by
 intro pins s σ H xs us Q I r h;obtain⟨a,kvs,rfl,ha,q⟩:=h;obtain⟨u,rfl,ru⟩:=Rm r;cases (show u=Value.ref a from ru);obtain⟨hz,lo,vs,kv,o,es,ep,e1,e2⟩:=Qr I.hok ha;have hl:kvs.length=vs.length:=KV.length kv;refine PySem.W.kdl_call (PySem.W.kdl_dict (knd:=Yn X.prog X.w) (kvs:=vs) (ep:=ep) lo) (I.ok.hd hc) ⟨o,es,e1,e2⟩ (by rw[<- hl];exact hz) fun h' tk acc c hk hS hacc=>?_;have hf:H s.heap.objs.size=none:=I.hok.fresh (zwz _);refine#[I,.ref s.heap.objs.size,upd H s.heap.objs.size (.lst (kvs.map fun kv=>kV kv.1)),I.laid (t':=tk) hk (zwz _) ?_,q _ hf];obtain⟨accl⟩:=acc;refine⟨by rw[zwq];exact hz,accl,c,?_,hS⟩;have hlen:accl.length=vs.length:=by have:=hacc.1;simpa using this
 refine Kw (by rw[zwq,hl,hlen]) fun j x u hx hu=>?_;obtain⟨k,y,hk1,hk2⟩:=hacc.2 j u (by simpa using hu);have ek:=congrArg (·[j]?) (KV.keys kv);simp only[zwx,hk1,zxy] at ek;rw[zwx] at hx;cases hkv:kvs[j]? with
 | none=>rw[hkv] at hx;cases hx
 | some p =>
   rw[hkv] at hx ek;have e1:kV p.1=x:=#[aj,hx];have e2:p.1=k:=#[aj,ek];rw[<- e1,e2];rcases Yw hk2 with ⟨i,t,rfl,rfl⟩|⟨z,t,rfl,rfl⟩
   ·exact#[C,t]
   ·exact#[C,t]
end
inductive Dt where
 | non|bl (b:Bool)|int (i:Int)|str (x:Str)|lst (xs:List Dt)|tup (xs:List Dt)
mutual
inductive Is(K:Frag)(H:Hp):V->Dt->Prop where
 | non:Is K H .non .non
 | bl (b:Bool):Is K H (.bl b) (.bl b)
 | int (i:Int):Is K H (.int i) (.int i)
 | str (x:Str):Is K H (.str x) (.str x)
 | lst {a:Addr} {xs:#[a]} {ds:List Dt} (h:SqL K H a xs) (hs:Rt K H xs ds):Is K H (.ref a) (.lst ds)
 | tup {a:Addr} {xs:#[a]} {ds:List Dt} (h:SqT K H a xs) (hs:Rt K H xs ds):Is K H (.ref a) (.tup ds)
inductive Rt(K:Frag)(H:Hp):#[a]->List Dt->Prop where
 | nil:Rt K H [] []
 | cons {x:V} {xs:#[a]} {d:Dt} {ds:List Dt} (h:Is K H x d) (t:Rt K H xs ds):Rt K H (x :: xs) (d :: ds)
end
mutual
def eqD:Dt->Dt->Bool
 | .non,.non=>true
 | .bl a,.bl b=>a == b
 | .bl a,.int b=>(if a then 1 else 0) == b
 | .int a,.bl b=>a == (if b then 1 else 0)
 | .int a,.int b=>a == b
 | .str a,.str b=>a == b
 | .lst xs,.lst ys=>Om xs ys
 | .tup xs,.tup ys=>Om xs ys
 | _,_=>false
def Om:List Dt->List Dt->Bool
 | [],[]=>true
 | x :: xs,y :: ys=>eqD x y&&Om xs ys
 | _,_=>false
end
mutual
theorem Ab:∀ d:Dt,eqD d d=true
 | .non=>by simp[eqD]
 | .bl _=>by simp[eqD]
 | .int _=>by simp[eqD]
 | .str _=>by simp[eqD]
 | .lst xs=>by rw[eqD];exact Ll xs
 | .tup xs=>by rw[eqD];exact Ll xs
theorem Ll:∀ ds:List Dt,Om ds ds=true
 | []=>by simp[Om]
 | d :: ds=>by rw[Om,Ab d,Ll ds];rfl
end
section
variable{X:Cx}{pins:#[x]}{σ:St}{H:Hp}{s:Shared}
mutual
def toPy:Dt->PyData
 | .non=>.none
 | .bl b=>.bool b
 | .int i=>.int i
 | .str x=>.str x
 | .lst xs=>.list (X9 xs)
 | .tup xs=>.tuple (X9 xs)
def X9:List Dt->List PyData
 | []=>[]
 | d :: ds=>toPy d :: X9 ds
end
mutual
theorem Me:∀ d e:Dt,PyData.eqv (toPy d) (toPy e)=eqD d e
 | .non,e=>by cases e<;>simp[toPy,eqD,PyData.eqv]
 | .bl _,e=>by cases e<;>simp[toPy,eqD,PyData.eqv]
 | .int _,e=>by cases e<;>simp[toPy,eqD,PyData.eqv]
 | .str _,e=>by cases e<;>simp[toPy,eqD,PyData.eqv]
 | .lst xs,.lst ys=>by rw[toPy,toPy,PyData.eqv,eqD];exact Ln xs ys
 | .tup xs,.tup ys=>by rw[toPy,toPy,PyData.eqv,eqD];exact Ln xs ys
 | .lst _,.non=>by simp[toPy,eqD,PyData.eqv]
 | .lst _,.bl _=>by simp[toPy,eqD,PyData.eqv]
 | .lst _,.int _=>by simp[toPy,eqD,PyData.eqv]
 | .lst _,.str _=>by simp[toPy,eqD,PyData.eqv]
 | .lst _,.tup _=>by simp[toPy,eqD,PyData.eqv]
 | .tup _,.non=>by simp[toPy,eqD,PyData.eqv]
 | .tup _,.bl _=>by simp[toPy,eqD,PyData.eqv]
 | .tup _,.int _=>by simp[toPy,eqD,PyData.eqv]
 | .tup _,.str _=>by simp[toPy,eqD,PyData.eqv]
 | .tup _,.lst _=>by simp[toPy,eqD,PyData.eqv]
theorem Ln:∀ ds es:List Dt,PyData.eqvAll (X9 ds) (X9 es)=Om ds es
 | [],[]=>by simp[X9,Om,PyData.eqvAll]
 | [],_ :: _=>by simp[X9,Om,PyData.eqvAll]
 | _ :: _,[]=>by simp[X9,Om,PyData.eqvAll]
 | d :: ds,e :: es=>by rw[X9,X9,PyData.eqvAll,Om,Me d e,Ln ds es]
end
mutual
theorem Is.reads(I:#[h]):∀ {d:Dt} {x:V} {u:Value},Is X.K H x d->RelV x u->∃ as,Reads s.heap u (toPy d) as
 | _,_,_,.non,r=>by cases r;exact⟨_,.none⟩
 | _,_,_,.bl b,r=>by cases r;exact⟨_,.bool b⟩
 | _,_,_,.int i,r=>by obtain⟨t,rfl⟩:=r;exact⟨_,.int i t⟩
 | _,_,_,.str i,r=>by obtain⟨t,rfl⟩:=r;exact⟨_,.str i t⟩
 | _,_,_,.lst h hs,r=>by
   cases r;obtain⟨its,r1,⟨o,n',e1,e2,e3,e4⟩,_⟩:=I.list h;obtain⟨as,q⟩:=Rt.reads I hs r1;rw[toPy];exact⟨_,.list e1 e2 e4 (by simpa using q)⟩
 | _,_,_,.tup h hs,r=>by
   cases r;obtain⟨its,r1,⟨o,e1,e2,n',e4⟩,_⟩:=I.tuple h;obtain⟨as,q⟩:=Rt.reads I hs r1;rw[toPy];exact⟨_,.tuple e1 e2 e4 (by simpa using q)⟩
theorem Rt.reads(I:#[h]):∀ {ds:List Dt} {xs:List V} {us:List Value},Rt X.K H xs ds->Vals xs us->∃ as,ReadsAll s.heap us (X9 ds) as
 | _,_,_,.nil,r=>by cases r;exact⟨_,.nil⟩
 | _,_,_,.cons h t,r=>by
   cases r with
   | cons r1 r2 =>
     obtain⟨as,q1⟩:=Is.reads I h r1;obtain⟨bs,q2⟩:=Rt.reads I t r2;exact⟨_,.cons q1 q2⟩
end
def shD(d:Dt):Prop:=SeqAt.shaped (toPy d)=true
inductive zgj(K:Frag)(neg:Bool)(x:V)(y:V)(H:Hp)(Q:VK):Prop where
 | mk(d)(e)(_:Is K H x d)(_:Is K H y e)(_:shD d)(_:shD e)(_:Q (.bl (if neg then !eqD d e else eqD d e)) H)
theorem zkm(hu:X.A.units+64<cLine):OpR X (compareOp .Eq) (zgj X.K false):=by
 intro pins s σ H x y v u Q I rx ry h;obtain⟨d,e,h1,h2,s1,s2,q⟩:=h;obtain⟨as,r1⟩:=h1.reads I rx;obtain⟨bs,r2⟩:=h2.reads I ry;exact eq_dataH r1 r2 s1 s2 hu (by rw[Me];exact⟨.bl _,H,I,rfl,q⟩)
theorem zkn(hu:X.A.units+64<cLine):OpR X (compareOp .NotEq) (zgj X.K true):=by
 intro pins s σ H x y v u Q I rx ry h;obtain⟨d,e,h1,h2,s1,s2,q⟩:=h;obtain⟨as,r1⟩:=h1.reads I rx;obtain⟨bs,r2⟩:=h2.reads I ry;exact ne_dataH r1 r2 s1 s2 hu (by rw[Me];exact⟨.bl _,H,I,rfl,q⟩)
end
section
variable{P:Program}{w:World}{K:Frag}{mg:#[V]}{base:Heap}{x m:Str}{k j:Nat}{ps:#[B]}{sp:Sp}{C:Addr}
def Ya(P:Program)(w:World)(K:Frag)(mg:#[V])(base:Heap)(x:Str)(k:Nat)(ps:#[B])(sp:Sp):Prop :=
 ∃ (f:Addr) (fd:FuncData),FnOk P w K mg base #[i] k f fd ps sp/\mg x=#[b,f]/\PySem.W.keepIn K (.ref f)=true/\Ro K fd ps []
def Zp(P:Program)(w:World)(K:Frag)(mg:#[V])(base:Heap)(C:Addr)(m:Str)(k:Nat)(ps:#[B])(sp:Sp):Prop :=
 ∃ (f:Addr) (fd:FuncData),FnOk P w K mg base #[i] k f fd ps sp/\zfw K C m f/\Ro K fd ps []
def To(P:Program)(w:World)(K:Frag)(mg:#[V])(base:Heap)(x:Str)(C:Addr)(k:Nat)(ps:#[B])(sp:Sp):Prop :=
 ∃ (f:Addr) (fd:FuncData),FnOk P w K mg base #[i] k f fd ps sp/\Mk K C f/\mg x=#[b,C]/\Ro K fd ps []
theorem zcz:W0 #[i] X E0:=fun _ _ _ _ _ _ _ h=>by obtain⟨_,_,_,_,_,_,_,_,_,_,z⟩:=h;exact z.elim
structure znk(K:Frag)(mg:#[V])(x:Str)(st:Stmt)(f:Addr)(fd:FuncData):Prop where
 fn:#[k,x,x,st]
 nm:#[ag,x,f]
end
section
variable{X:Cx}{k:Nat}{C:Addr}{ps:#[B]}{sp:Sp}{E:XK}{x m:Str}{p pos apos:Pos}{e o:Expr}{es:List Expr}{ta:TE}{t:TA}
theorem Dg(D:Ya X.prog X.w X.K X.mg X.base x k ps sp)(hr:W9 k X.A)(hx:W0 (CX1 X.prog X.w) X E)(hg:Gl X x)(ha:PA X (e :: es) t)(hdb:(x == ("__debug__":Str))=false:=by decide)
  (he:starEach (e :: es) X.env=(false,#[D,e]) :: starEach es X.env:=by rfl) (hpl:#[ax]=false:=by rfl):PE X (.Call (.Name x p) (e :: es) [] pos) (zfx sp [] E t):=by
 obtain⟨f,fd,F,hm,kp,b⟩:=D;exact zh7 F hr hg hm kp b .nil hx ha hdb he hpl
theorem Yg(he:PE X o ta)(c:Cls X.K C)(M:Zp X.prog X.w X.K X.mg X.base C m k ps sp)(hr:W9 k X.A)(hx:W0 (CX1 X.prog X.w) X E)(ha:PA X (e :: es) t)
  (hst:starEach (e :: es) X.env=(false,#[D,e]) :: starEach es X.env:=by rfl) (hpl:#[ax]=false:=by rfl)
  (ht:#[D,.Call (.Attribute o m apos) (e :: es) [] pos]=(do
   let ov <- #[D,o]
   standAt apos.atName
   let (f,first) <- holding [ov] (getMethod ov m pl)
   callWith pos f first (backTo pos (starEach (e :: es) X.env)) (backToKw pos (keywordEach [] X.env))):=by rfl):PE X (.Call (.Attribute o m apos) (e :: es) [] pos) (zcn C m sp [] E ta t):=by
 obtain⟨f,fd,F,hm,b⟩:=M;exact zh8 he c hm F hr b .nil hx ha hst hpl ht
theorem Yi(he:PE X o ta)(c:Cls X.K C)(M:Zp X.prog X.w X.K X.mg X.base C m k ps sp)(hr:W9 k X.A)(hx:W0 (CX1 X.prog X.w) X E)
  (ht:#[D,.Call (.Attribute o m apos) [] [] pos]=(do
   let ov <- #[D,o]
   standAt apos.atName
   let (f,first) <- holding [ov] (getMethod ov m pl)
   callWith pos f first (backTo pos (starEach [] X.env)) (backToKw pos (keywordEach [] X.env))):=by rfl):PE X (.Call (.Attribute o m apos) [] [] pos) (zcn C m sp [] E ta tNil):=by
 obtain⟨f,fd,F,hm,b⟩:=M;exact zfy he c hm F hr b .nil hx ht
theorem Cm(M:To X.prog X.w X.K X.mg X.base x C k ps sp)(hr:W9 (k+1) X.A)(hx:W0 (CX1 X.prog X.w) X E)(hg:Gl X x)(ha:PA X (e :: es) t)(hdb:(x == ("__debug__":Str))=false:=by decide)
  (he:starEach (e :: es) X.env=(false,#[D,e]) :: starEach es X.env:=by rfl) (hpl:#[ax]=false:=by rfl):PE X (.Call (.Name x p) (e :: es) [] pos) (zco C sp [] E t):=by
 obtain⟨f,fd,F,mk,hm,b⟩:=M;exact zh9 mk F hr hg hm b .nil hx ha hdb he hpl
theorem zc0(M:To X.prog X.w X.K X.mg X.base x C k ps sp)(hr:W9 (k+1) X.A)(hx:W0 (CX1 X.prog X.w) X E)(hg:Gl X x)(hdb:(x == ("__debug__":Str))=false:=by decide):PE X (.Call (.Name x p) [] [] pos) (zco C sp [] E tNil):=by
 obtain⟨f,fd,F,mk,hm,b⟩:=M;exact zfz mk F hr hg hm b .nil hx hdb
theorem Wn(hg:Gl X x)(hm:∃ t,X.mg x=some (.int i t))(hd:(x == ("__debug__":Str))=false:=by decide):PE X (.Name x pos) (tC (.int i)):=by
 obtain⟨t,hm⟩:=hm;exact zch hg hm #[C,t] hd
theorem Wc(hg:Gl X x)(hm:X.mg x=#[c,.ref,C])(hd:(x == ("__debug__":Str))=false:=by decide):PE X (.Name x pos) (tC (.ref C)):=zch hg hm (show RelV (.ref C) (.ref C) from rfl) hd
end
inductive zmb(te:TE)(D:Q7)(σ:L2.St)(x:V)(H1:Hp):Prop where
 | mk(l)(xs)(_:x=.ref l)(_:#[y,H1,l,xs])(_:te σ H1 fun y H2=>∃ ys,H2 l=#[w,ys]/\ys.length<sizeLine/\D.nx σ (upd H2 l (.lst (ys++[y]))))
def zmc(to te:TE):TS:=fun D σ H=>to σ H fun x H1=>zmb te D σ x H1
theorem Y5(ho:PE X o to)(he:PE X e te)(hbase:attributeBase o "append" X.env #[D,o]=eval o X.env:=by rfl)
  (hst:starEach [e] X.env=[(false,#[D,e])]:=by rfl)
  (hline:(apos.endLine == cpos.line)=true:=by rfl) (hs:swapsWith (.Call (.Attribute o "append" apos) [e] [] cpos) none pos.line X.env=pure false:=by rfl):PS X (.Expr (.Call (.Attribute o "append" apos) [e] [] cpos) pos) (zmc to te):=by
 intro pins s σ H D I h;refine wpAny_Expr ?_ I.quiet;refine wpAny_Call_method_late hbase (by rw[hst];rfl) hline rfl (thn (ho pins s σ H _ I h) fun v s1 ⟨x,H1,I1,r1,l,xs,e1,hl,q1⟩=>?_);subst e1;obtain⟨h1,h2⟩:=zbj (T:="list") I1 r1 (.inl ⟨rfl,_,SqL.of hl⟩);refine⟨"list","list.append",PySem.F.plainAttrs_list,PySem.F.slot_list_append,PySem.F.type_list_append,h1,h2,?_⟩;rw[hst];refine Calls.callWith_builtin rfl (Calls.evalArgs_plain ?_);refine Calls.spliced_cons (thn (he pins s1 σ H1 _ I1 q1) fun u s2 ⟨y,H2,I2,r2,ys,hl2,hz,q2⟩=>Calls.spliced_nil ?_);refine thn (zd6 pins s2 σ H2 (.ref l) [y] v [u] (fun v H3=>v=.non/\D.nx σ H3) I2 r1 (.cons r2 .nil) ⟨l,ys,y,rfl,rfl,hl2,hz,rfl,q2⟩) fun z s3 ⟨zv,H3,I3,rz,ez,q3⟩=>?_;subst ez;cases rz;exact⟨σ,H3,I3,q3⟩
section
variable{X:Cx}{K:Frag}
theorem zgk(hK:X.K=K):IxR X (Cc K):=hK▸zii
theorem zio(hK:X.K=K):IxR X (Je K):=hK▸zkc
theorem Fv(hK:X.K=K):W8 X (.builtin "len") (fun xs H Q=>∃ p ys,xs=[.ref p]/\(SqL K H p ys\/SqT K H p ys)/\Q (.int ys.length) H):=hK▸Cf
theorem Xj(hK:X.K=K):W8 X (.type "list") (fun xs H Q=>∃ p ys,xs=[.ref p]/\(SqL K H p ys\/SqT K H p ys)/\∀ l,H l=none->Q (.ref l) (upd H l (.lst ys))):=hK▸Cg
theorem Yo(hK:X.K=K):W8 X (.builtin "isinstance") (rIsI K):=hK▸zgg
theorem Ud(hK:X.K=K):OpR X (compareOp .In) (rIn K false):=hK▸zd5
theorem Sx(hK:X.K=K):OpR X (compareOp .NotIn) (rIn K true):=hK▸Ce
theorem ziq(hK:X.K=K)(hu:X.A.units+64<cLine):OpR X (compareOp .Eq) (zgj K false):=hK▸zkm hu
theorem Cn(hK:X.K=K)(hu:X.A.units+64<cLine):OpR X (compareOp .NotEq) (zgj K true):=hK▸zkn hu
theorem Ac(hK:X.K=K):SlR X (zl5 K):=hK▸zij
variable{o e l tg value a:Expr}{f:Str}{pos pos':Pos}{ta tv tl:TE}{es:List Expr}{k n:Nat}{t:TGs}
theorem Zr(hK:X.K=K)(he:PE X e ta)(hb:attributeBase e f X.env #[D,e]=#[D,e]):PE X (.Attribute e f pos) (zlr K ta f):=hK▸zj0 he hb
theorem Y9(hK:X.K=K)(ha:PE X o ta)(hv:PE X value tv)(hs:swapsWith value (some (.Attribute o f pos')) pos.line X.env=pure false):PS X (.Assign [.Attribute o f pos'] value pos) (zlt K ta tv f):=hK▸zj1 ha hv hs
theorem Yh(hK:X.K=K)(hl:PE X l tl):PI X tg l (zci K tl):=hK▸zh2 hl
theorem Wy(hK:X.K=K)(hc:X.calm=true)(h:PGs X es t)(hn:(assignEach es X.env).length=n:=by rfl)(hst:(assignEach es X.env).findIdx? (·.1)=none:=by rfl):PG X (.Tuple es k pos) (zll K n t):=hK▸zjw hc h hn hst
theorem Dh(hK:X.K=K)(ha:PE X a ta)(he:∀ whole,isTrue a X.env whole=(do let v <- whole;standAt a.pos;holding [v] (truthy v))):PT X a (fun σ H Q=>ta σ H fun x H'=>∃ k,TruV K x H' k/\Q k H'):=hK▸zft ha he
end
section
variable{X:Cx}{K:Frag}
theorem Hf(hK:X.K=K):W8 X (.type "tuple") (fun xs H Q=>∃ p ys,xs=[.ref p]/\((SqL K H p ys/\∀ l,H l=none->Q (.ref l) (upd H l (.tup ys)))\/(SqT K H p ys/\Q (.ref p) H))):=hK▸Fq
end
end L2
namespace G
open PySem PySem.Spec PyProof.Rows L2
theorem sz1:1<=sizeLine:=by decide
theorem sz2:2<=sizeLine:=by decide
theorem sz3:3<=sizeLine:=by decide
theorem sz4:4<=sizeLine:=by decide
theorem szN(h:n<=1000):n<=sizeLine:=zy3 (Tf h)
theorem itD{p:Prop}[Decidable p]{A B:Prop}(h1:p->A)(h2:¬ p->B):if decide p=true then A else B:=by
 by_cases h:p
 ·rw[zwy h,#[l,rfl]];exact h1 h
 ·rw[zw1 h,if_neg ⋯];exact h2 h
theorem itB{b:Bool}{A B:Prop}(h1:b=true->A)(h2:b=false->B):if b=true then A else B:=by
 cases b
 ·exact iteF (h2 rfl)
 ·exact iteT (h1 rfl)
theorem Pb:#[j,V.int i=V.int j]=#[j,i=j]:=by
 by_cases h:i=j
 ·subst h;simp
 ·rw[zw1 h,zw1 fun z=>h (V.int.inj z)]
theorem itV{i j:Int}{A B:Prop}(h1:i=j->A)(h2:¬ i=j->B):if decide (V.int i=V.int j)=true then A else B:=by
 rw[Pb];exact itD h1 h2
theorem Ze(h:H p=none):Same H (upd H p o):=fun b u e=>by rw[Zi (Zh e h)];exact e
def Z7(i:Int):Prop:=i.natAbs.log2<1920
theorem Yl(h:i.natAbs<=10 ^ 60):Z7 i:=by
 unfold Z7;by_cases h0:i.natAbs=0
 ·rw[h0];decide
 ·exact(Nat.log2_lt h0).mpr (zyc h ⋯)
theorem Z5(h:-1000<=i)(h':i<=1000):Z7 i:=Yl (zw6 (show i.natAbs<=1000 by omega) ⋯)
theorem Wi{xs:#[p]}{i:Int}(h0:0<=i)(h1:i<xs.length):atI (xs.map V.int) i=#[c,.int,xs.getD i.toNat 0]:=by
 obtain⟨k,rfl⟩:∃ k:Nat,i=k:=⟨i.toNat,by omega⟩;refine Zz ?_;have hk:k<xs.length:=by omega
 rw[zwx,zws hk,zxy,zxc,zxi,zws hk];rfl
theorem Mf(h1:∀ Q:Bool->Hp->Prop,Q b H->t σ H Q)(h2:∀ Q:Bool->Hp->Prop,Q c H->u σ H Q)(Q:Bool->Hp->Prop)(h:Q (b||c) H):tOr t u σ H Q:=by
 refine h1 _ ?_;cases b with
 | true=>exact h
 | false=>exact h2 _ h
theorem X0(h1:∀ Q:Bool->Hp->Prop,Q b H->t σ H Q)(h:if b=true then A D σ H else B D σ H):Ip t A B D σ H:=h1 _ h
theorem Xi(h:A { D with nx:=B D } σ H):Zx A B D σ H:=h
theorem Pc(J:L2.St->Hp->Prop)(hc:∀ Q:Bool->Hp->Prop,Q b H->c σ H Q)(h1:b=true->∀ N:L2.St->Hp->Prop,(∀ σ' H',J σ' H'->N σ' H')->t { D with nx:=N } σ H)
  (h2:b=false->∀ N:L2.St->Hp->Prop,(∀ σ' H',J σ' H'->N σ' H')->e { D with nx:=N } σ H) (h3:∀ σ' H',J σ' H'->u D σ' H'):Zx (Ip c t e) u D σ H:=by
 refine hc _ ?_;cases b with
 | true=>rw[#[l,rfl]];exact h1 rfl _ h3
 | false=>rw[if_neg ⋯];exact h2 rfl _ h3
theorem Zy(h:D.nx σ H):E3 D σ H:=h
theorem Hg{K:Frag}{C:Addr}{v:Value}{r:Bool}(e:PySem.W.mroIn K C v=some r):(PySem.W.clsIn K C).isSome=true:=by
 obtain⟨cd,h,_⟩:=Option.bind_eq_some_iff.mp e;rw[h];rfl
theorem zko(K:Frag):PySem.W.kitOne K (.type "int") (.type "int")=some true:=rfl
theorem zkp(K:Frag):PySem.W.kitOne K (.type "int") (.type "bool")=some false:=by with_unfolding_all rfl
theorem zkq(K:Frag):PySem.W.kitOne K (.type "list") (.type "list")=some true:=rfl
inductive Yf(H:Hp):#[a]->List (List V)->Prop where
 | nil:Yf H [] []
 | cons {t:Addr} {r:#[a]} {ts:#[a]} {R:List (List V)} (h:#[R,H,t,r]) (q:Yf H ts R):Yf H (.ref t :: ts) (r :: R)
theorem Yf.mono(k:#[am]):∀ {ts:List V} {R:List (List V)},Yf H ts R->Yf H' ts R
 | _,_,.nil=>.nil
 | _,_,.cons h r=>.cons (k _ _ h) (Yf.mono k r)
theorem Yf.same(e:#[q])(h:Yf H ts R):Yf H' ts R:=h.mono fun t xs q=>e _ _ q
theorem Yf.length:∀ {ts:List V} {R:List (List V)},Yf H ts R->ts.length=R.length
 | _,_,.nil=>rfl
 | _,_,.cons _ r=>by simp[Yf.length r]
theorem Yf.snoc(h:#[R,H,t,x]):∀ {ts:List V} {R:List (List V)},Yf H ts R->Yf H (ts++[.ref t]) (R++[x])
 | _,_,.nil=>.cons h .nil
 | _,_,.cons h' r=>.cons h' (Yf.snoc h r)
theorem Yf.get:∀ {ts:List V} {R:List (List V)} {i:Nat} {x:V},Yf H ts R->ts[i]?=some x->∃ t r,x=.ref t/\R[i]?=some r/\H t=#[A,r]
 | _,_,_,_,.nil,e=>by simp at e
 | _,_,0,_,.cons h _,e=>by simp at e;subst e;exact#[I,_,_,rfl,h]
 | _,_,i+1,x,.cons _ r,e=>by
   obtain⟨t,n,h1,h2,h3⟩:=Yf.get (i:=i) (x:=x) r (by simpa using e);exact⟨t,n,h1,by simpa using h2,h3⟩
theorem Yf.getR:∀ {ts:List V} {R:List (List V)} {i:Nat} {r:List V},Yf H ts R->R[i]?=some r->∃ t,ts[i]?=#[b,t]/\H t=#[A,r]
 | _,_,_,_,.nil,e=>by simp at e
 | _,_,0,_,.cons h _,e=>by simp at e;subst e;exact#[t,_,h]
 | _,_,i+1,x,.cons _ r,e=>by
   obtain⟨t,h1,h2⟩:=Yf.getR (i:=i) (r:=x) r (by simpa using e);exact⟨t,by simpa using h1,h2⟩
inductive zc1(vs:#[a])(H:Hp)(Q:VK)(_:XK):Prop where
 | mk(i)(_:vs=[.int i])(_:Q (.bl true) H)
def Xz(ns:#[p])(k:Nat):Int:=(ns[k]?).getD 0
inductive zed(K:Frag)(vs:#[a])(H:Hp)(Q:VK)(_:XK):Prop where
 | mk(b:Addr)(ns:#[p])(k:Nat)(_:vs=[.ref b,.int k])(_:SqL K H b (ns.map V.int))(_:Q (.int (Xz ns k)) H)
def zkr(c k:Int):Int:=(c*48271+k)%2147483647
def zmd(c k:Int):Int:=(zkr c k*69621+7*k)%2147483629
def zm6(c k:Int):Int:=(zmd c k*39373+zkr c k)%2147483587
def zbo(c k:Int):Int:=(zkr c k*2147483647+zmd c k)*2147483647+zm6 c k
inductive zc2(vs:#[a])(H:Hp)(Q:VK)(_:XK):Prop where
 | mk(c)(k)(_:vs=#[Q,c,k])(_:Q (.int (zbo c k)) H)
def stp(c:Int):Int:=([1,2,5,10,100,500,998]:List Int).getD (c%7).toNat 0
def numS(c:Int)(j:Nat):Int:=1+(c/7+stp c*(j:Int))%999
def Kx(c:Int)(many:Nat):#[p]:=(List.range many).map (numS c)
inductive Hh(vs:#[a])(H:Hp)(Q:VK)(_:XK):Prop where
 | mk(c:Int)(many:Nat)(_:vs=#[Q,c,many])(_:many<=1000)(_:∀ l H',H' l=#[T,(Kx c many).map,V.int]->Same H H'->H l=none->Q (.ref l) H')
def Co(c:Int):Int:=([1,2,5,10,50,97,98]:List Int).getD (c%7).toNat 0
def Dj(c:Int)(j:Nat):Int:=1+(c/7+Co c*(j:Int))%99
def Pd(c:Int)(many:Nat):#[p]:=(List.range many).map (Dj c)
inductive zc3(vs:#[a])(H:Hp)(Q:VK)(_:XK):Prop where
 | mk(c:Int)(many:Nat)(_:vs=#[Q,c,many])(_:many<=1000)(_:∀ l H',H' l=#[T,(Pd c many).map,V.int]->Same H H'->H l=none->Q (.ref l) H')
def oneV(x:V):Prop:=x=.non\/∃ i,x=.int i
inductive Cp(vs:#[a])(H:Hp)(Q:VK)(_:XK):Prop where
 | mk(x)(_:vs=[x,x])(_:oneV x)(_:Q (.bl true) H)
inductive Ae(K:Frag)(vs:#[a])(H:Hp)(Q:VK)(_:XK):Prop where
 | mk(b c:Addr)(xs:#[a])(_:vs=[.ref b,.ref c])(_:#[y,H,b,xs])(_:SqL K H c xs)(_:(∀ x∈xs,oneV x))(_:xs.length<=1000)(_:Q (.bl true) H)
inductive zc4(K:Frag)(vs:#[a])(H:Hp)(Q:VK)(_:XK):Prop where
 | mk(b:Addr)(ns:#[p])(_:vs=[.ref b])(_:SqL K H b (ns.map V.int))(_:ns.length<=63)(_:∀ H',Q (.bl true) H')
structure Row where
 h:Int
 g:Int
 d:Int
 w:#[F]
def oV:#[F]->V
 | none=>.non
 | some n=>.int n
def Cq(r:Row):#[a]:=[.int r.h,.int r.g,.int r.d,oV r.w]
theorem zks(o:#[F]):oneV (oV o):=by
 cases o with
 | none=>exact .inl rfl
 | some n=>exact .inr ⟨n,rfl⟩
theorem zkt{H:Hp}{ts:#[a]}{rs:List Row}{i:Nat}{x:V}(h:Yf H ts (rs.map Cq))(e:ts[i]?=some x):∃ t r,x=.ref t/\rs[i]?=some r/\H t=some (.tup (Cq r)):=by
 obtain⟨t,r,h1,h2,h3⟩:=h.get e;rw[zwx] at h2;cases q:rs[i]? with
 | none=>rw[q] at h2;cases h2
 | some m=>rw[q] at h2;cases h2;exact#[I,t,m,h1,h3]
def hit(n c:Int)(r:Row):Bool:=#[j,r.w=some n]&&(#[j,r.h=c]||#[j,r.g=c])
def Cr(n c:Int)(Rs:#[ae]):Nat×Nat:=Rs.foldl (fun p rs=>(p.1+1,if rs.any (hit n c) then p.1+1 else p.2)) (0,0)
def metS(Rs:#[ae])(n c:Int):Nat:=(Cr n c Rs).2
theorem zgl(n c:Int)(Rs:#[ae]):(Cr n c Rs).1=Rs.length:=by
 have h:∀ (Rs:List (List Row)) (p:Nat×Nat),(Rs.foldl (fun p rs=>(p.1+1,if rs.any (hit n c) then p.1+1 else p.2)) p).1=p.1+Rs.length:=fun Rs=>by
  induction Rs with
  | nil=>intro p;rfl
  | cons r Rs ih=>intro p;rw[List.foldl_cons,ih,zxb];simp only;omega
 have:=h Rs (0,0);unfold Cr;rw[this];simp
theorem zee(Rs:#[ae])(rs:List Row)(n c:Int):metS (Rs++[rs]) n c=if rs.any (hit n c) then Rs.length+1 else metS Rs n c:=by
 unfold metS;have e:Cr n c (Rs++[rs])=((Cr n c Rs).1+1,if rs.any (hit n c) then (Cr n c Rs).1+1 else (Cr n c Rs).2):=by
  unfold Cr;rw[List.foldl_append];rfl
 rw[e,zgl]
def Af(kvs:List (List Key×V))(f:Int->Int->Nat):Prop:=∀ n c:Int,valV kvs [inl n,inl c]=if f n c=0 then none else some (.int (f n c))
inductive Oo(H:Hp):#[a]->#[ae]->Prop where
 | nil:Oo H [] []
 | cons {t:Addr} {ts rs:#[a]} {r:List Row} {R:#[ae]} (h:#[R,H,t,ts]) (q:Yf H ts (r.map Cq)) (n:Oo H rs R):Oo H (.ref t :: rs) (r :: R)
theorem Oo.mono(k:#[am]):∀ {ts:List V} {R:List (List Row)},Oo H ts R->Oo H' ts R
 | _,_,.nil=>.nil
 | _,_,.cons h q r=>.cons (k _ _ h) (q.mono k) (Oo.mono k r)
theorem Oo.length:∀ {ts:List V} {R:List (List Row)},Oo H ts R->ts.length=R.length
 | _,_,.nil=>rfl
 | _,_,.cons _ _ r=>by simp[Oo.length r]
theorem Oo.snoc(h:#[R,H,t,xs])(q:Yf H xs (x.map Cq)):∀ {ts:List V} {R:List (List Row)},Oo H ts R->Oo H (ts++[.ref t]) (R++[x])
 | _,_,.nil=>.cons h q .nil
 | _,_,.cons h' q' r=>.cons h' q' (Oo.snoc h q r)
def tot(Rs:#[ae]):Nat:=(Rs.map List.length).sum
theorem zgm(Rs:#[ae])(rs:List Row):tot (Rs++[rs])=tot Rs+rs.length:=by unfold tot;rw[zww,List.sum_append];simp
structure Uz(C:Addr)(H:Hp)(p lr ld:Addr)(Rs:#[ae]):Prop where
 at_:∃ dx,H p=some (.ins C dx [("rounds",.ref lr),("meetings",.ref ld)])
 rd:∃ rs,H lr=#[w,rs]/\Oo H rs Rs
 mt:∃ kvs,H ld=#[c,.dT,kvs]/\Af kvs (metS Rs)/\kvs.length<=2*tot Rs
theorem Uz.same{C:Addr}{H H':Hp}{p lr ld:Addr}{Rs:#[ae]}(h:Uz C H p lr ld Rs)(e:#[q]):Uz C H' p lr ld Rs:=by
 obtain⟨⟨dx,h1⟩,⟨rs,h2,h3⟩,⟨kvs,h4,h5⟩⟩:=h;exact⟨⟨dx,e _ _ h1⟩,⟨rs,e _ _ h2,h3.mono fun t xs q=>e _ _ q⟩,⟨kvs,e _ _ h4,h5⟩⟩
theorem Uz.keep{C:Addr}{H H':Hp}{p lr ld:Addr}{Rs:#[ae]}(h:Uz C H p lr ld Rs)(ep:∀ o,H p=#[d]->H' p=#[d])(er:∀ o,H lr=#[d]->H' lr=#[d])(ed:∀ o,H ld=#[d]->H' ld=#[d])(et:#[am]):Uz C H' p lr ld Rs:=by
 obtain⟨⟨dx,h1⟩,⟨rs,h2,h3⟩,⟨kvs,h4,h5⟩⟩:=h;exact⟨⟨dx,ep _ h1⟩,⟨rs,er _ h2,h3.mono et⟩,⟨kvs,ed _ h4,h5⟩⟩
theorem Lo:List.lookup ("rounds":Str) ([("rounds",V.ref x),("meetings",V.ref y)]:List (Str×V))=#[c,.ref,x]:=by simp only[zxr,beq_self_eq_true]
theorem Pf:List.lookup ("meetings":Str) ([("rounds",V.ref x),("meetings",V.ref y)]:List (Str×V))=#[c,.ref,y]:=by
 have e:(("meetings":Str) == "rounds")=false:=by decide +kernel
 simp only[zxr,e,beq_self_eq_true]
theorem Hi{x y:Addr}{m:Str}(h:¬ m="rounds")(h':¬ m="meetings"):List.lookup m ([("rounds",V.ref x),("meetings",V.ref y)]:#[ad])=none:=by
 have e:(m == "rounds")=false:=zxg.mpr h;have e':(m == "meetings")=false:=zxg.mpr h';simp only[zxr,e,e',List.lookup_nil]
inductive zc5(C:Addr)(vs:#[a])(H:Hp)(Q:VK)(_:XK):Prop where
 | mk(p)(dx)(_:vs=[.ref p])(_:H p=some (.ins C dx []))(_:∀ lr ld H',Uz C H' p lr ld []->(∀ b o,H b=some o->b≠p->H' b=some o)->H lr=none->H ld=none->lr≠ld->Q .non H')
inductive Lp(C:Addr)(vs:#[a])(H:Hp)(Q:VK)(_:XK):Prop where
 | mk(p)(lr)(ld)(Rs)(_:vs=[.ref p])(_:Uz C H p lr ld Rs)(_:Q (.int (Rs.length:Nat)) H)
inductive zji(C:Addr)(vs:#[a])(H:Hp)(Q:VK)(_:XK):Prop where
 | mk(p)(lr)(ld)(Rs)(n)(c)(_:vs=#[S,.ref p,n,c])(_:Uz C H p lr ld Rs)(_:∀ H',Same H H'->Q (.int (metS Rs n c:Nat)) H')
theorem Of:([inl n,inl c]:List Key)=[inl n',inl c']↔n=n'/\c=c':=by
 constructor
 ·intro h;injection h with h1 h2;injection h2 with h2 _;exact⟨inl.inj h1,inl.inj h2⟩
 ·rintro⟨rfl,rfl⟩;rfl
theorem Af.put(h:Af kvs f)(n c:Int)(t:Nat)(ht:0<t):Af (putK kvs [inl n,inl c] (.int t)) fun n' c'=>if n'=n/\c'=c then t else f n' c':=fun n' c'=>by
 rw[Uy];show _=if (if n'=n/\c'=c then t else f n' c')=0 then none else #[c,V.int,((if n'=n/\c'=c then t else f n' c':Nat):Int)]
 by_cases e:n'=n/\c'=c
 ·rw[#[l,e],if_pos (Of.mpr e),if_neg ⋯]
 ·rw[#[g,fun z=>e (Of.mp z)],#[g,e]];exact h n' c'
def Lq(Rs:#[ae])(rs:List Row)(i:Nat)(n c:Int):Nat:=if (rs.take i).any (hit n c) then Rs.length+1 else metS Rs n c
theorem zef(Rs:#[ae])(rs:List Row):Lq Rs rs 0=metS Rs:=by funext n c;unfold Lq;simp
theorem zgn(Rs:#[ae])(rs:List Row):Lq Rs rs rs.length=metS (Rs++[rs]):=by funext n c;unfold Lq;rw[zw9,zee]
theorem Dk(e:rs[i]?=some r)(n c:Int):Lq Rs rs (i+1) n c=if hit n c r then Rs.length+1 else Lq Rs rs i n c:=by
 unfold Lq;rw[zx9,e,List.any_append];cases h1:(rs.take i).any (hit n c)<;>cases h2:hit n c r<;>simp[h2]
theorem zeg(e:rs[i]?=some r)(h:r.w=none):Lq Rs rs (i+1)=Lq Rs rs i:=by
 funext n c
 rw[Dk e];have:hit n c r=false:=by unfold hit;rw[h];simp
 rw[this];simp
theorem zeh(e:rs[i]?=some r)(h:r.w=some w) :
  (fun n c=>if n=w/\c=r.g then Rs.length+1 else (fun n c=>if n=w/\c=r.h then Rs.length+1 else Lq Rs rs i n c) n c)=Lq Rs rs (i+1):=by
 funext n c
 rw[Dk e];unfold hit;rw[h];show (if n=w/\c=r.g then Rs.length+1 else if n=w/\c=r.h then Rs.length+1 else Lq Rs rs i n c)=_;by_cases h1:n=w
 ·subst h1;by_cases h2:r.g=c
  ·rw[#[l,⟨rfl,h2.symm⟩],#[l,(by simp[h2])]]
  ·rw[#[g,fun z=>h2 z.2.symm]];by_cases h3:r.h=c
   ·rw[#[l,⟨rfl,h3.symm⟩],#[l,(by simp[h3])]]
   ·rw[#[g,fun z=>h3 z.2.symm],#[g,(by simp[h2,h3])]]
 ·rw[#[g,fun z=>h1 z.1],#[g,fun z=>h1 z.1],#[g,(by simp;intro z;exact absurd z.symm h1)]]
theorem zgo{C:Addr}{H1 H':Hp}{x dx lr ld:Addr}(hx:H1 x=none)(hdx:H1 dx=none)(ne:dx≠x)(k:∀ b o,upd (upd H1 dx (.own x)) x (.ins C dx []) b=#[d]->b≠x->H' b=#[d])
  (h1:upd (upd H1 dx (.own x)) x (.ins C dx []) lr=none) (h2:upd (upd H1 dx (.own x)) x (.ins C dx []) ld=none):Same H1 H'/\H1 lr=none/\H1 ld=none:=by
 have fr:∀ {l:Addr},upd (upd H1 dx (.own x)) x (.ins C dx []) l=none->H1 l=none:=fun {l} q=>by
  have n1:l≠x:=fun z=>by rw[z,Zc] at q;cases q
  have n2:l≠dx:=fun z=>by rw[z,Zi ne,Zc] at q;cases q
  rw[Zi n1,Zi n2] at q;exact q
 refine⟨fun b o e=>k b o ?_ (Zh e hx),fr h1,fr h2⟩;rw[Zi (Zh e hx),Zi (Zh e hdx)];exact e
theorem zme{lr ld:Addr}:putF "meetings" (V.ref ld) [(("rounds":Str),V.ref lr)]=[(("rounds":Str),V.ref lr),(("meetings":Str),V.ref ld)]:=by
 show (if ("rounds":Str)="meetings" then _ else _)=_;rw[if_neg ⋯];rfl
theorem Yd(h:H l=none)(s:#[q]):Same H (upd H' l o):=fun b u e=>by
 rw[Zi (Zh e h)];exact s b u e
theorem zgp(h:oneV x):Rq x=true:=by rcases h with rfl|⟨i,rfl⟩<;>rfl
inductive RLs(H:Hp):#[z]->#[ae]->Prop where
 | nil:RLs H [] []
 | cons {l:Addr} {ts:#[a]} {ls:#[z]} {r:List Row} {R:#[ae]} (h:#[y,H,l,ts]) (q:Yf H ts (r.map Cq)) (n:RLs H ls R):RLs H (l :: ls) (r :: R)
theorem Fw(c:Int)(m:Nat):(Pd c m).length=m:=by unfold Pd;rw[zwq,zxs]
theorem Mg(c:Int)(m:Nat):(Kx c m).length=m:=by unfold Kx;rw[zwq,zxs]
structure L1(C:Addr)(H0:Hp)(p lr ld kR:Addr)(ls:#[z])(R S:#[ae])(H:Hp):Prop where
 base:Same H0 H
 led:Uz C H p lr ld R
 krs:H kR=some (.lst (ls.map V.ref))
 rls:RLs H ls S
 sep:∀ l∈ls,l≠lr/\l≠kR
structure C1(H0:Hp)(lr ld kR:Addr):Prop where
 fr:H0 lr=none
 fd:H0 ld=none
 fk:H0 kR=none
 rk:lr≠kR
theorem Og(h1:∀ Q:Bool->Hp->Prop,Q b H->t σ H Q)(h2:∀ Q:Bool->Hp->Prop,Q c H->u σ H Q)(Q:Bool->Hp->Prop)(h:Q (b&&c) H):zh1 t u σ H Q:=by
 refine h1 _ ?_;cases b with
 | true=>exact h2 _ h
 | false=>exact h
def Qs(Rs:#[ae])(n c rest:Int):Bool:=#[j,(if (0:Int)>(Rs.length:Nat)-rest then 0 else ((Rs.length:Nat):Int)-rest)<(metS Rs n c:Nat)]
inductive Ag(C:Addr)(vs:#[a])(H:Hp)(Q:VK)(_:XK):Prop where
 | mk(p)(lr)(ld)(Rs)(n)(c)(rest)(_:vs=[.int n,.int c,.ref p,.int rest])(_:Uz C H p lr ld Rs)(_:∀ H',Same H H'->Q (.bl (Qs Rs n c rest)) H')
def bw(b:Bool)(w:Str):#[B]:=if b then [w] else []
def whyS(Rs:#[ae])(n g c h gu d:Int)(o:Bool)(rest:Int):#[B] :=
 bw o "away"++(bw (decide (g<d)) "grade"++(bw (decide (c=h)||decide (c=gu)) "club"++bw (Qs Rs n h rest||Qs Rs n gu rest) "met"))
inductive Lr(K:Frag)(C:Addr)(vs:#[a])(H:Hp)(Q:VK)(_:XK):Prop where
 | mk(t1 t2 p lr ld:Addr)(Rs:#[ae])(n g c h gu d rest:Int)(o:Bool)(_:vs=[.ref t1,.ref t2,.bl o,.ref p,.int rest])(_:#[R,H,t1,#[S,.int n,g,c]])(_:#[R,H,t2,#[S,.int h,gu,d]])(_:Uz C H p lr ld Rs)(_:∀ l H',H' l=#[T,(whyS Rs n g c h gu d o rest).map,V.str]->Same H H'->H l=none->Q (.ref l) H')
def Gr(c:TT)(σ:L2.St)(H:Hp)(b:Bool):Prop:=∀ Q:Bool->Hp->Prop,(∀ H1,Same H H1->Q b H1)->c σ H Q
theorem Hj(h1:Gr t σ H b)(h2:∀ H1,Same H H1->Gr u σ H1 c):Gr (tOr t u) σ H (b||c):=fun Q h=>by
 refine h1 _ fun H1 s1=>?_;cases b with
 | true=>exact h H1 s1
 | false=>exact h2 H1 s1 _ fun H2 s2=>h H2 (s1.trans s2)
theorem Wz(h:∀ Q:Bool->Hp->Prop,Q b H->c σ H Q):Gr c σ H b:=fun Q q=>h Q (q H (Same.refl H))
theorem Sg(hc:Gr c σ H b)(h0:H0 l=none)(s:Same H0 H)(hl:H l=some (.lst (xs.map V.str)))(hx:xs.length<=100)(hv:σ[i]?=some #[b,l])
  (h3:∀ H',Same H0 H'->H' l=#[T,(xs++bw b w).map,V.str]->(∀ b o,H b=some o->b≠l->H' b=some o)->u D σ H'):Zx (Ip c (zmc (tVar i) (tC (.str w))) E3) u D σ H:=by
 refine hc _ fun H1 s1=>?_;have hl1:=s1 _ _ hl;cases b with
 | true =>
   rw[#[l,rfl]];refine⟨_,hv,l,_,rfl,hl1,_,hl1,Tf (by rw[zwq];omega),?_⟩;refine h3 _ (Yd h0 (s.trans s1)) ?_ fun b o e n=>by rw[Zi n];exact s1 _ _ e
   rw[Zc,zww];rfl
 | false =>
   rw[if_neg ⋯];exact h3 _ (s.trans s1) (by rw[show bw false w=[] from rfl,zy0];exact hl1) fun b o e _=>s1 _ _ e
theorem Ls(b:Bool)(w:Str):(bw b w).length<=1:=by cases b<;>simp[bw]
theorem zir:x<metS Rs n c↔∃ (j:Nat) (r:List Row),Rs[j]?=some r/\r.any (hit n c)=true/\x<j+1:=by
 have gen:∀ (Rs:List (List Row)) (p:Nat×Nat),p.2<=p.1->(x<(Rs.foldl (fun p rs=>(p.1+1,if rs.any (hit n c) then p.1+1 else p.2)) p).2↔(∃ (j:Nat) (r:List Row),Rs[j]?=some r/\r.any (hit n c)=true/\x<p.1+j+1)\/x<p.2):=fun Rs=>by
  induction Rs with
  | nil=>intro p hp;simp
  | cons r Rs ih =>
    intro p hp;rw[List.foldl_cons,ih _ (by show (if r.any (hit n c) then p.1+1 else p.2)<=p.1+1;split<;>omega)];show ((∃ (j:Nat) (r':List Row),Rs[j]?=some r'/\r'.any (hit n c)=true/\x<p.1+1+j+1)\/x<(if r.any (hit n c) then p.1+1 else p.2))↔_;constructor
    ·rintro(⟨j,r',h1,h2,h3⟩|h)
     ·exact .inl ⟨j+1,r',by simpa using h1,h2,by omega⟩
     ·by_cases hr:r.any (hit n c)=true
      ·rw[#[l,hr]] at h;exact .inl ⟨0,r,rfl,hr,by omega⟩
      ·rw[#[g,hr]] at h;exact .inr h
    ·rintro(⟨j,r',h1,h2,h3⟩|h)
     ·cases j with
      | zero =>
        have e:r=r':=by simpa using h1
        subst e;exact .inr (by rw[#[l,h2]];omega)
      | succ j=>exact .inl ⟨j,r',by simpa using h1,h2,by omega⟩
     ·right
      split<;>omega
 have:=gen Rs (0,0) (zwz _);unfold metS Cr;rw[this];simp
theorem zei{Rs:#[ae]}{n c rest:Int}:Qs Rs n c rest=true↔∃ (j:Nat) (r:List Row),Rs[j]?=some r/\r.any (hit n c)=true/\(Rs.length:Int)-rest<=j:=by
 unfold Qs;rw[decide_eq_true_eq];have e:(if (0:Int)>(Rs.length:Nat)-rest then 0 else ((Rs.length:Nat):Int)-rest)<(metS Rs n c:Nat)↔(((Rs.length:Nat):Int)-rest).toNat<metS Rs n c:=by
  split<;>omega
 rw[e,zir];constructor
 ·rintro⟨j,r,h1,h2,h3⟩;exact⟨j,r,h1,h2,by omega⟩
 ·rintro⟨j,r,h1,h2,h3⟩;exact⟨j,r,h1,h2,by omega⟩
theorem zgq(c:Int)(hi:i<40)(hj:j<40)(h:numS c i=numS c j):i=j:=by
 unfold numS at h;have hs:stp c=1\/stp c=2\/stp c=5\/stp c=10\/stp c=100\/stp c=500\/stp c=998:=by
  unfold stp;have h0:0<=c%7:=by omega
  have h1:c%7<7:=by omega
  generalize c%7=r at h0 h1;obtain⟨k,rfl⟩:∃ k:Nat,r=k:=⟨r.toNat,by omega⟩;rw[zxc];have hk:k<7:=by omega
  match k,hk with
  | 0,_=>simp
  | 1,_=>simp
  | 2,_=>simp
  | 3,_=>simp
  | 4,_=>simp
  | 5,_=>simp
  | 6,_=>simp
 generalize c/7=x at h;rcases hs with e|e|e|e|e|e|e<;>rw[e] at h<;>omega
end G
namespace G
open PySem PySem.Spec PyProof.Rows L2
abbrev P3:=Int×Int×Int
def pV(m:P3):#[a]:=#[S,.int m.1,m.2.1,m.2.2]
theorem Jg{H:Hp}{ts:#[a]}{Ms:List P3}{i:Nat}{x:V}(h:Yf H ts (Ms.map pV))(e:ts[i]?=some x):∃ t m,x=.ref t/\Ms[i]?=some m/\H t=some (.tup (pV m)):=by
 obtain⟨t,r,h1,h2,h3⟩:=h.get e;rw[zwx] at h2;cases q:Ms[i]? with
 | none=>rw[q] at h2;cases h2
 | some m=>rw[q] at h2;cases h2;exact#[I,t,m,h1,h3]
theorem Yf.reverse:∀ {ts:List V} {R:List (List V)},Yf H ts R->Yf H ts.reverse R.reverse
 | _,_,.nil=>.nil
 | _,_,.cons h q=>by rw[zyt,zyt];exact(Yf.reverse q).snoc h
def Ph(Rs:#[ae])(h gu d:Int)(os:#[a])(rest:Int)(m:P3):Bool:=(whyS Rs m.1 m.2.1 m.2.2 h gu d (inV (.int m.1) os) rest).isEmpty
inductive Ah(K:Frag)(C:Addr)(vs:#[a])(H:Hp)(Q:VK)(_:XK):Prop where
 | mk(lp lo tm p lr ld:Addr)(Rs:#[ae])(ts:#[a])(Ms:List P3)(os:#[a])(h gu d rest:Int)(_:vs=[.ref lp,.ref tm,.ref lo,.ref p,.int rest])(_:#[y,H,lp,ts])(_:Yf H ts (Ms.map pV))(_:#[y,H,lo,os])(_:(∀ x∈os,oneV x))(_:#[R,H,tm,#[S,.int h,gu,d]])(_:Uz C H p lr ld Rs)(_:Ms.length<=1000)(_:∀ l H',H' l=#[T,(Ms.filter (Ph Rs h gu d os rest)).map,fun m=>V.int m.1]->Same H H'->H l=none->Q (.ref l) H')
theorem zej{Rs:#[ae]}{n c rest:Int}(hr:0<=rest):Qs Rs n c rest=true↔∃ rs∈Rs.drop ((Rs.length:Int)-rest).toNat,∃ r∈rs,hit n c r=true:=by
 rw[zei];constructor
 ·rintro⟨j,rs,h1,h2,h3⟩;obtain⟨r,hr1,hr2⟩:=List.any_eq_true.mp h2;refine⟨rs,?_,r,hr1,hr2⟩;have hk:((Rs.length:Int)-rest).toNat<=j:=by omega
  refine zw4 (i:=j-((Rs.length:Int)-rest).toNat) ?_;rw[List.getElem?_drop,Nat.add_sub_cancel' hk];exact h1
 ·rintro⟨rs,h1,r,h2,h3⟩;obtain⟨i,hi,e⟩:=zx4 h1;refine⟨((Rs.length:Int)-rest).toNat+i,rs,?_,List.any_eq_true.mpr ⟨r,h2,h3⟩,by omega⟩;rw[<- List.getElem?_drop,zws hi,e]
theorem Cs{js:List Nat}{tt:TT}{te:TE}{lo:Int}{n:Nat}{σ:L2.St}{H:Hp}{Q:VK}(p:Nat->Bool)(f:Nat->V)(hz:n<=1000)
  (ht:∀ (i:Nat) (R:Bool->Hp->Prop),i<n->R (p i) H->tt (cs js σ (.int (lo+i))) H R) (hs:∀ (i:Nat) (R:VK),i<n->p i=true->R (f i) H->te (cs js σ (.int (lo+i))) H R)
  (hd:∀ q,H q=none->Q (.ref q) (upd H q (.lst (((List.range n).filter p).map f)))):Aa (Itr lo n) js tt te σ H Q:=by
 refine He (fun i ys H'=>H'=H/\ys=((List.range i).filter p).map f) #[C,rfl] (szN hz) (fun i ys H' ⟨_,e⟩=>by rw[e,zwq];exact zw6 (zxo _ _) (by rw[zxs];exact zwz _)) (fun i ys H' hi ⟨e1,e2⟩=>?_) fun ys H' ⟨e1,e2⟩ q hq=>?_
 ·subst e1;refine ht i _ hi ?_;have e3:((List.range (i+1)).filter p).map f=ys++(if p i then [f i] else []):=by
   rw[e2,List.range_succ,zyd,zww];cases hp:p i<;>simp[hp]
  cases hp:p i with
  | true =>
    rw[#[l,rfl]];refine hs i _ hi hp ⟨rfl,?_⟩;rw[e3,hp];rfl
  | false =>
    rw[if_neg ⋯];refine⟨rfl,?_⟩;rw[e3,hp];simp
 ·subst e1;rw[e2];exact hd q hq
def V6(xs:#[a]):List Nat:=(List.range xs.length).filter fun i=>#[j,xs[i]?=some .non]
inductive zbp(K:Frag)(vs:#[a])(H:Hp)(Q:VK)(_:XK):Prop where
 | mk(b:Addr)(xs:#[a])(_:vs=[.ref b])(_:#[y,H,b,xs])(_:(∀ x∈xs,oneV x))(_:xs.length<=100)(_:∀ l H',H' l=#[T,(V6 xs).map,fun i=>V.int (i:Nat)]->Same H H'->H l=none->Q (.ref l) H')
def Wk(xs:#[a])(n:Int):Option Nat:=(List.range xs.length).find? fun i=>#[j,xs[i]?=#[f,n]]
def oN:Option Nat->V
 | none=>.non
 | some i=>.int i
inductive Dl(K:Frag)(vs:#[a])(H:Hp)(Q:VK)(_:XK):Prop where
 | mk(b:Addr)(xs:#[a])(n:Int)(_:vs=[.ref b,.int n])(_:#[y,H,b,xs])(_:(∀ x∈xs,oneV x))(_:xs.length<=100)(_:∀ H',Same H H'->Q (oN (Wk xs n)) H')
def Yx:#[J]->#[a]->#[a]
 | [],xs=>xs
 | (p,w) :: r,xs=>Yx r (xs.set p (oV w))
def V7(s:Nat×Option Int):#[a]:=[.int (s.1:Nat),oV s.2]
inductive Lu(K:Frag)(vs:#[a])(H:Hp)(Q:VK)(_:XK):Prop where
 | mk(b c:Addr)(xs ts:#[a])(st:#[J])(_:vs=[.ref b,.ref c])(_:#[y,H,b,xs])(_:#[y,H,c,ts])(_:Yf H ts (st.map V7))(_:(∀ s∈st,s.1<xs.length))(_:(∀ x∈xs,oneV x))(_:xs.length<=100)(_:st.length<=100)(_:∀ l H',H' l=#[w,Yx st xs]->#[q]->H l=none->#[M,l])
theorem Wd:∀ (st:List (Nat×Option Int)) (xs:List V),(Yx st xs).length=xs.length
 | [],_=>rfl
 | (p,w) :: r,xs=>by rw[Yx,Wd r,zyg]
theorem Ai(xs:#[a])(n:Int):(Wk xs n=none/\∀ i:Nat,xs[i]?≠#[c,V.int,n])\/∃ i:Nat,Wk xs n=some i/\xs[i]?=some (V.int n):=by
 unfold Wk;cases h:(List.range xs.length).find? (fun i=>#[j,xs[i]?=#[f,n]]) with
 | none =>
   refine .inl ⟨rfl,fun i e=>?_⟩;have hi:i<xs.length:=(zwr.mp e).1;have:=List.find?_eq_none.mp h i (zxz.mpr hi);exact this (zwy e)
 | some i =>
   have:=List.find?_some h;exact .inr #[t,i,of_decide_eq_true this]
theorem zek(xs:#[a])(k:Nat):Fo xs (some (k:Int)) none=xs.drop k:=by
 unfold Fo;rw[HT.sIx_nat,HT.sIx_none];by_cases h:k<=xs.length
 ·rw[Nat.min_eq_left h,<- List.length_drop,zw9]
 ·rw[Nat.min_eq_right ⋯,List.drop_length,List.take_nil,List.drop_eq_nil_of_le ⋯]
inductive ILs(H:Hp):#[z]->#[E]->Prop where
 | nil:ILs H [] []
 | cons {l:Addr} {ls:#[z]} {r:#[p]} {R:#[E]} (h:H l=some (.lst (r.map V.int))) (n:ILs H ls R):ILs H (l :: ls) (r :: R)
theorem ILs.keep:∀ {ls:List Addr} {R:List (List Int)},(∀ l∈ls,∀ o,H l=some o->H' l=some o)->ILs H ls R->ILs H' ls R
 | _,_,_,.nil=>.nil
 | _,_,k,.cons h r=>.cons (k _ zxl _ h) (ILs.keep (fun l hl=>k l (zxa _ hl)) r)
theorem ILs.same(e:#[q])(h:ILs H ls R):ILs H' ls R:=h.keep fun l _ o q=>e _ _ q
theorem ILs.length:∀ {ls:List Addr} {R:List (List Int)},ILs H ls R->ls.length=R.length
 | _,_,.nil=>rfl
 | _,_,.cons _ r=>by simp[ILs.length r]
theorem ILs.snoc(h:H l=some (.lst (x.map V.int))):∀ {ls:List Addr} {R:List (List Int)},ILs H ls R->ILs H (ls++[l]) (R++[x])
 | _,_,.nil=>.cons h .nil
 | _,_,.cons h' r=>.cons h' (ILs.snoc h r)
theorem ILs.has:∀ {ls:List Addr} {R:List (List Int)} {l:Addr},ILs H ls R->l∈ls->∃ xs,H l=#[w,xs]
 | _,_,_,.nil,e=>by simp at e
 | _,_,_,.cons h r,e=>by
   rcases zwu.mp e with rfl|e
   ·exact⟨_,h⟩
   ·exact ILs.has r e
theorem ILs.getR:∀ {ls:List Addr} {R:List (List Int)} {i:Nat} {r:List Int},ILs H ls R->R[i]?=some r->∃ l,ls[i]?=some l/\H l=#[T,r.map,V.int]
 | _,_,_,_,.nil,e=>by simp at e
 | _,_,0,_,.cons h _,e=>by simp at e;subst e;exact#[t,_,h]
 | _,_,i+1,x,.cons _ r,e=>by
   obtain⟨t,h1,h2⟩:=ILs.getR (i:=i) (r:=x) r (by simpa using e);exact⟨t,by simpa using h1,h2⟩
structure Pj(rows:#[E])(nu:#[p]):Prop where
 few:rows.length<=20
 crowd:nu.length<=30
 inj:nu.Nodup
 rng:∀ n∈nu,1<=n/\n<=999
 sub:∀ r∈rows,r.Nodup/\∀ n∈r,n∈nu
structure Yu(rows:#[E])(gs:#[a]):Prop where
 len:gs.length=rows.length
 one:∀ x∈gs,oneV x
 may:∀ (k:Nat) (n:Int),gs[k]?=#[f,n]->∃ r,rows[k]?=some r/\n∈r
 inj:∀ (j k:Nat) (n:Int),gs[j]?=#[f,n]->gs[k]?=#[f,n]->j=k
def Oh(rows:#[E])(gs:#[a])(p:Nat):Prop:=∃ S:Nat->Prop,S p/\∀ q,S q->q<rows.length/\∀ r,rows[q]?=some r->∀ n∈r,∃ q',q' < p/\gs[q']?=#[f,n]/\S q'
def Vs(rows:#[E])(gs:#[a]):Prop:=∀ p,gs[p]?=some .non->Oh rows gs p
inductive zgr(K:Frag)(vs:#[a])(H:Hp)(Q:VK)(_:XK):Prop where
 | mk(l:Addr)(ls:#[z])(rows:#[E])(nu:#[p])(_:vs=[.ref l])(_:H l=some (.lst (ls.map V.ref)))(_:ILs H ls rows)(_:Pj rows nu)(_:∀ l' gs H',H' l'=#[w,gs]->Yu rows gs->Vs rows gs->#[q]->H l'=none->#[M,l'])
theorem Ig{n:Int}{r:#[p]}:inV (.int n) (r.map V.int)=#[j,n∈r]:=by
 induction r with
 | nil=>rfl
 | cons x r ih =>
   unfold inV at ih ⊢;rw[zw3,zys,ih];have e:eqV (.int x) (.int n)=#[j,n=x]:=by
    show (x == n)=_;by_cases h:n=x
    ·subst h;simp
    ·rw[zw1 h];exact zxg.mpr (Ne.symm h)
   rw[e];by_cases h:n=x
   ·subst h;simp
   ·by_cases h2:n∈r<;>simp[h,h2]
end G
namespace G
open PySem PySem.Spec PyProof.Rows L2
def newS(st:#[J])(k:Nat):#[a]:=(st.filter fun s=>decide (s.1=k)).map fun s=>oV s.2
theorem Dm:∀ (st:List (Nat×Option Int)) (xs:List V) (k:Nat),(st.map (·.1)).Nodup->k<xs.length->(Yx st xs)[k]?=some ((newS st k++[xs.getD k .non]).getD 0 .non)
 | [],xs,k,_,hk=>by
   rw[Yx,zws hk];show _=some (xs.getD k .non);rw[zxi,zws hk];rfl
 | (p,w) :: r,xs,k,nd,hk=>by
   rw[zw3,zxh] at nd;rw[Yx,Dm r _ k nd.2 (by rw[zyg];exact hk)];by_cases h:p=k
   ·subst h;have e:newS r p=[]:=by
     unfold newS;rw[List.map_eq_nil_iff,List.filter_eq_nil_iff];intro s hs z;exact nd.1 (zw0.mpr ⟨s,hs,of_decide_eq_true z⟩)
    have e2:newS ((p,w) :: r) p=oV w :: newS r p:=by
     unfold newS;rw[zx2,if_pos (zwy rfl),zw3]
    rw[e2,e];show some ((xs.set p (oV w)).getD p .non)=#[c,oV,w];rw[zxi,zxt hk];rfl
   ·have e2:newS ((p,w) :: r) k=newS r k:=by
     unfold newS;rw[zx2,#[g,(by rw[zw1 h];decide)]]
    rw[e2];have e3:(xs.set p (oV w)).getD k .non=xs.getD k .non:=by
     rw[zxi,zxi,zxq h]
    rw[e3]
section
variable{rows:#[E]}{gs:#[a]}
def adjN(rows:#[E])(gs:#[a])(q:Nat)(n:Int)(q':Nat):Prop:=(∃ r,rows[q]?=some r/\n∈r)/\gs[q']?=#[f,n]
def O8(rows:#[E])(gs:#[a])(q:Nat)(n:Int):Prop:=(∃ r,rows[q]?=some r/\n∈r)/\∀ j:Nat,gs[j]?≠some (V.int n)
def Uw(rows:#[E])(gs:#[a])(q:Nat):Prop:=∃ n,O8 rows gs q n
inductive Walk(rows:#[E])(gs:#[a])(p:Nat):Nat->Nat->Prop where
 | nil:#[Y,p,p,0]
 | snoc {q q' k:Nat} {n:Int} (h:#[Y,p,q,k]) (a:adjN rows gs q n q'):#[Y,p,q',k+1]
theorem Walk.cons(a:adjN rows gs p n p')(h:#[Y,p',q,k]):#[Y,p,q,k+1]:=by
 induction h with
 | nil=>exact .snoc .nil a
 | snoc _ a' ih=>exact .snoc ih a'
inductive Ch(rows:#[E])(gs:#[a]):Nat->#[J]->Nat->#[F]->Prop where
 | one (q:Nat) (w:#[F]):Ch rows gs q [(q,w)] q w
 | step {q q' e:Nat} {n:Int} {st:#[J]} {w:#[F]} (a:adjN rows gs q n q') (h:Ch rows gs q' st e w):Ch rows gs q ((q,some n) :: st) e w
theorem Ch.pos{q e:Nat}{st:#[J]}{w:#[F]}(h:#[ak]):0<st.length:=by cases h<;>simp
theorem Ch.walk{q e:Nat}{st:#[J]}{w:#[F]}(h:#[ak]):#[Y,q,e,st.length-1]:=by
 induction h with
 | one q w=>exact .nil
 | step a h ih =>
   have:=h.pos;have e:=Walk.cons a ih;rw[zxb,Nat.add_sub_cancel];rw[Nat.sub_add_cancel this] at e;exact e
theorem Ch.drop{q e:Nat}{st:#[J]}{w:#[F]}(h:#[ak]):∀ x∈st.map (·.1),∃ st',Ch rows gs x st' e w/\st'.length<=st.length:=by
 induction h with
 | one q w=>intro x hx;simp at hx;subst hx;exact⟨_,.one _ _,zwz _⟩
 | @step q q' e n st w a h ih =>
   intro x hx;rw[zw3] at hx;rcases zwu.mp hx with z|z
   ·subst z;exact⟨_,.step a h,zwz _⟩
   ·obtain⟨st',h1,h2⟩:=ih x z;exact⟨st',h1,by rw[zxb];omega⟩
theorem Ch.hd{q e:Nat}{st:#[J]}{w:#[F]}(h:#[ak]):∃ x r,st=(q,x) :: r:=by cases h<;>exact⟨_,_,rfl⟩
theorem Ch.last{q e:Nat}{st:#[J]}{w:#[F]}(h:#[ak]):e∈st.map (·.1):=by
 induction h with
 | one q w=>simp
 | step a h ih=>rw[zw3];exact zxa _ ih
theorem Ch.nodup{q e:Nat}{st:#[J]}{w:#[F]}(h:#[ak])(hm:∀ k,#[Y,q,e,k]->st.length<=k+1):(st.map (·.1)).Nodup:=by
 induction h with
 | one q w=>simp
 | @step q q' e n st w a h ih =>
   rw[zw3,zxh];refine⟨fun hq=>?_,ih fun k hk=>?_⟩
   ·obtain⟨st',h1,h2⟩:=h.drop q hq;have:=hm _ h1.walk;have:=h1.pos;rw[zxb] at *;omega
   ·have:=hm _ (Walk.cons a hk);rw[zxb] at this;omega
theorem Ch.mem{q e:Nat}{st:#[J]}{w:#[F]}(h:#[ak]):∀ (k:Nat) (n:Int),(k,some n)∈st->(adjN rows gs k n k\/True)/\(((∃ r,rows[k]?=some r/\n∈r)/\∃ k',gs[k']?=some (V.int n)/\k'∈st.tail.map (·.1))\/(w=some n/\k=e)):=by
 induction h with
 | one q w =>
   intro k n hk;simp at hk;exact⟨.inr trivial,.inr ⟨hk.2.symm,hk.1⟩⟩
 | @step q q' e n' st w a h ih =>
   intro k n hk;refine⟨.inr trivial,?_⟩;rcases zwu.mp hk with z|z
   ·cases z;refine .inl ⟨a.1,q',a.2,?_⟩;obtain⟨x,r,e⟩:=h.hd;rw[e];simp
   ·rcases(ih k n z).2 with ⟨h1,k',h2,h3⟩|h1
    ·refine .inl ⟨h1,k',h2,?_⟩;show k'∈st.map (·.1);obtain⟨x,r,e⟩:=h.hd;rw[e] at h3 ⊢;exact zxa _ h3
    ·exact .inr h1
theorem Ch.inj{q e:Nat}{st:#[J]}{w:#[F]}(FP:Yu rows gs)(h:#[ak])(hw:∀ n,w=some n->∀ j:Nat,gs[j]?≠#[c,V.int,n])(nd:(st.map (·.1)).Nodup):∀ (j k:Nat) (n:Int),(j,some n)∈st->(k,some n)∈st->j=k:=by
 induction h with
 | one q w=>intro j k n h1 h2;simp at h1 h2;rw[h1.1,h2.1]
 | @step q q' e n' st w a h ih =>
   intro j k n h1 h2;rw[zw3,zxh] at nd;have key:∀ k,(k,some n')∈st->False:=fun k hk=>by
    rcases(h.mem k n' hk).2 with ⟨_,k',h2,h3⟩|⟨h1,_⟩
    ·have e:k'=q':=FP.inj k' q' n' h2 a.2;subst e;obtain⟨x,r,e⟩:=h.hd;have nd2:=nd.2;rw[e] at nd2 h3;rw[zw3,zxh] at nd2;exact nd2.1 h3
    ·exact hw n' h1 q' a.2
   rcases zwu.mp h1 with z1|z1<;>rcases zwu.mp h2 with z2|z2
   ·cases z1;cases z2;rfl
   ·cases z1;exact(key k z2).elim
   ·cases z2;exact(key j z1).elim
   ·exact ih hw nd.2 j k n z1 z2
theorem zgs{st:#[J]}{k:Nat}(nd:(st.map (·.1)).Nodup):(k∉st.map (·.1)/\newS st k=[])\/∃ w,(k,w)∈st/\newS st k=[oV w]:=by
 induction st with
 | nil=>exact .inl ⟨by simp,rfl⟩
 | cons s r ih =>
   obtain⟨p,w⟩:=s;rw[zw3,zxh] at nd;by_cases h:p=k
   ·subst h;refine .inr ⟨w,zxl,?_⟩;rcases ih nd.2 with ⟨_,e⟩|⟨w',h1,_⟩
    ·have e2:newS ((p,w) :: r) p=oV w :: newS r p:=by
      unfold newS;rw[zx2,if_pos (zwy rfl),zw3]
     rw[e2,e]
    ·exact absurd (zw0.mpr ⟨_,h1,rfl⟩) nd.1
   ·have e2:newS ((p,w) :: r) k=newS r k:=by
     unfold newS;rw[zx2,#[g,(by rw[zw1 h];decide)]]
    rw[e2];rcases ih nd.2 with ⟨h1,e⟩|⟨w',h1,e⟩
    ·exact .inl ⟨fun z=>by rcases zwu.mp z with q|q;exact h q.symm;exact h1 q,e⟩
    ·exact .inr ⟨w',zxa _ h1,e⟩
theorem Wo{st:#[J]}{xs:#[a]}{k:Nat}(nd:(st.map (·.1)).Nodup)(hk:k<xs.length):(k∉st.map (·.1)/\(Yx st xs)[k]?=xs[k]?)\/∃ w,(k,w)∈st/\(Yx st xs)[k]?=#[c,oV,w]:=by
 rw[Dm st xs k nd hk];rcases zgs (k:=k) nd with ⟨h,e⟩|⟨w,h,e⟩
 ·refine .inl ⟨h,?_⟩;rw[e];show some (xs.getD k .non)=_;rw[zxi,zws hk];rfl
 ·exact .inr ⟨w,h,by rw[e];rfl⟩
theorem Ch.lt{q e:Nat}{st:#[J]}{w:#[F]}(FP:Yu rows gs)(h:#[ak])(hq:q<rows.length):∀ s∈st,s.1<rows.length:=by
 induction h with
 | one q w=>intro s hs;simp at hs;subst hs;exact hq
 | @step q q' e n st w a h ih =>
   intro s hs;rcases zwu.mp hs with z|z
   ·subst z;exact hq
   ·refine ih ?_ s z;have:=(zwr.mp a.2).1;rw[FP.len] at this;exact this
theorem Ch.fill{q e:Nat}{st:#[J]}{w:#[F]}(FP:Yu rows gs)(h:#[ak])(hq:q<rows.length)(hw:∀ n,w=some n->O8 rows gs e n)(nd:(st.map (·.1)).Nodup):Yu rows (Yx st gs):=by
 have hlt:=h.lt FP hq;have hinj:=h.inj FP (fun n hn=>(hw n hn).2) nd;have src:∀ (k:Nat) (n:Int),(k,some n)∈st->(∃ r,rows[k]?=some r/\n∈r)/\∀ j:Nat,gs[j]?=#[c,V.int,n]->j∈st.map (·.1):=fun k n hk=>by
  rcases(h.mem k n hk).2 with ⟨h1,k',h2,h3⟩|⟨h1,rfl⟩
  ·refine⟨h1,fun j hj=>?_⟩;rw[FP.inj j k' n hj h2];obtain⟨x,r,e⟩:=h.hd;rw[e] at h3 ⊢;exact zxa _ h3
  ·exact⟨(hw n h1).1,fun j hj=>absurd hj ((hw n h1).2 j)⟩
 have cs:∀ k,k<gs.length->(k∉st.map (·.1)/\(Yx st gs)[k]?=gs[k]?)\/∃ w,(k,w)∈st/\(Yx st gs)[k]?=#[c,oV,w]:=fun k hk=>Wo nd hk;have at_:∀ (k:Nat) (n:Int),(Yx st gs)[k]?=#[c,V.int,n]->(k∉st.map (·.1)/\gs[k]?=#[c,V.int,n])\/(k,some n)∈st:=fun k n hk=>by
  have hkl:k<gs.length:=by
   have:=(zwr.mp hk).1;rw[Wd] at this;exact this
  rcases cs k hkl with ⟨h1,e⟩|⟨w',h1,e⟩
  ·exact .inl ⟨h1,by rw[<- e];exact hk⟩
  ·rw[e] at hk;cases w' with
   | none=>cases hk
   | some m=>cases hk;exact .inr h1
 refine⟨by rw[Wd];exact FP.len,fun x hx=>?_,fun k n hk=>?_,fun j k n hj hk=>?_⟩
 ·obtain⟨k,hk,rfl⟩:=zx4 hx;have hkl:k<gs.length:=by rw[Wd] at hk;exact hk
  have e0:=zws hk;rcases cs k hkl with ⟨_,e⟩|⟨w',_,e⟩
  ·rw[e,zws hkl] at e0;rw[<- #[aj,e0]];exact FP.one _ (zxp hkl)
  ·rw[e] at e0;rw[<- #[aj,e0]];exact zks w'
 ·rcases at_ k n hk with ⟨_,h1⟩|h1
  ·exact FP.may k n h1
  ·exact(src k n h1).1
 ·rcases at_ j n hj with ⟨a1,a2⟩|a1<;>rcases at_ k n hk with ⟨b1,b2⟩|b1
  ·exact FP.inj j k n a2 b2
  ·exact absurd ((src k n b1).2 j a2) a1
  ·exact absurd ((src j n a1).2 k b2) b1
  ·exact hinj j k n a1 b1
theorem Ch.out{p0 q e:Nat}{n0:Int}{w:#[F]}{st:#[J]}{S:Nat->Prop}(FP:Yu rows gs)(hS:∀ q,S q->q<rows.length/\∀ r,rows[q]?=some r->∀ n∈r,∃ q',q' < p0/\gs[q']?=#[f,n]/\S q')(h:#[ak]):w=some n0->O8 rows gs e n0->¬ S q:=by
 induction h with
 | one q w =>
   intro hw hf hs;obtain⟨r,h1,h2⟩:=hf.1;obtain⟨q',_,h3,_⟩:=(hS _ hs).2 r h1 n0 h2;exact hf.2 q' h3
 | @step q q' e n st w a h ih =>
   intro hw hf hs;obtain⟨r,h1,h2⟩:=a.1;obtain⟨q'',_,h3,h4⟩:=(hS q hs).2 r h1 n h2;have:q''=q':=FP.inj q'' q' n h3 a.2;subst this;exact ih hw hf h4
theorem Oh.behind{p0 q e:Nat}{n0:Int}{st:#[J]}(FP:Yu rows gs)(S0:Oh rows gs p0)(h:Ch rows gs q st e (some n0))(hf:O8 rows gs e n0)(hq:q<rows.length)(nd:(st.map (·.1)).Nodup):Oh rows (Yx st gs) p0:=by
 obtain⟨S,hp,hS⟩:=S0;have outAll:∀ x∈st.map (·.1),¬ S x:=fun x hx=>by
  obtain⟨st',h1,_⟩:=h.drop x hx;exact h1.out FP hS rfl hf
 refine⟨S,hp,fun q1 h1=>⟨(hS q1 h1).1,fun r hr n hn=>?_⟩⟩;obtain⟨q',h2,h3,h4⟩:=(hS q1 h1).2 r hr n hn;refine⟨q',h2,?_,h4⟩;have hkl:q' < gs.length:=(zwr.mp h3).1;rcases Wo nd hkl with ⟨_,e⟩|⟨w,h5,_⟩
 ·rw[e];exact h3
 ·exact absurd h4 (outAll q' (zw0.mpr ⟨_,h5,rfl⟩))
structure Xk(rows:#[E])(gs:#[a])(p:Nat)(st:#[J])(e:Nat)(w:#[F]):Prop where
 ch:Ch rows gs p st e w
 free:∀ n,w=some n->O8 rows gs e n/\∀ q k,#[Y,p,q,k]->Uw rows gs q->st.length<=k+1
 none:w=none->(∀ q k,Walk rows gs p q k->¬ Uw rows gs q)/\(∀ q k,Walk rows gs p q k->q<=e)/\∀ k,#[Y,p,e,k]->st.length<=k+1
theorem Xk.nodup{p e:Nat}{st:#[J]}{w:#[F]}(c:Xk rows gs p st e w):(st.map (·.1)).Nodup:=by
 refine c.ch.nodup fun k hk=>?_;cases h:w with
 | none=>exact(c.none h).2.2 k hk
 | some n=>exact(c.free n h).2 e k hk ⟨n,(c.free n h).1⟩
theorem Xk.fill{p e:Nat}{st:#[J]}{w:#[F]}(FP:Yu rows gs)(c:Xk rows gs p st e w)(hp:p<rows.length):Yu rows (Yx st gs):=c.ch.fill FP hp (fun n hn=>(c.free n hn).1) c.nodup
theorem zgt(FP:Yu rows gs)(hp:p<rows.length)(ha:∀ q n,gs[q]?=#[c,V.int,n]->q<p)(hn:∀ q k,#[Y,p,q,k]->¬ Uw rows gs q):Oh rows gs p:=by
 refine⟨fun q=>∃ k,#[Y,p,q,k],⟨0,.nil⟩,fun q ⟨k,hk⟩=>⟨?_,fun r hr n hnr=>?_⟩⟩
 ·cases hk with
  | nil=>exact hp
  | snoc _ a =>
    have:=(zwr.mp a.2).1;rw[FP.len] at this;exact this
 ·by_cases hx:∃ j:Nat,gs[j]?=some (V.int n)
  ·obtain⟨j,hj⟩:=hx;exact⟨j,ha j n hj,hj,k+1,.snoc hk ⟨⟨r,hr,hnr⟩,hj⟩⟩
  ·exact absurd ⟨n,⟨r,hr,hnr⟩,fun j hj=>hx ⟨j,hj⟩⟩ (hn q k hk)
end
section
variable{rows:#[E]}{gs:#[a]}{p:Nat}
structure Bfs(rows:#[E])(gs:#[a])(p:Nat)(line:List Nat)(dep:Nat->Nat):Prop where
 nodup:line.Nodup
 memp:p∈line
 d0:dep p=0
 walk:∀ q∈line,#[Y,p,q,dep q]
 sorted:∀ (i j q q':Nat),i<=j->line[i]?=some q->line[j]?=some q'->dep q<=dep q'
def Done(rows:#[E])(gs:#[a])(line:List Nat)(dep:Nat->Nat)(dn:Nat):Prop:=∀ (i q:Nat),i<dn->line[i]?=some q->∀ n q',adjN rows gs q n q'->q'∈line/\dep q'<=dep q+1
theorem zel(rows:#[E])(gs:#[a])(p:Nat):Bfs rows gs p [p] fun _=>0:=by
 refine⟨by simp,by simp,rfl,fun q hq=>?_,fun i j q q' _ _ _=>zwz _⟩;simp at hq;subst hq;exact .nil
variable{line:List Nat}{dep:Nat->Nat}{dn:Nat}
theorem Bfs.reach(B:Bfs rows gs p line dep)(D:Done rows gs line dep dn)(h:#[Y,p,q,k]):(q∈line/\dep q<=k)\/∃ j q',dn<=j/\line[j]?=some q'/\dep q' < k:=by
 induction h with
 | nil=>exact .inl ⟨B.memp,by rw[B.d0];exact zwz _⟩
 | @snoc q q' k n h a ih =>
   rcases ih with ⟨h1,h2⟩|⟨j,x,h1,h2,h3⟩
   ·obtain⟨i,hi,e⟩:=zx4 h1;have e':line[i]?=some q:=by rw[zws hi,e]
    by_cases hd:i<dn
    ·obtain⟨a1,a2⟩:=D i q hd e' n q' a;exact .inl ⟨a1,by omega⟩
    ·exact .inr ⟨i,q,by omega,e',by omega⟩
   ·exact .inr ⟨j,x,h1,h2,by omega⟩
theorem Bfs.full(B:Bfs rows gs p line dep)(D:Done rows gs line dep line.length)(h:#[Y,p,q,k]):q∈line/\dep q<=k:=by
 rcases B.reach D h with z|⟨j,x,h1,h2,_⟩
 ·exact z
 ·have:=(zwr.mp h2).1;omega
theorem Bfs.early(B:Bfs rows gs p line dep)(D:Done rows gs line dep dn)(hh:line[dn]?=some here)(h:#[Y,p,q,k])(hk:k<dep here):∃ i,i<dn/\line[i]?=some q:=by
 rcases B.reach D h with ⟨h1,h2⟩|⟨j,x,h1,h2,h3⟩
 ·obtain⟨i,hi,e⟩:=zx4 h1;have e':line[i]?=some q:=by rw[zws hi,e]
  refine⟨i,?_,e'⟩;by_cases hd:i<dn
  ·exact hd
  ·have:=B.sorted dn i here q ⋯ hh e';omega
 ·have:=B.sorted dn j here x h1 hh h2;omega
theorem Bfs.fewest(B:Bfs rows gs p line dep)(D:Done rows gs line dep dn)(hh:line[dn]?=some here)(hno:∀ (i q:Nat),i<dn->line[i]?=some q->¬ Uw rows gs q)(h:#[Y,p,q,k])(hf:Uw rows gs q):dep here+1<=k+1:=by
 by_cases hk:k<dep here
 ·obtain⟨i,hi,e⟩:=B.early D hh h hk;exact absurd hf (hno i q hi e)
 ·omega
def Vt(dep:Nat->Nat)(q d:Nat):Nat->Nat:=fun x=>if x=q then d else dep x
theorem Bfs.app(B:Bfs rows gs p line dep)(hh:line[dn]?=some here)(near:∀ x∈line,dep x<=dep here+1)(a:adjN rows gs here n q')(hn:q'∉line) :
  Bfs rows gs p (line++[q']) (Vt dep q' (dep here+1))/\(∀ x∈line,Vt dep q' (dep here+1) x=dep x)/\∀ x∈line++[q'],Vt dep q' (dep here+1) x<=dep here+1:=by
 have old:∀ x∈line,Vt dep q' (dep here+1) x=dep x:=fun x hx=>by
  unfold Vt;rw[#[g,fun (z:x=q')=>hn (by rw[<- z];exact hx)]]
 have new:Vt dep q' (dep here+1) q'=dep here+1:=by unfold Vt;rw[#[l,rfl]]
 have hhm:=zw4 hh;have all:∀ x∈line++[q'],Vt dep q' (dep here+1) x<=dep here+1:=fun x hx=>by
  rcases zw2.mp hx with z|z
  ·rw[old x z];exact near x z
  ·rw[zwv.mp z,new];exact zwz _
 refine⟨⟨Ci B.nodup hn,zxf _ B.memp,by rw[old p B.memp];exact B.d0,fun q hq=>?_,fun i j x y hij hx hy=>?_⟩,old,all⟩
 ·rcases zw2.mp hq with z|z
  ·rw[old q z];exact B.walk q z
  ·rw[zwv.mp z,new];exact .snoc (B.walk here hhm) a
 ·by_cases hj:j<line.length
  ·rw[zx0 hj] at hy;rw[zx0 ⋯] at hx;rw[old x (zw4 hx),old y (zw4 hy)];exact B.sorted i j x y hij hx hy
  ·rw[zxx ⋯] at hy;have:y=q':=by
    cases e:j-line.length with
    | zero=>rw[e] at hy;simpa using hy.symm
    | succ m=>rw[e] at hy;simp at hy
   subst this;rw[new];exact all x (zw4 hx)
theorem Done.app(D:Done rows gs line dep dn)(hd:dn<=line.length)(hl:∃ r,line'=line++r)(he:∀ x∈line,dep' x=dep x):Done rows gs line' dep' dn:=fun i q hi e n q' a=>by
 obtain⟨r,rfl⟩:=hl;rw[zx0 ⋯] at e;obtain⟨h1,h2⟩:=D i q hi e n q' a;exact⟨zxf _ h1,by rw[he q' h1,he q (zw4 e)];exact h2⟩
def Tp(rows:#[E])(gs:#[a])(p:Nat)(line:List Nat)(dep:Nat->Nat)(fr:Nat->Option (Nat×Int)):Prop:=fr p=none/\∀ q∈line,q≠p->∃ par n,fr q=some (par,n)/\par∈line/\adjN rows gs par n q/\dep q=dep par+1
theorem Tp.back(d0:dep p=0)(F:Tp rows gs p line dep fr):∀ (d q e:Nat) (w:Option Int) (st:List (Nat×Option Int)),dep q=d->q∈line->#[ak]->∃ pre,Ch rows gs p (pre++st) e w/\pre.length=d:=fun d=>by
 induction d with
 | zero =>
   intro q e w st hd hq h;by_cases hp:q=p
   ·subst hp;exact⟨[],h,rfl⟩
   ·obtain⟨par,n,_,_,_,h4⟩:=F.2 q hq hp;omega
 | succ d ih =>
   intro q e w st hd hq h;by_cases hp:q=p
   ·subst hp;rw[d0] at hd;cases hd
   ·obtain⟨par,n,h1,h2,h3,h4⟩:=F.2 q hq hp;obtain⟨pre,h5,h6⟩:=ih par e w _ ⋯ h2 (.step h3 h);exact⟨pre++[(par,some n)],by rw[zyf];exact h5,by rw[zwt,h6];rfl⟩
theorem zbq{here:Nat}{n:Int}{st:#[J]}(B:Bfs rows gs p line dep)(D:Done rows gs line dep dn)(hh:line[dn]?=some here)(hno:∀ (i q:Nat),i<dn->line[i]?=some q->¬ Uw rows gs q)(hf:O8 rows gs here n)(c:Ch rows gs p st here (some n))(hl:st.length=dep here+1):Xk rows gs p st here (some n) :=
 ⟨c,fun m e=>by cases e;exact⟨hf,fun q k hk hq=>by rw[hl];exact B.fewest D hh hno hk hq⟩,(fun z=>nomatch z)⟩
theorem zbr{e:Nat}{st:#[J]}(B:Bfs rows gs p line dep)(D:Done rows gs line dep line.length)(hno:∀ q∈line,¬ Uw rows gs q)(he:∀ q∈line,q<=e)(c:Ch rows gs p st e none)(hl:st.length=dep e+1):Xk rows gs p st e none :=
 ⟨c,(fun m z=>nomatch z),fun _=>⟨fun q k hk=>hno q (B.full D hk).1,fun q k hk=>he q (B.full D hk).1,fun k hk=>by rw[hl];have:=(B.full D hk).2;omega⟩⟩
end
end G
namespace L2
open PySem PySem.Spec PyProof.Rows
inductive zku(x:V)(vs:#[a])(H:Hp)(Q:VK):Prop where
 | mk(l:Addr)(xs:#[a])(y:V)(j:Nat)(_:x=.ref l)(_:vs=[y])(_:#[y,H,l,xs])(_:Rq y=true)(_:xs.all Rq=true)(_:(∃ z,xs[j]?=some z/\eqV z y=true))(_:(∀ m z,m<j->xs[m]?=some z->eqV z y=false))(_:Q (.int (j:Nat)) H)
theorem zgu:MtM X "list.index" zku:=by
 intro pins s σ H x vs v us Q I rx rv h;obtain⟨l,xs,y,j,rfl,rfl,hH,fy,fs,⟨zj,hzj,hej⟩,hno,q⟩:=h;cases rx;obtain⟨u,rfl,ru⟩:=rv.one;obtain⟨z,its,n,r,hl,e⟩:=I.lstM hH;have hjx:j<xs.length:=(zwr.mp hzj).1;have hj:j<its.toArray.size:=by rw[zw5];omega
 have hline:=O5;have ev:∀ (m:Nat) (hm:m<its.toArray.size) (w:V),xs[m]?=some w->eqU y (its.toArray[m]'hm)=eqV w y:=fun m hm w hw=>by
  obtain⟨uu,hu,ruu⟩:=r.get hw;have:its.toArray[m]'hm=uu:=by
   have h1:its[m]?=some (its.toArray[m]'hm):=by simp
   rw[h1] at hu;exact #[aj,hu]
  rw[this];refine zbi ruu ?_;exact zyx.mp fs w (zw4 hw)
 refine call_meets PySem.F.slot_list_index ⟨_,e,rfl⟩ PySem.F.entry_list_index (PySem.F.args_list_index_2 _ _) (SeqAt.list_indexAt l its.toArray n none #[] u (eqU y) j hj ⋯ (by rw[ev j hj zj hzj];exact hej) fun m hm hmj=>?_) ⟨e,fun w hw=>Rr ru fy r fs w (by simpa using hw),?_⟩
 ·have hmx:m<xs.length:=by rw[zw5] at hm;omega
  have hw:xs[m]?=some (xs[m]'hmx):=zws hmx;rw[ev m hm _ hw];exact hno m _ hmj hw
 ·exact⟨.int (j:Nat),H,I.tok _,#[C,_],q⟩
end L2
namespace G
open PySem PySem.Spec PyProof.Rows L2
theorem zmf{H:Hp}{ts:#[a]}{st:#[J]}{i:Nat}{s:Nat×Option Int}(h:Yf H ts (st.map V7))(e:st[i]?=some s):∃ t,ts[i]?=#[b,t]/\H t=some (.tup (V7 s)):=by
 have e':(st.map V7)[i]?=#[c,V7,s]:=by rw[zwx,e];rfl
 exact h.getR e'
theorem Ih(ho:oneV z):eqV z (.int n)=true↔z=.int n:=by
 rcases ho with rfl|⟨i,rfl⟩
 ·constructor
  ·intro h;cases h
  ·intro h;cases h
 ·show (i == n)=true↔_;constructor
  ·intro h;rw[beq_iff_eq.mp h]
  ·intro h;cases h;simp
theorem zgv(ho:∀ x∈gs,oneV x):inV (.int n) gs=true↔∃ j:Nat,gs[j]?=some (V.int n):=by
 unfold inV;rw[List.any_eq_true];constructor
 ·rintro⟨z,hz,e⟩;obtain⟨j,hj,rfl⟩:=zx4 hz;exact⟨j,by rw[zws hj,(Ih (ho _ hz)).mp e]⟩
 ·rintro⟨j,hj⟩;have:=zw4 hj;exact⟨_,this,(Ih (ho _ this)).mpr rfl⟩
theorem zis(r:#[p]):PyData.canLayAll0 (X9 (r.map Dt.int))=true/\PyData.depthAll (X9 (r.map Dt.int))<=1:=by
 induction r with
 | nil=>exact⟨rfl,by decide⟩
 | cons x r ih =>
   obtain⟨h1,h2⟩:=ih;refine⟨by rw[zw3,X9,PyData.canLayAll0,h1];rfl,?_⟩;rw[zw3,X9,PyData.depthAll];have:PyData.depth (toPy (Dt.int x))<=1:=by simp[toPy,PyData.depth]
   omega
theorem zc6(r:#[p]):shD (.lst (r.map Dt.int)):=by
 obtain⟨a1,a2⟩:=zis r;unfold shD SeqAt.shaped;rw[toPy,PyData.canLay0,a1,Bool.true_and];refine zwy ?_;rw[PyData.depth];omega
theorem zc7:shD (.lst []):=zc6 []
theorem zc8(f:α->Dt)(xs:List α):eqD (.lst (xs.map f)) (.lst [])=xs.isEmpty:=by
 cases xs with
 | nil=>simp[eqD,Om]
 | cons x xs=>simp[eqD,Om]
structure zno(rows:#[E])(gs:#[a])(i:Nat):Prop where
 len:gs.length=i
 one:∀ x∈gs,oneV x
 may:∀ (k:Nat) (n:Int),gs[k]?=#[f,n]->∃ r,rows[k]?=some r/\n∈r
 inj:∀ (j k:Nat) (n:Int),gs[j]?=#[f,n]->gs[k]?=#[f,n]->j=k
theorem Yu.drop(F:Yu rows gs)(p:Nat):Yu rows (gs.set p .non):=by
 have cs:∀ (k:Nat) (n:Int),(gs.set p .non)[k]?=#[f,n]->k≠p/\gs[k]?=#[f,n]:=fun k n h=>by
  by_cases e:k=p
  ·subst e;by_cases hk:k<gs.length
   ·rw[zxt hk] at h;cases h
   ·rw[List.getElem?_eq_none (by rw[zyg];omega)] at h;cases h
  ·rw[zxq (Ne.symm e)] at h;exact⟨e,h⟩
 refine⟨by rw[zyg];exact F.len,fun x hx=>?_,fun k n h=>F.may k n (cs k n h).2,fun j k n h1 h2=>F.inj j k n (cs j n h1).2 (cs k n h2).2⟩;rcases List.mem_or_eq_of_mem_set hx with z|z
 ·exact F.one x z
 ·exact .inl z
theorem Yu.without(F:Yu rows gs)(hx:gs[p]?=some x)(f:Int->Bool)(hf:∀ n,f n=false->x=.int n):Yu (rows.map fun r=>r.filter f) (gs.set p .non):=by
 have D:=F.drop p;refine⟨by rw[zwq];exact D.len,D.one,fun k n h=>?_,D.inj⟩;obtain⟨r,h1,h2⟩:=D.may k n h;refine⟨r.filter f,by rw[zwx,h1];rfl,zxu.mpr ⟨h2,?_⟩⟩;cases e:f n with
 | true=>rfl
 | false =>
   have hx':=hf n e;subst hx';have hk:k≠p:=fun z=>by
    subst z;rw[zxt (zwr.mp hx).1] at h;cases h
   rw[zxq (Ne.symm hk)] at h;exact absurd (F.inj k p n h hx) hk
theorem X5(h1:Gr t σ H b)(h:∀ H1,Same H H1->if b=true then A D σ H1 else B D σ H1):Ip t A B D σ H:=h1 _ fun H1 s1=>h H1 s1
def U9(xs:List Nat):#[a]:=xs.map fun k=>V.int (k:Nat)
end G
namespace G
open PySem PySem.Spec PyProof.Rows L2
inductive Ct(K:Frag)(vs:#[a])(H:Hp)(Q:VK)(_:XK):Prop where
 | mk(l lg:Addr)(ls:#[z])(rows:#[E])(nu:#[p])(gs:#[a])(p:Nat)(_:vs=[.ref l,.ref lg,.int p])(_:H l=some (.lst (ls.map V.ref)))(_:ILs H ls rows)(_:Pj rows nu)(_:#[y,H,lg,gs])(_:Yu rows gs)(_:p<rows.length)(_:gs[p]?=some .non)(_:∀ lt ts st e w H',H' lt=#[w,ts]->Yf H' ts (st.map V7)->Xk rows gs p st e w->#[q]->H lt=none->#[M,lt])
theorem Xk.len{rows:#[E]}{gs:#[a]}{p e:Nat}{st:#[J]}{w:#[F]}(FP:Yu rows gs)(hp:p<rows.length)(c:Xk rows gs p st e w):st.length<=rows.length:=by
 have hlt:=c.ch.lt FP hp;have:=c.nodup.length_le_of_subset (l₂:=List.range rows.length) fun x hx=>by
  obtain⟨s,hs,rfl⟩:=zw0.mp hx;exact zxz.mpr (hlt s hs)
 rw[zwq,zxs] at this;exact this
end G
namespace L2
open PySem PySem.Spec PyProof.Rows
section
variable{X:Cx}{pins:#[x]}{σ:List (Option V)}{H H':Hp}{s:Shared}{h':Heap}
theorem Inv.turnedL{t':Nat}{fp:#[z]}(I:#[h])(hf:∀ b∈fp,FpOk X pins H b)(k:∀ b o,b∉fp->#[O,b]=#[d]->h'.get? b=#[d]):#[G,H,{ s with heap:=h',toks:=t' }]:=by
 have nit:∀ b u,H b=some u->b∉fp:=fun b u e z=>by rw[(hf b z).1] at e;cases e
 refine I.step (g':=s.gens) (d':=s.drawn) (ch:=fp) (fun b hb=>?_) (fun b o _ _ hc e _=>k b o hc e) (fun b o _ _ hc e _=>⟨o.slots,k b o hc e⟩) (fun _ _ _ _ n=>n)
  (fun b o hc e=>⟨o,k b o hc e⟩) (fun _ _ e=>e) (fun _ _ _ e=>e) (fun b ps e=>⟨#[],by rw[e];simp⟩) (fun m hm=>?_) (fun b u e=>?_) I.bare
 ·obtain⟨f0,f1,f2,f3,f4,f5⟩:=hf b hb;exact⟨f3,f1,f4,f5⟩
 ·obtain⟨o,es,ep,ho,r⟩:=hm;exact⟨o,es,ep,k _ o (fun z=>(hf _ z).2.1 rfl) ho,r⟩
 ·refine(I.hok b u e).stay (fun c v hc q=>k c v ?_ q) (fun _ q=>q) fun _ _ q=>q;rcases hc with z|z
  ·rw[z];exact nit b u e
  ·exact nit c _ z
theorem Inv.turnLay{t':Nat}{fp:#[z]}{a:Addr}{o:HO}(I:#[h])(hf:∀ b∈fp,FpOk X pins H b)(k:∀ b o,b∉fp->#[O,b]=#[d]->h'.get? b=#[d])(hp:s.heap.objs.size<=a)(new:Y0 X.prog X.w (upd H a o) h' a o):#[G,upd H a o,{ s with heap:=h',toks:=t' }]:=by
 have nit:∀ b u,H b=some u->b∉fp:=fun b u e z=>by rw[(hf b z).1] at e;cases e
 have hn:H a=none:=I.hok.fresh hp;have ne:∀ b u,#[O,b]=some u->b≠a:=fun b u e=>zxj (zw7 (Heap.lt_size e) hp);refine I.step (g':=s.gens) (d':=s.drawn) (ch:=fp) (fun b hb=>?_) (fun b o _ _ hc e _=>k b o hc e) (fun b o _ _ hc e _=>⟨o.slots,k b o hc e⟩) (fun b u _ e n=>by rw[Zi (ne b u e)];exact n)
  (fun b o hc e=>⟨o,k b o hc e⟩) (fun b _ e=>by rw[Zi (Zh e hn)];exact e) (fun b _ _ e=>by rw[Zi (Zh e hn)];exact e) (fun b ps e=>⟨#[],by rw[Zi (Zh e hn),e];simp⟩) (fun m hm=>?_) (fun b u e=>?_) I.bare
 ·obtain⟨f0,f1,f2,f3,f4,f5⟩:=hf b hb;exact⟨f3,f1,f4,f5⟩
 ·obtain⟨o,es,ep,ho,r⟩:=hm;exact⟨o,es,ep,k _ o (fun z=>(hf _ z).2.1 rfl) ho,r⟩
 ·by_cases hb:b=a
  ·subst hb;rw[Zc] at e;cases e;exact new
  ·rw[Zi hb] at e;refine(I.hok b u e).stay (fun c v hc q=>k c v ?_ q) (fun c q=>by rw[Zi (Zh q hn)];exact q) fun c _ q=>by rw[Zi (Zh q hn)];exact q
   rcases hc with z|z
   ·rw[z];exact nit b u e
   ·exact nit c _ z
end
def Ite(K:Frag)(a:Addr):It :=
 ⟨fun i H=>∃ xs x,SqL K H a xs/\xs[i]?=some x,fun i H x H'=>∃ p y,H p=none/\(∀ xs,SqL K H a xs->xs[i]?=some y)/\x=.ref p/\H'=upd H p (.tup [.int (i:Nat),y]),fun i H=>∃ xs,SqL K H a xs/\xs.length<=i⟩
theorem zem{P:Program}{w:World}{K:Frag}{elts:List Expr}{k:Nat}{tp:Pos}(a e it:Addr)(hne:e≠it):Bv P w K (.Tuple elts k tp) (Ite K a) [e,it] e (fun i h=>(∃ old,IsEnum h e it (i:Nat) old)/\h.IsListIter it a i) where
 mem:=by simp
 obj:=fun i h st b hb=>by
  obtain⟨⟨old,h1⟩,h2⟩:=st;have e:b=e\/b=it:=by simpa using hb
  rcases e with rfl|rfl
  ·exact⟨_,h1,fun v z=>by cases z⟩
  ·obtain⟨o,e,c,d⟩:=h2;exact⟨o,e,fun v z=>by rw[d] at z;cases z⟩
 keep:=fun i h h' st k=>⟨let ⟨old,h1⟩:=st.1;⟨old,k e (by simp) _ h1⟩,st.2.at fun o q=>k it (by simp) o q⟩
 item:=by
  intro X hP hw hK hc i pins s σ H E I hf st hg;subst hP hw hK;obtain⟨xs,x,hq,hx⟩:=hg;obtain⟨its,rv,p,hz⟩:=I.list hq;obtain⟨u,hu,ru⟩:=rv.get hx;obtain⟨⟨old,h1⟩,h2⟩:=st;refine wpAny_pyNext_enum_item h1 h2 p.isList (x:=u) (by simpa using hu) hne fun h' o1 o2 o3 o4 o5=>?_;refine#[t,_,wpAny_letOwnedTupleGo_enum o1 fun h'' e1 sb=>?_];have hes:e≠s.heap.objs.size:=fun z=>by
   exact zyi _ (z▸Heap.lt_size h1)
  have kk:∀ b o,b∉[e,it]->#[O,b]=#[d]->h''.get? b=#[d]:=fun b o hb q=>by
   have hb':b≠e/\b≠it:=by simpa using hb
   exact(sb.2 b hb'.1).trans (o5 b o hb'.1 hb'.2 q)
  have new:h''.get? s.heap.objs.size=some { cls:=Value.type "tuple",data:=Data.seq #[Value.int (i:Nat) s.toks,u] }:=(sb.2 _ (Ne.symm hes)).trans o3;have line:=O5;refine⟨.ref s.heap.objs.size,_,I.turnLay (t':=s.toks+1) (o:=.tup [.int (i:Nat),x]) hf kk (zwz _) ⟨?_,_,.cons #[C,s.toks] (.cons ru .nil),⟨_,new,rfl,_,rfl⟩⟩,rfl,⟨_,x,I.hok.fresh (zwz _),fun ys hy=>by rw[I.list_inj hy hq];exact hx,rfl,rfl⟩,⟨⟨u,e1⟩,o2.at fun o q=>(sb.2 it (Ne.symm hne)).trans q⟩,fun b hb=>?_⟩
  ·show 2<=sizeLine;rw[sizeLine_eq];decide
  ·have hb':b=e\/b=it:=by simpa using hb
   have hlt:b<s.heap.objs.size:=by
    rcases hb' with rfl|rfl
    ·exact Heap.lt_size h1
    ·obtain⟨o,q,_⟩:=h2;exact Heap.lt_size q
   rw[Zi (zxj hlt)];exact(hf b hb).1
 done:=by
  intro X hP hw hK hc i pins s σ H E I hf st hg;subst hP hw hK;obtain⟨xs,hq,hx⟩:=hg;obtain⟨its,rv,p,hz⟩:=I.list hq;obtain⟨⟨old,h1⟩,h2⟩:=st;have hl:=rv.length;exact wpAny_pyNext_enum_end (I.ok.hd hc) h1 h2 p.isList (by simp;omega) fun h' eb=>⟨rfl,I.turnedL (t':=s.toks) hf fun b o hb q=>eb b o (fun z=>hb (by simp[z])) q⟩
 self:=fun _ _ _ _ _ st h=>by
  obtain⟨⟨old,h1⟩,h2⟩:=st;exact wpAny_pyIter_enum h1 h
inductive zkv(K:Frag)(R:It->Hp->Prop)(vs:#[a])(H1:Hp):Prop where
 | mk(a)(_:vs=[.ref a])(_:(∃ xs,SqL K H1 a xs))(_:R (Ite K a) H1)
def zmg(K:Frag)(ta:TA):TI:=fun σ H R=>ta σ H fun vs H1=>zkv K R vs H1
theorem zc9{X:Cx}{K:Frag}{elts:List Expr}{k:Nat}{tp:Pos}{a:Expr}{ta:TA}{p pos:Pos}(hK:X.K=K)(hg:Gl X "enumerate")(hm:X.mg "enumerate"=none)(ha:PA X [a] ta)(hs:starEach [a] X.env=[(false,#[D,a])]:=by rfl):PI X (.Tuple elts k tp) (.Call (.Name "enumerate" p) [a] [] pos) (zmg K ta):=by
 subst hK;intro pins s σ H R I h;refine Call_ (O4 I hg hm boot_enumerate (PyProof.Rows.callWith_type1 (thn (ha pos pins s σ H _ I h) fun us s1 ⟨vs,H1,I1,r1,q1⟩=>?_) hs rfl));obtain⟨a,e,⟨xs,hq⟩,q⟩:=q1;subst e;obtain⟨u,rfl,ru⟩:=Rm r1;cases ru;obtain⟨its,rv,pl,hz⟩:=I1.list hq;refine call_enumerate_list pl.isList fun h' e1 e2 e3 e4=>?_;refine wpAny_pyIter_enum e1 ?_;refine⟨_,[s1.heap.objs.size+1,s1.heap.objs.size],_,_,H1,rfl,I1.kept (t':=s1.toks) e4,zem a _ _ (Nat.succ_ne_self _),⟨⟨_,e1⟩,e2⟩,fun b hb=>?_,q⟩;have e:b=s1.heap.objs.size+1\/b=s1.heap.objs.size:=by simpa using hb
 rcases e with rfl|rfl
 ·exact I1.fpOk (Nat.le_succ _) (I1.hok.fresh (Nat.le_succ _))
 ·exact I1.fpOk (zwz _) (I1.hok.fresh (zwz _))
theorem zgw{K:Frag}{a:Addr}{xs:#[a]}{g:TG}{tb:TS}{D:Q7}{σ:St}{H:Hp}(Pv:Nat->St->Hp->Prop)(h0:Pv 0 σ H)(hl:∀ i σ H,i<=xs.length->Pv i σ H->SqL K H a xs)
  (hs:∀ i x p σ H,xs[i]?=some x->Pv i σ H->H p=none->g (.ref p) σ (upd H p (.tup [.int (i:Nat),x])) fun σ2 H2=>tb { D with nx:=Pv (i+1),ct:=Pv (i+1),bk:=D.nx } σ2 H2) (hd:∀ σ H,Pv xs.length σ H->D.nx σ H) :
  ∃ W:Nat->Nat->St->Hp->Prop,(∃ m,W 0 m σ H)/\∀ i m σ H,W i m σ H ->
    ((Ite K a).stop i H/\D.nx σ H)\/((Ite K a).go i H/\∃ N:St->Hp->Prop,(∀ σ' H',N σ' H'->∃ m',m' < m/\W (i+1) m' σ' H')/\∀ x H',(Ite K a).yld i H x H'->g x σ H' fun σ2 H2=>tb { D with nx:=N,ct:=N,bk:=D.nx } σ2 H2):=by
 refine⟨fun i m σ H=>m=xs.length-i/\i<=xs.length/\Pv i σ H,⟨xs.length,by simp,zxk _,h0⟩,?_⟩;rintro i m σ H ⟨rfl,hi,p⟩;have q:=hl i σ H hi p;by_cases hlt:i<xs.length
 ·refine .inr ⟨⟨xs,xs[i],q,by simp[hlt]⟩,Pv (i+1),fun σ' H' p'=>⟨xs.length-(i+1),by omega,rfl,hlt,p'⟩,fun x H' y=>?_⟩;obtain⟨t,y,h1,h2,rfl,rfl⟩:=y;exact hs i y t σ _ (h2 xs q) p h1
 ·have e:i=xs.length:=by omega
  subst e;exact .inl ⟨⟨xs,q,zwz _⟩,hd σ H p⟩
def Itz(K:Frag)(a b:Addr):It :=
 ⟨fun i H=>∃ xs ys x y,SqL K H a xs/\SqL K H b ys/\xs[i]?=some x/\ys[i]?=some y,fun i H x H'=>∃ p y z,H p=none/\(∀ xs,SqL K H a xs->xs[i]?=some y)/\(∀ ys,SqL K H b ys->ys[i]?=some z)/\x=.ref p/\H'=upd H p (.tup [y,z]),
  fun i H=>∃ xs ys,SqL K H a xs/\SqL K H b ys/\(xs.length<=i\/ys.length<=i)⟩
theorem zgx{P:Program}{w:World}{K:Frag}{elts:List Expr}{k:Nat}{tp:Pos}(l1 l2 z TI TO i1 i2:Addr)(hz:ZipApart z TI TO i1 i2 l1 l2):Bv P w K (.Tuple elts k tp) (Itz K l1 l2) [z,TO,i1,i2,TI] z
  (fun i h=>IsZip h z TI TO Value.none/\IsPair h TI (Value.ref i1) (Value.ref i2)/\(∃ a b,IsPair h TO a b)/\h.IsListIter i1 l1 i/\h.IsListIter i2 l2 i) where
 mem:=by simp
 obj:=fun i h st b hb=>by
  obtain⟨h1,h2,⟨a,b',h3⟩,h4,h5⟩:=st;have e:b=z\/b=TO\/b=i1\/b=i2\/b=TI:=by simpa using hb
  rcases e with rfl|rfl|rfl|rfl|rfl
  ·exact⟨_,h1,fun v z=>by cases z⟩
  ·exact⟨_,h3,fun v z=>by cases z⟩
  ·obtain⟨o,e,c,d⟩:=h4;exact⟨o,e,fun v z=>by rw[d] at z;cases z⟩
  ·obtain⟨o,e,c,d⟩:=h5;exact⟨o,e,fun v z=>by rw[d] at z;cases z⟩
  ·exact⟨_,h2,fun v z=>by cases z⟩
 keep:=fun i h h' st k=>by
  obtain⟨h1,h2,⟨a,b',h3⟩,h4,h5⟩:=st;exact⟨k z (by simp) _ h1,k TI (by simp) _ h2,⟨a,b',k TO (by simp) _ h3⟩,h4.at fun o q=>k i1 (by simp) o q,h5.at fun o q=>k i2 (by simp) o q⟩
 item:=by
  intro X hP hw hK hc i pins s σ H E I hf st hg;subst hP hw hK;obtain⟨xs,ys,x,y,hq,hq2,hx,hy⟩:=hg;obtain⟨its,rv,p,_⟩:=I.list hq;obtain⟨its2,rv2,p2,_⟩:=I.list hq2;obtain⟨u,hu,ru⟩:=rv.get hx;obtain⟨u2,hu2,ru2⟩:=rv2.get hy;obtain⟨h1,h2,⟨a,b',h3⟩,h4,h5⟩:=id st;refine wpAny_pyNext_zip_item hz h1 h2 h3 h4 h5 p.isList p2.isList (x:=u) (y:=u2) (by simpa using hu) (by simpa using hu2) fun h' o1 o2 o3 o4 o5 o6 o7=>?_;refine#[t,_,wpAny_letOwnedTupleGo_zip o1 fun h'' e1 sb=>?_];have lt:∀ b o,#[O,b]=#[d]->b≠s.heap.objs.size:=fun b o q=>zxj (Heap.lt_size q);have kk:∀ b o,b∉[z,TO,i1,i2,TI]->#[O,b]=#[d]->h''.get? b=#[d]:=fun b o hb q=>by
   have hb':b≠z/\b≠TO/\b≠i1/\b≠i2/\b≠TI:=by simpa using hb
   exact(sb.2 b hb'.1).trans (o7 b o hb'.1 hb'.2.1 hb'.2.2.1 hb'.2.2.2.1 q)
  have new:h''.get? s.heap.objs.size=some { cls:=Value.type "tuple",data:=Data.seq #[u,u2] }:=(sb.2 _ (Ne.symm (lt _ _ h1))).trans o5;refine⟨.ref s.heap.objs.size,_,I.turnLay (t':=s.toks) (o:=.tup [x,y]) hf kk (zwz _) ⟨?_,_,.cons ru (.cons ru2 .nil),⟨_,new,rfl,_,rfl⟩⟩,rfl,⟨_,x,y,I.hok.fresh (zwz _),fun zs hy'=>by rw[I.list_inj hy' hq];exact hx,fun zs hy'=>by rw[I.list_inj hy' hq2];exact hy,rfl,rfl⟩,
   ⟨e1,(sb.2 _ hz.TIz).trans (o7 _ _ hz.TIz hz.TITO hz.TIi1 hz.TIi2 h2),⟨_,_,(sb.2 _ hz.TOz).trans o2⟩,o3.at fun o q=>(sb.2 _ hz.i1z).trans q,o4.at fun o q=>(sb.2 _ hz.i2z).trans q⟩,fun b hb=>?_⟩
  ·show 2<=sizeLine;rw[sizeLine_eq];decide
  ·have hne:b≠s.heap.objs.size:=by
    have e:b=z\/b=TO\/b=i1\/b=i2\/b=TI:=by simpa using hb
    rcases e with rfl|rfl|rfl|rfl|rfl
    ·exact lt _ _ h1
    ·exact lt _ _ h3
    ·obtain⟨o,q,_⟩:=h4;exact lt _ _ q
    ·obtain⟨o,q,_⟩:=h5;exact lt _ _ q
    ·exact lt _ _ h2
   rw[Zi hne];exact(hf b hb).1
 done:=by
  intro X hP hw hK hc i pins s σ H E I hf st hg;subst hP hw hK;obtain⟨xs,ys,hq,hq2,hx⟩:=hg;obtain⟨its,rv,p,_⟩:=I.list hq;obtain⟨its2,rv2,p2,_⟩:=I.list hq2;obtain⟨h1,h2,⟨a,b',h3⟩,h4,h5⟩:=st;have hl:=rv.length;have hl2:=rv2.length;exact wpAny_pyNext_zip_end (I.ok.hd hc) hz h1 h2 h3 h4 h5 p.isList p2.isList (hx.imp (fun z=>by simp;omega) fun z=>by simp;omega) fun h' eb=>⟨rfl,I.turnedL (t':=s.toks) hf fun b o hb q=>by
   have hb':b≠z/\b≠TO/\b≠i1/\b≠i2/\b≠TI:=by simpa using hb
   exact eb b o hb'.1 hb'.2.1 hb'.2.2.1 hb'.2.2.2.1 q⟩
 self:=fun _ _ _ _ _ st h=>wpAny_pyIter_zip st.1 h
inductive zmh(K:Frag)(R:It->Hp->Prop)(vs:#[a])(H1:Hp):Prop where
 | mk(a)(b)(_:vs=[.ref a,.ref b])(_:(∃ xs,SqL K H1 a xs))(_:(∃ ys,SqL K H1 b ys))(_:R (Itz K a b) H1)
def zm7(K:Frag)(ta:TA):TI:=fun σ H R=>ta σ H fun vs H1=>zmh K R vs H1
theorem zkw{X:Cx}{K:Frag}{elts:List Expr}{k:Nat}{tp:Pos}{a b:Expr}{ta:TA}{p pos:Pos}(hK:X.K=K)(hg:Gl X "zip")(hm:X.mg "zip"=none)(ha:PA X [a,b] ta)(hs:starEach [a,b] X.env=[(false,eval a X.env),(false,eval b X.env)]:=by rfl)(hs2:starEach [b] X.env=[(false,#[D,b])]:=by rfl):PI X (.Tuple elts k tp) (.Call (.Name "zip" p) [a,b] [] pos) (zm7 K ta):=by
 subst hK;intro pins s σ H R I h;refine Call_ (O4 I hg hm boot_zip (PyProof.Rows.callWith_type1 (thn (ha pos pins s σ H _ I h) fun us s1 ⟨vs,H1,I1,r1,q1⟩=>?_) (by rw[hs,hs2]) (by rw[hs2];rfl)));obtain⟨a,b,e,⟨xs,hq⟩,⟨ys,hq2⟩,q⟩:=q1;subst e;cases r1 with
 | cons r rr =>
   obtain⟨u,rfl,ru⟩:=Rm rr;cases r;cases ru;obtain⟨its,rv,pl,hz⟩:=I1.list hq;obtain⟨its2,rv2,pl2,hz2⟩:=I1.list hq2;have lt1:@LT.lt Nat _ a s1.heap.objs.size:=by obtain⟨_,e,_⟩:=pl.isList;exact Heap.lt_size e
   have lt2:@LT.lt Nat _ b s1.heap.objs.size:=by obtain⟨_,e,_⟩:=pl2.isList;exact Heap.lt_size e
   refine call_zip_2 pl.isList pl2.isList fun h' e1 e2 e3 e4 e5 e6 e7=>?_;refine wpAny_pyIter_zip e1 ?_;refine⟨_,[s1.heap.objs.size+4,s1.heap.objs.size+3,s1.heap.objs.size,s1.heap.objs.size+1,s1.heap.objs.size+2],_,_,H1,rfl,I1.kept (t':=s1.toks) e7,zgx a b _ _ _ _ _ ?_,⟨e1,e2,⟨_,_,e3⟩,e4,e5⟩,fun c hb=>?_,q⟩
   ·refine⟨?_,?_,?_,?_,?_,?_,?_,?_,?_,?_,?_,?_,?_,?_,?_,?_,?_,?_⟩<;>(show @Ne Nat _ _;omega)
   have e:c=s1.heap.objs.size+4\/c=s1.heap.objs.size+3\/c=s1.heap.objs.size\/c=s1.heap.objs.size+1\/c=s1.heap.objs.size+2:=by simpa using hb
   have hle:s1.heap.objs.size<=c:=by rcases e with rfl|rfl|rfl|rfl|rfl<;>omega
   exact I1.fpOk hle (I1.hok.fresh hle)
section
variable{X:Cx}{pins:#[x]}{σ:List (Option V)}{H H':Hp}{s:Shared}{h':Heap}
theorem Inv.freeze(I:#[h])(e:H a=#[c,.dK,kvs])(ho:s.heap.get? a=some o):#[G,upd H a (.frz o (.dK kvs)),s]:=by
 have na:∀ b u,H b=some u->u≠.dK kvs->b≠a:=fun b u q n z=>by subst z;rw[q] at e;exact n (Option.some.inj e)
 refine I.un (h':=s.heap) (t':=s.toks) ⟨fun b o q _ _ _=>q,fun b o q _ _ _=>⟨o.slots,q⟩,fun b o q n _=>?_,fun b o q _=>⟨o,q⟩,fun b ys q=>?_,fun b o v q=>?_,fun b ps q=>⟨#[],?_⟩⟩ fun b u q=>?_
 ·rw[Zi (fun z=>by subst z;rw[n] at e;cases e)];exact n
 ·rw[Zi (na b _ q fun z=>nomatch z)];exact q
 ·rw[Zi (na b _ q fun z=>nomatch z)];exact q
 ·rw[Zi (na b _ q fun z=>nomatch z),q];simp
 ·have stay:∀ {b u},Y0 X.prog X.w H s.heap b u->Y0 X.prog X.w (upd H a (.frz o (.dK kvs))) s.heap b u:=fun {b u} k=>k.stay (fun _ _ _ q=>q) (fun c q=>by rw[Zi (na c _ q fun z=>nomatch z)];exact q) fun c _ q=>by rw[Zi (na c _ q fun z=>nomatch z)];exact q
  by_cases hb:b=a
  ·subst hb;rw[Zc] at q;cases q;exact⟨ho,stay (I.hok b _ e)⟩
  ·rw[Zi hb] at q;exact stay (I.hok b u q)
end
def Itk(a:Addr)(o:Obj)(kvs:#[X]):It :=
 ⟨fun i H=>H a=some (.frz o (.dK kvs))/\i<kvs.length,fun i H x H'=>H'=H/\∃ p,kvs[i]?=some p/\x=kV p.1,fun i H=>H a=some (.frz o (.dK kvs))/\kvs.length<=i⟩
theorem zgy(I:#[h])(e:H a=some (.frz o (.dK kvs))):∃ vs,KV kvs vs/\∃ es ep,o.data=.dict es ep/\s.heap.DictAt (Yn X.prog X.w) a vs ep:=by
 obtain⟨h1,hz,hm,vs,kv,o',es,ep,h2,h3,h4,h5⟩:=(show Y0 X.prog X.w H s.heap a (.frz o (.dK kvs)) from I.hok a _ e);rw[h1] at h2;cases h2;exact⟨vs,kv,es,ep,h4,o,es,h1,h3,h4,h5⟩
theorem zen{P:Program}{w:World}{K:Frag}{tg:Expr}(a it:Addr)(o:Obj)(kvs:#[X])(es:Array DictEntry)(ep:Nat)(ho:o.data=.dict es ep):Bv P w K tg (Itk a o kvs) [it] it (fun i h=>h.IsKeyIter it a i kvs.length ep) where
 mem:=by simp
 obj:=fun i h st b hb=>by
  have e:b=it:=by simpa using hb
  subst e;obtain⟨o,e,c,d⟩:=st;exact⟨o,e,fun v z=>by rw[d] at z;cases z⟩
 keep:=fun i h h' st k=>by
  obtain⟨o,e,c,d⟩:=st;exact⟨o,k it (by simp) o e,c,d⟩
 item:=by
  intro X hP hw hK hc i pins s σ H E I hf st hg;subst hP hw hK;obtain⟨hq,hi⟩:=hg;obtain⟨vs,kv,es',ep',h1,h2⟩:=zgy I hq;rw[ho] at h1;cases h1;obtain⟨f0,f1,f2,f3,f4,f5⟩:=hf it (by simp);have hl:kvs.length=vs.length:=KV.length kv;have hv:i<vs.length:=by omega
  obtain⟨⟨k,v⟩,hkv⟩:∃ kv,vs[i]'hv=kv:=#[C,_];rw[hl] at st;refine wpAny_pyNext_dict_item st h2 (k:=k) (v:=v) (by rw[zws hv,hkv]) fun key h' hk st' sb=>?_;have I1:#[G,H,{ s with heap:=h' }]:=I.turned (t':=s.toks) (fun b o hb e=>(sb.2 b hb).trans e) f0 f1 f3 f4 f5;obtain⟨o2,e2,c2,d2⟩:=id st';have ek:=congrArg (·[i]?) (KV.keys kv);simp only[zwx,zws hv,zws hi,hkv,zxy] at ek;refine#[t,key,zfn (s:={ s with heap:=h' }) e2 c2 d2 ⋯ ⟨kV (kvs[i]'hi).1,H,I1,?_,⟨rfl,_,zws hi,rfl⟩,by rw[hl];exact st',fun b hb=>(hf b hb).1⟩];have e3:(kvs[i]'hi).1=k:=#[aj,ek];rw[e3];rcases Yw hk with ⟨j,t,rfl,rfl⟩|⟨z,t,rfl,rfl⟩
  ·exact#[C,t]
  ·exact#[C,t]
 done:=by
  intro X hP hw hK hc i pins s σ H E I hf st hg;subst hP hw hK;obtain⟨hq,hi⟩:=hg;obtain⟨vs,kv,es',ep',h1,h2⟩:=zgy I hq;rw[ho] at h1;cases h1;obtain⟨f0,f1,f2,f3,f4,f5⟩:=hf it (by simp);have hl:kvs.length=vs.length:=KV.length kv;rw[hl] at st;exact wpAny_pyNext_dict_end (I.ok.hd hc) st h2 (List.getElem?_eq_none ⋯) fun h' eb=>⟨rfl,I.turned (t':=s.toks) (fun b o hb e=>eb b o hb e) f0 f1 f3 f4 f5⟩
 self:=fun _ _ _ _ _ st h=>wpAny_pyIter_keyiter st h
inductive zkx(R:It->Hp->Prop)(x:V)(H1:Hp):Prop where
 | mk(a)(kvs)(_:x=.ref a)(_:H1 a=#[c,.dK,kvs])(_:∀ o,R (Itk a o kvs) (upd H1 a (.frz o (.dK kvs))))
def zmi(tl:TE):TI:=fun σ H R=>tl σ H fun x H1=>zkx R x H1
theorem zda{X:Cx}{tg:Expr}{l:Expr}{tl:TE}(hl:PE X l tl):PI X tg l (zmi tl):=by
 intro pins s σ H R I h;refine thn (hl pins s σ H _ I h) fun v s1 ⟨x,H1,I1,r1,q1⟩=>?_;obtain⟨a,kvs,e,hq,q⟩:=q1;subst e;cases r1;obtain⟨hz,hm,vs,kv,o,es,ep,h2,h3,h4,h5⟩:=(show Y0 X.prog X.w H1 s1.heap a (.dK kvs) from I1.hok a _ hq);have hl:kvs.length=vs.length:=KV.length kv;have I2:=I1.freeze hq h2;refine wpAny_pyIter_dict hm ⟨o,es,h2,h3,h4,h5⟩ ?_;refine⟨s1.heap.objs.size,[s1.heap.objs.size],_,_,_,rfl,I2.kept (t':=s1.toks) fun b o e=>#[ah,_,e],zen a _ o kvs es ep h4,⟨_,Heap.get?_push_size _ rfl,rfl,by rw[hl];rfl⟩,fun b hb=>?_,q o⟩;have e:b=s1.heap.objs.size:=by simpa using hb
 subst e;exact I2.fpOk (zwz _) (I2.hok.fresh (zwz _))
theorem Aj{a:Addr}{o:Obj}{kvs:#[X]}{g:TG}{tb:TS}{D:Q7}{σ:St}{H:Hp}(Pv:Nat->St->Hp->Prop)(h0:Pv 0 σ H)(hl:∀ i σ H,i<=kvs.length->Pv i σ H->H a=some (.frz o (.dK kvs)))
  (hs:∀ i k v σ H,kvs[i]?=some (k,v)->Pv i σ H->g (kV k) σ H fun σ2 H2=>tb { D with nx:=Pv (i+1),ct:=Pv (i+1),bk:=D.nx } σ2 H2) (hd:∀ σ H,Pv kvs.length σ H->D.nx σ H) :
  ∃ W:Nat->Nat->St->Hp->Prop,(∃ m,W 0 m σ H)/\∀ i m σ H,W i m σ H ->
    ((Itk a o kvs).stop i H/\D.nx σ H)\/((Itk a o kvs).go i H/\∃ N:St->Hp->Prop,(∀ σ' H',N σ' H'->∃ m',m' < m/\W (i+1) m' σ' H')/\∀ x H',(Itk a o kvs).yld i H x H'->g x σ H' fun σ2 H2=>tb { D with nx:=N,ct:=N,bk:=D.nx } σ2 H2):=by
 refine⟨fun i m σ H=>m=kvs.length-i/\i<=kvs.length/\Pv i σ H,⟨kvs.length,by simp,zxk _,h0⟩,?_⟩;rintro i m σ H ⟨rfl,hi,p⟩;have q:=hl i σ H hi p;by_cases hlt:i<kvs.length
 ·refine .inr ⟨⟨q,hlt⟩,Pv (i+1),fun σ' H' p'=>⟨kvs.length-(i+1),by omega,rfl,hlt,p'⟩,fun x H' y=>?_⟩;obtain⟨e,⟨k,v⟩,y,rfl⟩:=y;subst e;exact hs i k v σ _ y p
 ·have e:i=kvs.length:=by omega
  subst e;exact .inl ⟨⟨q,zwz _⟩,hd σ H p⟩
theorem zeo(hc:X.calm=true):W8 X (.builtin "max") (fun xs H Q=>∃ (l:Addr) (kvs:List (Key×V)) (ns:List Int),xs=[.ref l]/\Rd H l (.dK kvs)/\kvs.map (·.1)=ns.map inl/\0<ns.length/\∀ M,M∈ns->(∀ a∈ns,a<=M)->Q (.int M) H):=by
 intro pins s σ H xs us Q I r h;obtain⟨l,kvs,ns,rfl,hl,hns,hpos,q⟩:=h;obtain⟨u,rfl,ru⟩:=Rm r;cases ru;obtain⟨hz,hm,vs,kv,o,es,ep,h2,h3,h4,h5⟩:=Qr I.hok hl;have hlen:vs.length=ns.length:=by
  have e1:=KV.length kv;have e2:=congrArg List.length hns;rw[zwq,zwq] at e2;omega
 have hlt:l<s.heap.objs.size:=Heap.lt_size h2;have da:s.heap.DictAt (Yn X.prog X.w) l vs ep:=⟨o,es,h2,h3,h4,h5⟩;have val:∀ (i:Nat) (v:Value),(∃ k y,vs[i]?=some (k,y)/\(Yn X.prog X.w).is k v=true)->∃ t,v=.int (ns.getD i 0) t:=fun i v ⟨k,y,hk,hv⟩=>by
  have e1:=congrArg (·[i]?) (KV.keys kv);have e2:=congrArg (·[i]?) hns;simp only[zwx,hk,zxy] at e1 e2;rw[e1] at e2;have hi:i<ns.length:=by
   rw[<- hlen];exact(zwr.mp hk).1
  rw[zws hi] at e2;have e3:k=inl (ns[i]'hi):=#[aj,e2];have e4:ns.getD i 0=ns[i]'hi:=by rw[zxi,zws hi];rfl
  rw[e4];rcases Yw hv with ⟨j,t,rfl,rfl⟩|⟨z,t,rfl,rfl⟩
  ·cases e3;exact#[C,t]
  ·cases e3
 refine call_max_walk (wpAny_pyIter_dict hm da ?_);refine⟨s.heap.objs.size,[s.heap.objs.size,l],[s.heap.objs.size],vs.length,_,_,_,rfl,Walks.dictKeys (knd:=Yn X.prog X.w) (A:=X.A.in1) (I.ok.hd hc) _ l (zxj hlt) vs ep,⟨⟨_,Heap.get?_push_size _ rfl,rfl,rfl⟩,da.push _⟩,fun b hb=>?_,by omega,CmpOf.ints_gt (fun i=>ns.getD i 0) fun i v hv=>val i v hv,fun v h' tk hP hk=>?_⟩
 ·show b<(s.heap.push _).objs.size;rw[Heap.size_push];rcases zwu.mp hb with rfl|hb
  ·exact Nat.lt_succ_self _
  ·rcases zwu.mp hb with rfl|hb
   ·exact zyu hlt
   ·cases hb
 ·obtain⟨h1,h2⟩:=argBest_gt (fun i=>ns.getD i 0) (vs.length-1);obtain⟨t,rfl⟩:=val _ v hP;rw[hlen] at h1 h2 ⊢;generalize argBest (fun i j=>decide ((fun i=>ns.getD i 0) i>(fun i=>ns.getD i 0) j)) (ns.length-1)=b at h1 h2 ⊢;have hb:b<ns.length:=by omega
  have eg:∀ (k:Nat) (hk:k<ns.length),ns.getD k 0=ns[k]'hk:=fun k hk=>by rw[zxi,zws hk];rfl
  refine⟨.int (ns.getD b 0),H,I.kept fun c o e=>?_,#[C,_],q _ (by rw[eg b hb];exact zxp hb) fun x hx=>?_⟩
  ·refine hk c o (fun hm=>?_) #[ah,_,e];rw[zwv.mp hm] at e;exact zyi _ (Heap.lt_size e)
  ·obtain⟨k,hk',rfl⟩:=zx4 hx;have:=h2 k ⋯;show ns[k]<=_;rw[<- eg k hk'];exact this
theorem O9(I:Nat->Shared->Prop)
  (turn:∀ (n:Nat) (s:Shared),I n s->wpAny (model prog w) A (pyNext it) (fun r s₁=>match r with
   | none=>R (.ok .next) s₁
   | some v=>wpAny (model prog w) A (letOwnedTupleGo target it v) (fun _ s₁'=>wpAny (model prog w) A (assign target env v) (fun _ s₂=>wpAny (model prog w) A (forIn ifs true fun c r=>if r=true then do let ok <- isTrue c env (eval c env);pure (ForInStep.yield ok) else pure (ForInStep.yield r)) (fun ok s₃=>if ok=true then wpAny (model prog w) A (eval elt env) (fun x s₄=>wpAny (model prog w) A (call (.builtin "list.append") [acc,x]) (fun _ s₅=>∃ m,m<n/\I m s₅) (notedBy (model prog w) A env fun e s'=>R (.error e) s') s₄) (notedBy (model prog w) A env fun e s'=>R (.error e) s') s₃ else ∃ m,m<n/\I m s₃) (notedBy (model prog w) A env fun e s'=>R (.error e) s') s₂) (notedBy (model prog w) A env fun e s'=>R (.error e) s') s₁') (notedBy (model prog w) A env fun e s'=>R (.error e) s') s₁) (notedBy (model prog w) A env fun e s'=>R (.error e) s') s)
  (n:Nat) (h:I n s):codeAny (model prog w) A (.compLoop (.ListComp elt [⟨target,iter,ifs,0⟩] scope pos) 0 it acc env) R s:=by
 refine codeAny_loop rfl I (fun n s hI=>?_) n h;refine wpAny_noted ?_;rw[compTurn_list];refine wpAny_bind (wpAny_standAt (wpAny_bind (wpAny_mono (turn n s hI) (fun r s₁ h₁=>?_) fun _ _ z=>z)));cases r with
 | none=>exact wpAny_pure h₁
 | some v =>
   refine wpAny_bind (wpAny_mono h₁ (fun _ s₁' h₂=>wpAny_bind (wpAny_mono h₂ (fun _ s₂ h₃=>wpAny_bind (wpAny_mono h₃ (fun ok s₃ h₄=>?_) fun _ _ z=>z)) fun _ _ z=>z)) fun _ _ z=>z);cases ok with
   | false =>
     simp only[zx6,if_false] at h₄ ⊢;exact wpAny_pure ⟨rfl,h₄⟩
   | true =>
     simp only[if_true] at h₄ ⊢;refine wpAny_bind (wpAny_bind (wpAny_mono h₄ (fun x s₄ h₅=>wpAny_bind (wpAny_mono h₅ (fun _ s₅ h₆=>wpAny_pure (wpAny_pure ⟨rfl,h₆⟩)) fun _ _ z=>z)) fun _ _ z=>z))
def cs0(xo:#[B])(js:List Nat)(σ:St):St:=(xo.map fun _=>none)++js.map fun j=>(σ[j]?).getD none
def R9(xo:#[B])(js:List Nat)(σ σ2:St):Prop:=∃ os:St,os.length=xo.length/\σ2=os++js.map fun j=>(σ[j]?).getD none
theorem R9.weak(o:R9 xo js σ σ2)(I:Inv X pins σ2 H s):Inv X pins (cs0 xo js σ) H s:=by
 obtain⟨os,hl,rfl⟩:=o;refine I.weak (by unfold cs0;simp[hl]) fun i v e=>?_;unfold cs0 at e;by_cases hi:i<xo.length
 ·rw[zx0 (by rw[zwq];exact hi),zwx,zws hi] at e;cases e
 ·rw[zxx (by rw[zwq];omega),zwq] at e;rw[zxx ⋯,hl];exact e
def Cu(J:It)(xo:#[B])(js:List Nat)(g:TG)(tt:TT)(te:TE)(σ:St)(H:Hp)(Q:VK):Prop:=∃ W:Nat->Nat->#[a]->Hp->Prop,(∃ m,W 0 m [] H)/\∀ i m ys H,W i m ys H ->
 (J.stop i H/\ys.length<=sizeLine/\∀ p,H p=none->Q (.ref p) (upd H p (.lst ys))) \/
 (J.go i H/\ys.length<sizeLine/\∃ N:#[a]->Hp->Prop,(∀ ys' H',N ys' H'->∃ m',m' < m/\W (i+1) m' ys' H')/\∀ x H',J.yld i H x H'->g x (cs0 xo js σ) H' fun σ2 H1=>R9 xo js σ σ2/\tt σ2 H1 fun b H2=>if b=true then te σ2 H2 fun y H3=>N (ys++[y]) H3 else N ys H2)
def zky(wi:TI)(xo:#[B])(js:List Nat)(g:TG)(tt:TT)(te:TE):TE:=fun σ H Q=>wi σ H fun J H1=>Cu J xo js g tt te σ H1 Q
section
variable{X:Cx}{elt iter tg:Expr}{xo:#[B]}{pos:Pos}{ifs:List Expr}{scope:Scope}{cl:List (Str×Addr)}{ys:#[B]}{js:List Nat}{g:TG}
structure Mh(X:Cx)(xo:#[B])(scope:Scope)(cl:List (Str×Addr))(ys:#[B])(js:List Nat):Prop where
 clos:closureFor scope X.env=pure cl
 kind:scope.kind=.function
 names:∀ y∈scope.names,y.2=.local->scope.names.lookup y.1=some .local
 nocell:∀ y∈scope.names,y.2≠.cell
 at_:js.map (X.N[·]?)=ys.map some
 free:Fu (fun y=>X.env.kindOf y=some .cell/\(relabel scope X.env).names.lookup y=some .cell/\cl.lookup y=#[W,y]) ys
 only:Fu (fun p=>#[W,p.1]=some p.2) cl
 vis:∀ y∈scope.names,y.2=.free->y.1∈ys
theorem Mh.same(c:Mh X xo scope cl ys js)(h:cl.lookup y=some a):#[W,y]=some a:=c.only.get (PySem.mem_of_lookup h)
theorem zgz(c:Mh X xo scope cl ys js)(I:#[h])(hf:∀ b∈fp,FpOk X pins H b)(hex:∀ b∈fp,b<s.heap.objs.size)(hC:s.heap.objs.size<=C) :
  (Y3 X pn Nc scope cl s H fp C).Ok where
 mod:=I.ok.mod
 kind:=c.kind
 glob:=I.ok.glob
 blt:=I.ok.blt
 above:=hC
 inj:=fun y z a h1 h2=>I.ok.inj y z a (c.same h1) (c.same h2)
 has:=fun y h=>by
  obtain⟨k,m,q⟩:=Md h;rcases q with rfl|rfl
  ·exact absurd rfl (c.nocell _ m)
  ·obtain⟨a1,a2,a3⟩:=c.free.get (c.vis _ m rfl);obtain⟨a,ha⟩:=I.ok.has y (.inl a1);exact⟨a,a3.trans ha⟩
 cab:=fun _ _ h=>by cases h
 hd:=I.ok.hd
 frames:=I.ok.frames
 stk:=.inl rfl
 exf:=fun b hb=>by
  obtain⟨f0,f1,f2,f3,f4,f5⟩:=hf b hb;exact⟨zxj (zw7 (hex b hb) hC),fun y a h=>f4 y a (c.same h)⟩
 bs:=I.bs
 bsz:=zw6 I.ok.bsz I.sz
 noex:=fun b o q hb=>by
  obtain⟨f0,f1,f2,f3,f4,f5⟩:=hf b hb;rcases f3 with z|z
  ·exact I.ok.noex b o q z
  ·exact absurd (zw7 (Heap.lt_size (I.ok.bs b o q).1) z) (zyi _)
 exfs:=fun b hb m=>by
  obtain⟨f0,f1,f2,f3,f4,f5⟩:=hf b hb;exact(zwu.mp (I.stkSub b m)).elim f1 f2
 funs:=I.stack
 frf:=I.stkFree
theorem zep(c:Mh X xo scope cl ys js)(I:#[h])(hf:∀ b∈fp,FpOk X pins H b)(hex:∀ b∈fp,b<s.heap.objs.size)(hC:s.heap.objs.size<=C)
  (hns:h1.Ns C m1) (old:∀ b o,#[O,b]=#[d]->h1.get? b=#[d]) :
  Inv (Y3 X (X.pn++pins) (xo++ys) scope cl s H fp C) [] (cs0 xo js σ) H { s with heap:=h1,toks:=t1 }:=by
 obtain⟨m,hn,hl⟩:=I.loc;have jl:js.length=ys.length:=by have:=congrArg List.length c.at_;simpa using this
 refine⟨zgz c I hf hex hC,rfl,I.bare,Un.kept old,⟨m1,hns,fun i y v e1 e2 e3=>?_⟩,fun y a h=>?_,I.hok.fresh hC,fun y a h=>I.freeC y a (c.same h),fun p hp=>?_,I.hok.kept old,by simp[jl,Y3,cs0]⟩
 ·have e2:=e2.resolve_right (Wb _);unfold cs0 at e2;by_cases hi:i<xo.length
  ·rw[zx0 (by rw[zwq];exact hi),zwx,zws hi] at e2;cases e2
  ·rw[zxx (by rw[zwq];omega),zwq] at e2;have e1:ys[i-xo.length]?=some y:=by
    have e1:(xo++ys)[i]?=some y:=e1;rw[zxx ⋯] at e1;exact e1
   generalize i-xo.length=k at e1 e2;rw[zwx] at e2;cases hj:js[k]? with
   | none=>rw[hj] at e2;cases e2
   | some j =>
     rw[hj] at e2;have ej:X.N[j]?=some y:=by
      have q:=congrArg (·[k]?) c.at_;simp only[zwx,hj,e1,zxy] at q;exact #[aj,q]
     have ev:σ[j]?=#[c,some,v]:=by
      simp only[zxy,Option.some.injEq] at e2;cases hσ:σ[j]? with
      | none=>rw[hσ] at e2;cases e2
      | some o=>rw[hσ] at e2;rw[show o=some v from e2]
     obtain⟨a1,a2,a3⟩:=c.free.get (zw4 e1);obtain⟨u,r,l⟩:=hl j y v ej (.inl ev) (.inr (.inl a1));refine⟨u,r,.inr ⟨.inl a2,?_⟩⟩;rcases l with ⟨k1,_⟩|⟨_,b,e,z⟩
     ·rw[a1] at k1;cases k1
     ·obtain⟨o,ho,hd⟩:=z;exact⟨b,a3.trans e,o,old _ _ ho,hd⟩
 ·obtain⟨v,o,ho,hd⟩:=I.cell y a (c.same h);exact⟨v,o,old _ _ ho,hd⟩
 ·obtain⟨e,n,ne,nf,d⟩:=I.pin p (by simpa [Y3] using hp);refine⟨old _ _ e,n,zxj (zw7 (Heap.lt_size e) hC),fun m=>?_,d⟩;exact(zwu.mp (I.stkSub _ m)).elim ne nf
theorem Hk{pins:#[x]}{σ:St}{H:Hp}{s:Shared}{tt:TT}{te:TE}{it:Addr}{fp:#[z]}{tn:Nat->Heap->Prop}{J:It}{W:Nat->Nat->#[a]->Hp->Prop}{m0:Nat}{Q:VK}{E:Value->Shared->Prop}{RR:Value->Addr->Result->Shared->Prop}
  (hcm:X.calm=true) (c:Mh X xo scope cl ys js) (ht:∀ pn s₀ H₀ fp C,PTs (Y3 X pn (xo++ys) scope cl s₀ H₀ fp C) ifs tt) (hgt:∀ pn s₀ H₀ fp C,PG (Y3 X pn (xo++ys) scope cl s₀ H₀ fp C) tg g) (he:∀ pn s₀ H₀ fp C,PE (Y3 X pn (xo++ys) scope cl s₀ H₀ fp C) elt te)
  (I:#[h]) (T:Bv X.prog X.w X.K tg J fp it tn) (st0:tn 0 s.heap) (hf:∀ b∈fp,FpOk X pins H b) (w0:W 0 m0 [] H)
  (turn:∀ i m ys H,W i m ys H->(J.stop i H/\ys.length<=sizeLine/\∀ p,H p=none->Q (.ref p) (upd H p (.lst ys))) \/
   (J.go i H/\ys.length<sizeLine/\∃ N:#[a]->Hp->Prop,(∀ ys' H',N ys' H'->∃ m',m' < m/\W (i+1) m' ys' H')/\∀ x H',J.yld i H x H'->g x (cs0 xo js σ) H' fun σ2 H1=>R9 xo js σ σ2/\tt σ2 H1 fun b H2=>if b=true then te σ2 H2 fun y H3=>N (ys++[y]) H3 else N ys H2))
  (hRR:∀ D C s' m,s'.heap.Ns C m->(∀ h',Heap.SameBut C s'.heap h'->∃ H',Inv X pins σ H' { s' with heap:=h' }/\Q (.ref D) H')->(∃ H',Inv X pins σ H' s'/\Q (.ref D) H'/\H' C=none)->s.heap.objs.size<=C->RR (.ref D) C (.ok .next) s') :
  wpAny (model X.prog X.w) X.A (newList []) (fun acc s₃=>#[ab,X.A,newFunctionEnv scope X.env.globals cl [] X.env.qual none .none (some X.env),(fun cenv s₄ =>
   codeAny (model X.prog X.w) X.A (.compStart (.ListComp elt [⟨tg,iter,ifs,0⟩] scope pos) 0 (.ref it) acc { cenv with scope:=relabel scope X.env }) (RR acc cenv.locals) s₄),E,s₃]) E s:=by
 refine wpAny_newObj_type (wpAny_newFunctionEnv c.nocell (by intro y hy;simp at hy) (fun h₁ hns₁ hsb₁=>?_) c.kind);dsimp only at hns₁ hsb₁ ⊢;generalize hH2:s.heap.push { cls:=.type "list",dict:=none,data:=.seq ([]:List Value).toArray }=G at hns₁ hsb₁ ⊢;generalize hD:s.heap.objs.size=D;have hC:G.objs.size=D+1:=by rw[<- hH2,Heap.size_push,hD]
 generalize hCe:G.objs.size=C at hns₁ hsb₁ ⊢;have hCD:C=D+1:=hCe.symm.trans hC;have hDC:D≠C:=by omega
 have below:∀ b o,#[O,b]=#[d]->b<D:=fun b o e=>by rw[<- hD];exact Heap.lt_size e
 have ltC:∀ b:Addr,b<D->b≠C:=fun b h=>zxj (hCD▸zyu h);have ltD:∀ b:Addr,b<D->b≠D:=fun b h=>zxj h;have old:∀ b o,#[O,b]=#[d]->h₁.get? b=#[d]:=fun b o e=>hsb₁.extBut b o (ltC b (below b o e)) #[ah,_,hH2▸#[ah,_,e]];have hacc:h₁.PlainList D #[]:=⟨_,hsb₁.extBut _ _ hDC #[ah,_,(by rw[<- hH2,<- hD];exact Heap.get?_push_size _ rfl)]⟩;have hex:∀ b∈fp,b<s.heap.objs.size:=fun b hb=>by
  obtain⟨o,e,_⟩:=T.obj _ _ st0 b hb;exact Heap.lt_size e
 have lt0:∀ b∈fp,b<D:=fun b hb=>by rw[<- hD];exact hex b hb
 have freshD:#[O,D]=none:=Heap.get?_none_of_le ⋯;have freshC:#[O,C]=none:=Heap.get?_none_of_le ⋯;have frE:∀ {H':Hp},(∀ b∈fp,H' b=none)->∀ {o:Obj} {b:Addr},b∈fp->FpOk (Y3 X (X.pn++pins) (xo++ys) scope cl s H fp C) [(D,o)] H' b:=fun {H'} hn {o b} hb=>by
  obtain⟨f0,f1,f2,f3,f4,f5⟩:=hf b hb;refine⟨hn b hb,?_,?_,.inl hb,fun y a h=>f4 y a (c.same h),fun p hp=>?_⟩
  ·exact ltC b (lt0 b hb)
  ·exact fun m=>(zwu.mp (I.stkSub b m)).elim f1 f2
  ·rcases zw2.mp hp with z|z
   ·exact f5 p z
   ·rw[zwv.mp z];exact Ne.symm (ltD b (lt0 b hb))
 have pinD:∀ {σ':St} {H':Hp} {s':Shared} {o:Obj},Inv (Y3 X (X.pn++pins) (xo++ys) scope cl s H fp C) [] σ' H' s'->s'.heap.get? D=#[d]->(∀ v,o.data≠.cell v)->H' D=none->Inv (Y3 X (X.pn++pins) (xo++ys) scope cl s H fp C) [(D,o)] σ' H' s':=fun {σ' H' s' o} Ic e nc n =>
  Ic.pins_of fun p hp=>by
   rw[zwv.mp hp];refine⟨e,n,hDC,fun m=>?_,nc⟩;obtain⟨_,ob,hob,_⟩:=I.stack.mem m;exact absurd (below D ob hob) (zyi _)
 have loop:∀ s₃:Shared,s₃={ s with heap:=h₁,toks:=s.toks+([]:List (Str×Value)).length } ->
   codeAny (model X.prog X.w) X.A (.compLoop (.ListComp elt [⟨tg,iter,ifs,0⟩] scope pos) 0 (.ref it) (.ref D) (compEnvC scope cl C X.env)) (RR (.ref D) C) s₃:=by
  rintro s₃ rfl;have I0:=zep (t1:=s.toks+([]:List (Str×Value)).length) c I hf hex (by omega:s.heap.objs.size<=C) hns₁ old;refine O9 (fun n s'=>∃ i H' zs its,Inv (Y3 X (X.pn++pins) (xo++ys) scope cl s H fp C) [] (cs0 xo js σ) H' s'/\tn i s'.heap/\(∀ b∈fp,H' b=none)/\s'.heap.PlainList D (its:List Value).toArray/\Vals zs its/\H' D=none/\W i n zs H') ?_ m0
   ⟨0,H,[],[],I0,T.keep _ _ _ st0 fun b hb o e=>old b o e,fun b hb=>(hf b hb).1,hacc,.nil,I.hok.fresh ⋯,w0⟩
  rintro n s3 ⟨i,H3,zs,its,I3,st3,fr3,⟨n3,pl3⟩,rv3,fD3,w3⟩;have I3':=pinD I3 pl3 (by intro v z;cases z) fD3;rcases turn i n zs H3 w3 with ⟨stop,hsz,fin⟩|⟨go,hsz,Nx,hNx,step⟩
  ·refine wpAny_mono (T.done (Y3 X (X.pn++pins) (xo++ys) scope cl s H fp C) rfl rfl rfl hcm i _ s3 _ H3 (fun _ _=>False) I3' (fun b hb=>frE fr3 hb) st3 stop) (fun r s4 ⟨hr,I4⟩=>?_) fun _ _ z=>z.elim;subst hr;have plD:s4.heap.get? D=some _:=(I4.pin (D,{ cls:=Value.type "list",data:=.seq its.toArray n3 }) (zxd _ zxl)).1;obtain⟨m4,hn4,_⟩:=I4.loc;have okU:∀ h',(∀ b o,b≠C->s4.heap.get? b=some o->h'.get? b=some o)->#[G,upd H3 D (.lst zs),{ s4 with heap:=h' }]:=fun h' k1=>by
    have u4:Un (frs X.stack) fp H H3 s.heap s4.heap:=I4.base;have neC:∀ b o,#[O,b]=#[d]->b≠C:=fun b o e=>ltC b (below b o e);have neD:∀ b o,#[O,b]=#[d]->b≠D:=fun b o e=>ltD b (below b o e);have trD:∀ b u,H3 b=some u->b≠D:=fun b u e z=>by rw[z,fD3] at e;cases e
    have trC:∀ b u,H3 b=some u->b≠C:=fun b u e z=>by rw[z,show H3 C=none from I4.free] at e;cases e
    have un:Un (frs X.stack) fp H (upd H3 D (.lst zs)) s.heap h':=by
     refine⟨fun b o e n hb hx=>k1 b o (neC b o e) (u4.keep b o e n hb hx),fun b o e n hb hx=>?_,fun b o e n hx=>?_,fun b o e hx=>?_,fun b xs e=>?_,fun b ob u e=>?_,fun b ps e=>?_⟩
     ·obtain⟨sl,z⟩:=u4.slot b o e n hb hx;exact⟨sl,k1 b _ (neC b o e) z⟩
     ·rw[Zi (neD b o e)];exact u4.free b o e n hx
     ·obtain⟨o',z⟩:=u4.there b o e hx;exact⟨o',k1 b o' (neC b o e) z⟩
     ·have z:=u4.tups b xs e;rw[Zi (trD b _ z)];exact z
     ·have z:=u4.frzs b ob u e;rw[Zi (trD b _ z)];exact z
     ·obtain⟨more,z⟩:=u4.tbls b ps e;exact⟨more,by rw[Zi (trD b _ z)];exact z⟩
    refine I.call' (s':={ s4 with heap:=h' }) (ch:=fp) (show s4.os=s.os from I4.os) un (fun b u e=>?_) I4.bare fun b hb=>?_
    ·by_cases hb:b=D
     ·subst hb;rw[Zc] at e;cases e;exact⟨hsz,its,n3,rv3,k1 _ _ hDC plD⟩
     ·rw[Zi hb] at e;refine(I4.hok b u e).stay (fun d v hd q=>?_) (fun d q=>by rw[Zi (trD d _ q)];exact q) fun d xs q=>by rw[Zi (trD d _ q)];exact q
      rcases hd with z|z
      ·exact k1 d v (by rw[z];exact trC b u e) q
      ·exact k1 d v (trC d _ z) q
    ·obtain⟨f0,f1,f2,f3,f4,f5⟩:=hf b hb;exact⟨f3,f1,f4,f5⟩
   refine hRR D C s4 m4 hn4 (fun h' hs'=>⟨_,okU h' fun b o hb e=>hs'.extBut b o hb e,fin D fD3⟩) ⟨_,okU s4.heap fun _ _ _ e=>e,fin D fD3,?_⟩ ⋯
   ·rw[Zi (Ne.symm hDC)];exact I4.free
  ·refine wpAny_mono (T.item (Y3 X (X.pn++pins) (xo++ys) scope cl s H fp C) rfl rfl rfl hcm i _ s3 _ H3 (fun _ _=>False) I3' (fun b hb=>frE fr3 hb) st3 go) (fun r s4 ⟨u,hr,h4⟩=>?_) fun _ _ z=>z.elim;subst hr;refine wpAny_mono h4 (fun _ s5 h5=>?_) fun _ _ z=>z.elim;obtain⟨xv,H5,I5,r5,y5,st5,fr5⟩:=h5;have I5':=I5.pinned (fun b hb=>frE fr5 hb) (T.obj _ _ st5);refine wpAny_mono (hgt _ _ _ _ _ _ s5 _ H5 xv u _ I5' r5 (step xv H5 y5)) (fun _ s6 ⟨σ6,H6,I6,own6,q6⟩=>?_) fun _ _ z=>z.elim;refine wpAny_mono (ht _ _ _ _ _ _ s6 _ H6 _ I6 q6) (fun ok s7 ⟨H7,I7,q7⟩=>?_) fun _ _ z=>z.elim;have keepF:∀ {σ8:St} {H8:Hp} {s8:Shared},Inv (Y3 X (X.pn++pins) (xo++ys) scope cl s H fp C) ([(D,{ cls:=Value.type "list",data:=.seq its.toArray n3 })]++Le fp s5.heap) σ8 H8 s8->tn (i+1) s8.heap/\(∀ b∈fp,H8 b=none)/\s8.heap.PlainList D its.toArray/\H8 D=none:=fun {σ8 H8 s8} I8=>by
    refine⟨T.keep _ _ _ st5 fun b hb o e=>(I8.pin (b,o) (zxd _ (zxd _ (R6 hb e)))).1,fun b hb=>?_,⟨n3,(I8.pin (D,_) (zxd _ zxl)).1⟩,(I8.pin (D,_) (zxd _ zxl)).2.1⟩;obtain⟨o,e,d⟩:=T.obj _ _ st5 b hb;exact(I8.pin (b,o) (zxd _ (zxd _ (R6 hb e)))).2.1
   have bare:∀ {σ8:St} {H8:Hp} {s8:Shared},Inv (Y3 X (X.pn++pins) (xo++ys) scope cl s H fp C) ([(D,{ cls:=Value.type "list",data:=.seq its.toArray n3 })]++Le fp s5.heap) σ8 H8 s8->Inv (Y3 X (X.pn++pins) (xo++ys) scope cl s H fp C) [] σ8 H8 s8:=fun I8=>I8.pins_of fun _ z=>(nomatch z)
   cases ok with
   | false =>
     simp only[zx6,if_false] at q7 ⊢;obtain⟨m',hm',w7⟩:=hNx _ _ q7;obtain⟨a1,a2,a3,a4⟩:=keepF I7;exact⟨m',hm',i+1,H7,zs,its,own6.weak (bare I7),a1,a2,a3,rv3,a4,w7⟩
   | true =>
     simp only[if_true] at q7 ⊢;refine wpAny_mono (he _ _ _ _ _ _ s7 _ H7 _ I7 q7) (fun y s8 ⟨yv,H8,I8,r8,q8⟩=>?_) fun _ _ z=>z.elim;obtain⟨m',hm',w8⟩:=hNx _ _ q8;obtain⟨a1,a2,a3,a4⟩:=keepF I8;have szI:its.toArray.size<=sizeLine:=by rw[zw5,<- rv3.length];omega
     refine wpAny_list_append_plain (hsz:=szI) a3 fun h9 pl9 sb9=>?_;have I8b:=own6.weak (bare I8);refine⟨m',hm',i+1,H8,zs++[yv],its++[y],?_,T.keep _ _ _ a1 fun b hb o e=>(sb9.2 b (ltD b (lt0 b hb))).trans e,a2,by rw[List.push_toArray] at pl9;exact pl9,rv3.append (.cons r8 .nil),a4,w8⟩;refine I8b.turned (t':=s8.toks) (it:=D) (fun b o hb e=>(sb9.2 b hb).trans e) a4 hDC (.inr (show s.heap.objs.size<=D by omega)) (fun y' a h=>?_) fun p hp=>?_
     ·obtain⟨v,o,ho,_⟩:=I.cell y' a (c.same h);exact ltD a (below a o ho)
     ·obtain⟨e,_⟩:=I.pin p (by simpa [Y3] using hp);exact ltD _ (below _ _ e)
 exact codeAny_compStart_list (loop _ rfl) (T.self _ 0 _ _ _ (T.keep _ _ _ st0 fun b hb o e=>old b o e) (loop _ rfl))
variable{wi:TI}{tt:TT}{te:TE}
theorem Hl(hcm:X.calm=true)(c:Mh X xo scope cl ys js)(hi:PI X tg iter wi)(ht:∀ pn s₀ H₀ fp C,PTs (Y3 X pn (xo++ys) scope cl s₀ H₀ fp C) ifs tt)(hgt:∀ pn s₀ H₀ fp C,PG (Y3 X pn (xo++ys) scope cl s₀ H₀ fp C) tg g)(he:∀ pn s₀ H₀ fp C,PE (Y3 X pn (xo++ys) scope cl s₀ H₀ fp C) elt te)
  (hs:∀ x,foldedSetIterable iter X.env x=pure x:=by intro _;rfl):PE X (.ListComp elt [⟨tg,iter,ifs,0⟩] scope pos) (zky wi xo js g tt te):=by
 intro pins s σ H Q I h;rw[eval_ListComp];refine wpAny_comprehension_free (use:=none) rfl hs c.clos c.kind c.names (thn (hi pins s σ H _ I h) fun v s1 h1=>thn h1 fun itv s2 h2=>?_);obtain⟨it,fp,tn,J,H2,e,I2,T,st2,f2,W,⟨m0,w0⟩,turn⟩:=h2;subst e;exact Hk (RR:=fun acc C=>compPost (model X.prog X.w) X.A X.xe none (EP X pins σ Q) acc C) hcm c ht hgt he I2 T st2 f2 w0 turn fun D C s' m hn hS _ _=>⟨m,hn,fun h' hs'=>let ⟨H',I',q⟩:=hS h' hs';⟨.ref D,H',I',rfl,q⟩⟩
end
end L2
namespace G
open PySem PySem.Spec PyProof.Rows L2
theorem zbs{K:Frag}{a:Addr}{xs:#[a]}{xo:#[B]}{js:List Nat}{g:TG}{tt:TT}{te:TE}{σ:L2.St}{H:Hp}{Q:VK}(p:Nat->Bool)(f:Nat->V)(hz:xs.length<=1000)(hx:SqL K H a xs)
  (step:∀ (i:Nat) (x:V) (t:Addr) (H':Hp) (N:#[a]->Hp->Prop) (ys:#[a]),xs[i]?=some x->#[q]->H' t=none->(∀ H2,Same H H2->N (if p i=true then ys++[f i] else ys) H2) ->
   g (.ref t) (cs0 xo js σ) (upd H' t (.tup [.int (i:Nat),x])) fun σ2 H1=>R9 xo js σ σ2/\tt σ2 H1 fun b H2=>if b=true then te σ2 H2 fun y H3=>N (ys++[y]) H3 else N ys H2)
  (fin:∀ (H':Hp) (l:Addr),#[q]->H' l=none->Q (.ref l) (upd H' l (.lst (((List.range xs.length).filter p).map f)))):Cu (Ite K a) xo js g tt te σ H Q:=by
 have line:1000<sizeLine:=by rw[sizeLine_eq];decide
 refine⟨fun i m ys H'=>m=xs.length-i/\i<=xs.length/\#[q]/\ys=((List.range i).filter p).map f,⟨xs.length,by simp,zxk _,fun _ _ q=>q,by simp⟩,?_⟩;rintro i m ys H' ⟨rfl,hi,hs,rfl⟩;have hq:=hs.seq hx;have hlen:(((List.range i).filter p).map f).length<=i:=by
  rw[zwq];exact zw6 (zxo _ _) (by rw[zxs];exact zwz _)
 by_cases hlt:i<xs.length
 ·refine .inr ⟨⟨xs,xs[i],hq,by simp[hlt]⟩,by omega,fun ys' H2=>Same H H2/\ys'=((List.range (i+1)).filter p).map f,fun ys' H2 ⟨h1,h2⟩=>⟨xs.length-(i+1),by omega,rfl,hlt,h1,h2⟩,fun x H2 y=>?_⟩;obtain⟨t,y,h1,h2,rfl,rfl⟩:=y;refine step i y t H' (fun ys' H2=>Same H H2/\ys'=((List.range (i+1)).filter p).map f) _ (h2 xs hq) hs h1 fun H2 s2=>⟨s2,?_⟩
  rw[List.range_succ,zyd,zww];cases hp:p i with
  | true=>rw[#[l,rfl],zx2,#[l,hp]];rfl
  | false=>rw[if_neg ⋯,zx2,#[g,(by rw[hp];decide)]];simp
 ·have e:i=xs.length:=by omega
  subst e;exact .inl ⟨⟨xs,hq,zwz _⟩,by omega,fun l hl=>fin H' l hs hl⟩
theorem Dp:∀ (a b:List (Nat×Option Int)) (xs:List V),Yx (a++b) xs=Yx b (Yx a xs)
 | [],_,_=>rfl
 | (p,w) :: r,b,xs=>by rw[List.cons_append,Yx,Yx,Dp r b]
structure Ii(kvs:#[X])(gs:#[a]):Prop where
 has:∀ (n:Int) (j:Nat),gs[j]?=#[f,n]->valV kvs (inl n:Key)=#[f,(j:Nat)]
 not:∀ n:Int,(∀ j:Nat,gs[j]?≠#[f,n])->valV kvs (inl n:Key)=none
theorem Ii.iff(t:Ii kvs gs)(n:Int):(∃ j:Nat,gs[j]?=some (.int n)/\valV kvs (inl n:Key)=some (.int (j:Nat)))\/((∀ j:Nat,gs[j]?≠some (.int n))/\valV kvs (inl n:Key)=none):=by
 by_cases h:∃ j:Nat,gs[j]?=some (.int n)
 ·obtain⟨j,hj⟩:=h;exact .inl ⟨j,hj,t.has n j hj⟩
 ·have h':∀ j:Nat,gs[j]?≠some (.int n):=fun j hj=>h ⟨j,hj⟩;exact .inr ⟨h',t.not n h'⟩
inductive Cv(K:Frag)(vs:#[a])(H:Hp)(Q:VK)(_:XK):Prop where
 | mk(b:Addr)(gs:#[a])(_:vs=[.ref b])(_:#[y,H,b,gs])(_:(∀ x∈gs,oneV x))(_:(∀ (j k:Nat) (n:Int),gs[j]?=#[f,n]->gs[k]?=#[f,n]->j=k))(_:gs.length<=100)(_:∀ d kvs H',H' d=#[c,.dK,kvs]->Ii kvs gs->#[q]->H d=none->#[M,d])
structure Xx(H:Hp)(into:#[X])(line:List Nat)(fr:Nat->Option (Nat×Int)):Prop where
 keys:into.map (·.1)=line.map fun q:Nat=>(inl (q:Int):Key)
 none:∀ q∈line,fr q=Option.none->valV into (inl (q:Int):Key)=some .non
 some:∀ q∈line,∀ par n,fr q=Option.some (par,n)->∃ t,valV into (inl (q:Int):Key)=Option.some (.ref t)/\H t=Option.some (.tup #[Q,(par:Nat),n])
theorem Xx.same(e:#[q])(h:Xx H into line fr):Xx H' into line fr :=
 ⟨h.keys,h.none,fun q hq par n hf=>let ⟨t,a,b⟩:=h.some q hq par n hf;⟨t,a,e _ _ b⟩⟩
theorem Xx.len(h:Xx H into line fr):into.length=line.length:=by
 have:=congrArg List.length h.keys;rw[zwq,zwq] at this;exact this
theorem zg0{into:#[X]}{k:Key}:(valV into k).isSome=true↔k∈into.map Prod.fst:=by
 unfold valV;rw[Option.isSome_map,List.find?_isSome];constructor
 ·rintro⟨p,hp,e⟩;exact zw0.mpr ⟨p,hp,of_decide_eq_true e⟩
 ·intro h;obtain⟨p,hp,rfl⟩:=zw0.mp h;exact⟨p,hp,zwy rfl⟩
theorem Xx.has{H:Hp}{into:#[X]}{line:List Nat}{fr:Nat->Option (Nat×Int)}(h:Xx H into line fr)(q:Nat):(valV into (inl (q:Int):Key)).isSome=true↔q∈line:=by
 rw[zg0,h.keys];constructor
 ·intro z;obtain⟨q',h1,h2⟩:=zw0.mp z;have:(q':Int)=q:=inl.inj h2;have:q'=q:=by omega
  rw[<- this];exact h1
 ·intro hq;exact zw0.mpr ⟨q,hq,rfl⟩
inductive zbt(K:Frag)(vs:#[a])(H:Hp)(Q:VK)(_:XK):Prop where
 | mk(l d:Addr)(ls:#[z])(rows:#[E])(kvs:#[X])(gs:#[a])(p:Nat)(_:vs=[.ref l,.ref d,.int p])(_:H l=some (.lst (ls.map V.ref)))(_:ILs H ls rows)(_:rows.length<=100)(_:H d=#[c,.dK,kvs])(_:Ii kvs gs)(_:Yu rows gs)(_:p<rows.length)(_:∀ t into line dep fr H',H' t=#[c,.dK,into]->Xx H' into line fr->Bfs rows gs p line dep->Done rows gs line dep line.length->Tp rows gs p line dep fr->(∀ q∈line,q<rows.length)->#[q]->H t=none->#[M,t])
inductive Dq(K:Frag)(vs:#[a])(H:Hp)(Q:VK)(_:XK):Prop where
 | mk(l d:Addr)(r:#[p])(kvs:#[X])(_:vs=[.ref l,.ref d])(_:H l=some (.lst (r.map V.int)))(_:H d=#[c,.dK,kvs])(_:∀ w:#[F],(∀ n,w=some n->n∈r/\valV kvs (inl n:Key)=none)->(w=none->∀ n∈r,(valV kvs (inl n:Key)).isSome=true)->Q (oV w) H)
inductive Ak(K:Frag)(vs:#[a])(H:Hp)(Q:VK)(_:XK):Prop where
 | mk(t:Addr)(q p:Nat)(w:#[F])(rows:#[E])(gs:#[a])(into:#[X])(line:List Nat)(dep:Nat->Nat)(fr:Nat->Option (Nat×Int))(_:vs=[.ref t,.int q,oV w])(_:Rd H t (.dK into))(_:Xx H into line fr)(_:Tp rows gs p line dep fr)(_:dep p=0)(_:p∈line)(_:q∈line)(_:dep q<=100)(_:∀ lt ts st H',H' lt=#[w,ts]->Yf H' ts (st.map V7)->Ch rows gs p st q w->st.length=dep q+1->#[q]->H lt=none->#[M,lt])
section
variable{rows:#[E]}{gs:#[a]}{p:Nat}{line:List Nat}{dep:Nat->Nat}{fr:Nat->Option (Nat×Int)}{H H':Hp}{into:#[X]}
def Ky(fr:Nat->Option (Nat×Int))(q:Nat)(x:Nat×Int):Nat->Option (Nat×Int):=fun y=>if y=q then some x else fr y
theorem Na:Ky fr q x q=some x:=by unfold Ky;rw[#[l,rfl]]
theorem Mi(h:y≠q):Ky fr q x y=fr y:=by unfold Ky;rw[#[g,h]]
theorem Tp.app(F:Tp rows gs p line dep fr)(hn:q'∉line)(hp:p∈line)(hh:here∈line)(a:adjN rows gs here n q'):Tp rows gs p (line++[q']) (Vt dep q' (dep here+1)) (Ky fr q' (here,n)):=by
 have ne:∀ x∈line,x≠q':=fun x hx z=>hn (by rw[<- z];exact hx);have old:∀ x∈line,Vt dep q' (dep here+1) x=dep x:=fun x hx=>by unfold Vt;rw[if_neg (ne x hx)]
 have new:Vt dep q' (dep here+1) q'=dep here+1:=by unfold Vt;rw[#[l,rfl]]
 refine⟨by rw[Mi (ne p hp)];exact F.1,fun q hq hqp=>?_⟩;rcases zw2.mp hq with z|z
 ·obtain⟨par,m,h1,h2,h3,h4⟩:=F.2 q z hqp;exact⟨par,m,by rw[Mi (ne q z)];exact h1,zxf _ h2,h3,by rw[old q z,old par h2];exact h4⟩
 ·rw[zwv.mp z];exact⟨here,n,Na,zxf _ hh,a,by rw[new,old here hh]⟩
theorem Xx.mono(e:∀ t xs,H t=Option.some (.tup xs)->H' t=Option.some (.tup xs))(h:Xx H into line fr):Xx H' into line fr :=
 ⟨h.keys,h.none,fun q hq par n hf=>let ⟨t,a,b⟩:=h.some q hq par n hf;⟨t,a,e _ _ b⟩⟩
theorem Xx.app(I:Xx H into line fr)(hn:q'∉line)(ht:H t=Option.some (.tup #[Q,(here:Nat),n])):Xx H (putK into (inl (q':Int)) (.ref t)) (line++[q']) (Ky fr q' (here,n)):=by
 have ne:∀ x∈line,x≠q':=fun x hx z=>hn (by rw[<- z];exact hx);have hv:valV into (inl (q':Int):Key)=Option.none:=by
  cases e:valV into (inl (q':Int):Key) with
  | none=>rfl
  | some y=>exact absurd ((I.has q').mp (by rw[e];rfl)) hn
 have val:∀ x∈line,valV (putK into (inl (q':Int)) (.ref t)) (inl (x:Int):Key)=valV into (inl (x:Int):Key):=fun x hx=>by
  rw[Uy,#[g,fun z=>ne x hx (by have:=inl.inj z;omega)]]
 have valn:valV (putK into (inl (q':Int)) (.ref t)) (inl (q':Int):Key)=Option.some (.ref t):=by rw[Uy,#[l,rfl]]
 refine⟨?_,fun q hq hf=>?_,fun q hq par m hf=>?_⟩
 ·rw[zf1 _ hv,zww,zww,I.keys];rfl
 ·rcases zw2.mp hq with z|z
  ·rw[Mi (ne q z)] at hf;rw[val q z];exact I.none q z hf
  ·rw[zwv.mp z,Na] at hf;cases hf
 ·rcases zw2.mp hq with z|z
  ·rw[Mi (ne q z)] at hf;rw[val q z];exact I.some q z par m hf
  ·rw[zwv.mp z,Na] at hf;cases hf;rw[zwv.mp z];exact⟨t,valn,ht⟩
theorem zbu(H:Hp)(p:Nat):Xx H [((inl (p:Int):Key),V.non)] [p] fun _=>none :=
 ⟨rfl,fun q hq _=>by rw[zwv.mp hq];exact Xe rfl,fun q _ par n hf=>nomatch hf⟩
theorem zbv:Tp rows gs p [p] (fun _=>0) fun _=>none:=⟨rfl,fun q hq hne=>absurd (zwv.mp hq) hne⟩
end
section
variable{rows:#[E]}{gs:#[a]}
theorem Ch.somes{q e:Nat}{st:#[J]}{w:#[F]}(h:#[ak]):w≠none->∀ s∈st,s.2≠none:=by
 induction h with
 | one q w=>intro hw s hs;simp at hs;subst hs;exact hw
 | step a h ih =>
   intro hw s hs;rcases zwu.mp hs with rfl|z
   ·exact fun z=>nomatch z
   ·exact ih hw s z
theorem Ch.near{q e:Nat}{st:#[J]}{w:#[F]}(h:#[ak]):∀ s∈st,s.1=q\/∃ m,gs[s.1]?=#[c,V.int,m]:=by
 induction h with
 | one q w=>intro s hs;simp at hs;subst hs;exact .inl rfl
 | @step q q' e n st w a h ih =>
   intro s hs;rcases zwu.mp hs with rfl|z
   ·exact .inl rfl
   ·rcases ih s z with z|z
    ·exact .inr ⟨n,by rw[z];exact a.2⟩
    ·exact .inr z
theorem Ch.single{q e:Nat}{st:#[J]}{w:#[F]}(h:#[ak])(hl:st.length<=1):st=[(q,w)]/\e=q:=by
 cases h with
 | one=>exact#[C,rfl]
 | step a h=>have:=h.pos;rw[zxb] at hl;omega
structure Tb(rows:#[E])(gs:#[a])(i:Nat):Prop where
 fill:Yu rows gs
 ahead:∀ q n,gs[q]?=#[c,V.int,n]->q<i
 stuck:∀ p,p<i->gs[p]?=some .non->Oh rows gs p
theorem Tb.non(F:Tb rows gs i)(hk:i<=k)(hr:k<rows.length):gs[k]?=some .non:=by
 have hl:k<gs.length:=by rw[F.fill.len];exact hr
 have e:=zws hl;rcases F.fill.one _ (zxp hl) with z|⟨n,z⟩
 ·rw[e,z]
 ·rw[z] at e;have:=F.ahead k n e;omega
theorem Tb.step{i e:Nat}{st:#[J]}{w:#[F]}(F:Tb rows gs i)(hi:i<rows.length)(c:Xk rows gs i st e w):Tb rows (Yx st gs) (i+1):=by
 have hnon:=F.non (zwz i) hi;cases w with
 | none =>
   obtain⟨h1,h2,h3⟩:=c.none rfl;have hei:e=i:=by
    have hge:=h2 i 0 .nil;rcases(show e=i\/∃ m,gs[e]?=some (V.int m) by
     obtain⟨s,hs,rfl⟩:=zw0.mp c.ch.last;exact c.ch.near s hs) with z|⟨m,z⟩
    ·exact z
    ·have:=F.ahead e m z;omega
   have hst:st=[(i,none)]:=(c.ch.single (by have:=h3 0 (hei▸.nil);omega)).1;have hl:i<gs.length:=by rw[F.fill.len];exact hi
   have same:Yx st gs=gs:=by
    rw[hst];show gs.set i .non=gs;refine List.ext_getElem? fun k=>?_;by_cases hk:i=k
    ·subst hk;rw[zxt hl,hnon]
    ·rw[zxq hk]
   rw[same];refine⟨F.fill,fun q n hq=>zyu (F.ahead q n hq),fun p hp hpn=>?_⟩;by_cases hpi:p=i
   ·subst hpi;exact zgt F.fill hi F.ahead h1
   ·exact F.stuck p ⋯ hpn
 | some n0 =>
   obtain⟨hf,_⟩:=c.free n0 rfl;have nd:=c.nodup;have FP':=c.fill F.fill hi;have at_:∀ k,k<gs.length->(k∉st.map (·.1)/\(Yx st gs)[k]?=gs[k]?)\/∃ w,(k,w)∈st/\(Yx st gs)[k]?=#[c,oV,w]:=fun k hk=>Wo nd hk;have lt:∀ {k:Nat} {v:V},(Yx st gs)[k]?=some v->k<gs.length:=fun {k v} hk=>by
    have:=(zwr.mp hk).1;rw[Wd] at this;exact this
   refine⟨FP',fun q n hq=>?_,fun p hp hpn=>?_⟩
   ·rcases at_ q (lt hq) with ⟨_,h2⟩|⟨w',h1,_⟩
    ·rw[h2] at hq;exact zyu (F.ahead q n hq)
    ·rcases c.ch.near _ h1 with z|⟨m,z⟩
     ·have:q=i:=z;omega
     ·exact zyu (F.ahead q m z)
   ·rcases at_ p (lt hpn) with ⟨h1,h2⟩|⟨w',h1,h2⟩
    ·rw[h2] at hpn;have hpi:p≠i:=fun z=>by
      obtain⟨x,r,e⟩:=c.ch.hd;exact h1 (by rw[z,e];simp)
     exact(F.stuck p ⋯ hpn).behind F.fill c.ch hf hi nd
    ·have:=c.ch.somes (by simp) _ h1;rw[h2] at hpn;cases w' with
     | none=>exact absurd rfl this
     | some m=>cases hpn
theorem Fy(rows:#[E]):Tb rows (rows.map fun _=>V.non) 0:=by
 have h0:∀ (k:Nat) (n:Int),(rows.map fun _=>V.non)[k]?≠#[c,V.int,n]:=fun k n h=>by
  rw[zwx] at h;cases e:rows[k]? with
  | none=>rw[e] at h;cases h
  | some r=>rw[e] at h;cases h
 exact⟨⟨by rw[zwq],fun x hx=>by obtain⟨_,_,rfl⟩:=zw0.mp hx;exact .inl rfl,fun k n h=>absurd h (h0 k n),fun j k n h=>absurd h (h0 j n)⟩,fun q n h=>absurd h (h0 q n),fun p hp=>absurd hp (zy2 _)⟩
theorem Tb.last(F:Tb rows gs rows.length):Vs rows gs:=fun p hp=>F.stuck p (by have:=(zwr.mp hp).1;rw[F.fill.len] at this;exact this) hp
end
end G
namespace G
open PySem PySem.Spec PyProof.Rows L2
section
variable{rows:#[E]}{gs:#[a]}
theorem Ch.pred{q e:Nat}{st:#[J]}{w:#[F]}(h:#[ak]):∀ q'∈st.map (·.1),q'=q\/∃ q0 n,(q0,some n)∈st/\gs[q']?=#[c,V.int,n]:=by
 induction h with
 | one q w=>intro q' hq;simp at hq;exact .inl hq
 | @step q q1 e n st w a h ih =>
   intro q' hq;rw[zw3] at hq;rcases zwu.mp hq with z|z
   ·exact .inl z
   ·rcases ih q' z with z|⟨q0,m,h1,h2⟩
    ·exact .inr ⟨q,n,zxl,by rw[z];exact a.2⟩
    ·exact .inr ⟨q0,m,zxa _ h1,h2⟩
theorem Ch.reach{q e:Nat}{st:#[J]}{w:#[F]}(h:#[ak]):∀ q'∈st.map (·.1),∃ k,#[Y,q,q',k]:=by
 induction h with
 | one q w=>intro q' hq;simp at hq;rw[hq];exact⟨0,.nil⟩
 | @step q q1 e n st w a h ih =>
   intro q' hq;rw[zw3] at hq;rcases zwu.mp hq with z|z
   ·rw[z];exact⟨0,.nil⟩
   ·obtain⟨k,hk⟩:=ih q' z;exact⟨k+1,.cons a hk⟩
theorem Ch.noneLast{q e:Nat}{st:#[J]}{w:#[F]}(h:#[ak]):∀ k,(k,none)∈st->k=e/\w=none:=by
 induction h with
 | one q w=>intro k hk;simp at hk;exact⟨hk.1,hk.2.symm⟩
 | @step q q1 e n st w a h ih =>
   intro k hk;rcases zwu.mp hk with z|z
   ·cases z
   ·exact ih k z
theorem Ch.along{R:Nat->Prop}(hs:∀ q n q',adjN rows gs q n q'->R q->R q'){q e:Nat}{st:#[J]}{w:#[F]}(h:#[ak]):R q->R e:=by
 induction h with
 | one q w=>exact fun z=>z
 | step a h ih=>exact fun z=>ih (hs _ _ _ a z)
theorem Ch.lastMem{q e:Nat}{st:#[J]}{w:#[F]}(h:#[ak]):(e,w)∈st:=by
 induction h with
 | one q w=>simp
 | step a h ih=>exact zxa _ ih
theorem zg1{st:#[J]}(nd:(st.map (·.1)).Nodup){k:Nat}{w w':#[F]}(h:(k,w)∈st)(h':(k,w')∈st):w=w':=by
 induction st with
 | nil=>cases h
 | cons s r ih =>
   rw[zw3,zxh] at nd;rcases zwu.mp h with z|z<;>rcases zwu.mp h' with z'|z'
   ·rw[<- z] at z';exact(Prod.mk.inj z').2.symm
   ·exact absurd (zw0.mpr ⟨_,z',by rw[<- z]⟩) nd.1
   ·exact absurd (zw0.mpr ⟨_,z,by rw[<- z']⟩) nd.1
   ·exact ih nd.2 z z'
theorem zit{st:#[J]}{xs:#[a]}(nd:(st.map (·.1)).Nodup){k:Nat}{w:#[F]}(h:(k,w)∈st)(hk:k<xs.length):(Yx st xs)[k]?=#[c,oV,w]:=by
 rcases Wo nd hk with ⟨h1,_⟩|⟨w',h1,h2⟩
 ·exact absurd (zw0.mpr ⟨_,h,rfl⟩) h1
 ·rw[h2,zg1 nd h1 h]
theorem Ch.moved{p e:Nat}{st:#[J]}{w:#[F]}(FP:Yu rows gs)(h:Ch rows gs p st e w)(hp:p<rows.length)(hn:gs[p]?=some .non)(nd:(st.map (·.1)).Nodup){q':Nat}{n:Int}(hq:gs[q']?=#[c,V.int,n]) :
  (q'∉st.map (·.1)/\(Yx st gs)[q']?=some (V.int n))\/∃ q0,(q0,some n)∈st/\(Yx st gs)[q0]?=#[c,V.int,n]:=by
 have hl:q' < gs.length:=(zwr.mp hq).1;by_cases hm:q'∈st.map (·.1)
 ·rcases h.pred q' hm with z|⟨q0,m,h1,h2⟩
  ·rw[z,hn] at hq;cases hq
  ·rw[hq] at h2;cases h2;refine .inr ⟨q0,h1,?_⟩;have:=h.lt FP hp _ h1;exact zit nd h1 (by rw[FP.len];exact this)
 ·rcases Wo nd hl with ⟨_,h2⟩|⟨w',h1,_⟩
  ·exact .inl ⟨hm,by rw[h2];exact hq⟩
  ·exact absurd (zw0.mpr ⟨_,h1,rfl⟩) hm
end
section
variable{rows:#[E]}{gs:#[a]}{p e:Nat}{x:Int}{st:#[J]}{w:#[F]}
def without(rows:#[E])(x:Int):#[E]:=rows.map fun r=>r.filter fun n=>#[j,n≠x]
theorem Sh{q:Nat}{r':#[p]}(h:(without rows x)[q]?=some r'):∃ r,rows[q]?=some r/\∀ n∈r',n∈r/\n≠x:=by
 unfold without at h;rw[zwx] at h;cases e:rows[q]? with
 | none=>rw[e] at h;cases h
 | some r =>
   rw[e] at h;cases h;exact#[t,r,fun n hn=>⟨(zxu.mp hn).1,of_decide_eq_true (zxu.mp hn).2⟩]
theorem Tc(FP:Yu rows gs)(hx:gs[p]?=#[f,x]):Yu (without rows x) (gs.set p .non):=FP.without hx _ fun n hn=>by
 have:=of_decide_eq_false hn;rw[Classical.not_not.mp this]
theorem zg2(hx:gs[p]?=#[f,x]):(gs.set p V.non)[p]?=some .non:=by rw[zxt (zwr.mp hx).1]
theorem zdb(hx:gs[p]?=#[f,x])(h:(gs.set p V.non)[q]?=#[f,n]):gs[q]?=#[f,n]/\q≠p:=by
 by_cases e:p=q
 ·subst e;rw[zg2 hx] at h;cases h
 ·rw[zxq e] at h;exact⟨h,Ne.symm e⟩
theorem Mj{q:Nat}{n:Int}(hx:gs[p]?=#[f,x])(h:gs[q]?=#[f,n])(hn:n≠x):(gs.set p V.non)[q]?=#[f,n]:=by
 rw[zxq (fun z=>by subst z;rw[hx] at h;cases h;exact hn rfl)];exact h
theorem Al(FP:Yu rows gs)(SP:Vs rows gs)(hx:gs[p]?=#[f,x])(C:Xk (without rows x) (gs.set p .non) p st e w):Vs (without rows x) (Yx st (gs.set p .non)):=by
 have FP0:=Tc FP hx;have hRl:(without rows x).length=rows.length:=by unfold without;rw[zwq]
 have hp:p<rows.length:=by have:=(zwr.mp hx).1;rw[FP.len] at this;exact this
 have hp0:p<(without rows x).length:=by rw[hRl];exact hp
 have nd:=C.nodup;have hpm:p∈st.map (·.1):=by obtain⟨y,r,e'⟩:=C.ch.hd;rw[e'];simp
 have moved:=fun {q':Nat} {n:Int} (hq:(gs.set p V.non)[q']?=#[c,V.int,n])=>C.ch.moved FP0 hp0 (zg2 hx) nd hq;have closedT:w=none->∀ q,(∃ k,Walk (without rows x) (gs.set p .non) p q k)->q<(without rows x).length/\∀ r,(without rows x)[q]?=some r->∀ n∈r,∃ q2,q2<e/\(Yx st (gs.set p .non))[q2]?=#[f,n]/\∃ k,Walk (without rows x) (gs.set p .non) p q2 k:=by
  rintro hw q ⟨k,hk⟩;obtain⟨c1,c2,c3⟩:=C.none hw;refine⟨?_,fun r hr n hn=>?_⟩
  ·cases hk with
   | nil=>exact hp0
   | snoc _ a =>
     have:=(zwr.mp a.2).1;rw[FP0.len] at this;exact this
  ·by_cases hf:∃ j:Nat,(gs.set p V.non)[j]?=some (V.int n)
   ·obtain⟨q1,hq1⟩:=hf;have w1:Walk (without rows x) (gs.set p .non) p q1 (k+1):=.snoc hk ⟨⟨r,hr,hn⟩,hq1⟩;rcases moved hq1 with ⟨m1,m2⟩|⟨q0,m1,m2⟩
    ·refine⟨q1,?_,m2,_,w1⟩;have:=c2 q1 _ w1;have hne:q1≠e:=fun z=>m1 (by rw[z];exact C.ch.last);omega
    ·obtain⟨k0,hk0⟩:=C.ch.reach q0 (zw0.mpr ⟨_,m1,rfl⟩);refine⟨q0,?_,m2,k0,hk0⟩;have:=c2 q0 _ hk0;have hne:q0≠e:=fun z=>by
      have hl:=C.ch.lastMem;rw[z] at m1;rw[hw] at hl;have:=zg1 nd m1 hl;cases this
     omega
   ·exact absurd ⟨n,⟨r,hr,hn⟩,fun j hj=>hf ⟨j,hj⟩⟩ (c1 q k hk)
 intro p0 hpn;have hl0:p0<(gs.set p V.non).length:=by have:=(zwr.mp hpn).1;rw[Wd] at this;exact this
 rcases Wo nd hl0 with ⟨a1,a2⟩|⟨w',a1,a2⟩
 ·rw[a2] at hpn;have hpp:p≠p0:=fun z=>a1 (by rw[<- z];exact hpm);rw[zxq hpp] at hpn;obtain⟨S0,hS,cl⟩:=SP p0 hpn;have inS:∀ q k,#[Y,p0,q,k]->S0 q:=fun q k hk=>by
   induction hk with
   | nil=>exact hS
   | @snoc q q' k n h a ih =>
     obtain⟨r,h1,h2⟩:=a.1;obtain⟨q'',_,h3,h4⟩:=(cl q ih).2 r h1 n h2;rw[<- FP.inj q'' q' n h3 a.2];exact h4
  have closed0:∀ q,(∃ k,Walk rows gs p0 q k)->q<rows.length/\∀ r,rows[q]?=some r->∀ n∈r,∃ q',q' < p0/\gs[q']?=#[f,n]/\∃ k,#[Y,p0,q',k]:=by
   rintro q ⟨k,hk⟩;refine⟨(cl q (inS q k hk)).1,fun r hr n hn=>?_⟩;obtain⟨q',h1,h2,_⟩:=(cl q (inS q k hk)).2 r hr n hn;exact⟨q',h1,h2,k+1,.snoc hk ⟨⟨r,hr,hn⟩,h2⟩⟩
  have lt0:∀ q,(∃ k,Walk rows gs p0 q k)->q=p0\/q<p0:=by
   rintro q ⟨k,hk⟩;cases hk with
   | nil=>exact .inl rfl
   | @snoc q1 _ k n h a =>
     obtain⟨r,h1,h2⟩:=a.1;obtain⟨q',h3,h4,_⟩:=(closed0 q1 ⟨k,h⟩).2 r h1 n h2;rw[<- FP.inj q' q n h4 a.2];exact .inr h3
  have along:∀ {q:Nat} {st':List (Nat×Option Int)} {w':Option Int},Ch (without rows x) (gs.set p .non) q st' e w'->(∃ k,Walk rows gs p0 q k)->∃ k,#[Y,p0,e,k]:=fun {q st' w'} hc =>
   hc.along (R:=fun q=>∃ k,#[Y,p0,q,k]) fun q n q' a ⟨k,hk⟩=>by
    obtain⟨r',h1,h2⟩:=a.1;obtain⟨r,h3,h4⟩:=Sh h1;exact⟨k+1,.snoc hk ⟨⟨r,h3,(h4 n h2).1⟩,(zdb hx a.2).1⟩⟩
  by_cases hpath:∃ q∈st.map (·.1),∃ k,#[Y,p0,q,k]
  ·obtain⟨q1,hq1,hk1⟩:=hpath;obtain⟨st',c1,_⟩:=C.ch.drop q1 hq1;have hRe:=along c1 hk1;cases hw:w with
   | some n0 =>
     obtain⟨⟨r',f1,f2⟩,f3⟩:=(C.free n0 hw).1;obtain⟨r,g1,g2⟩:=Sh f1;obtain⟨q',_,h2,_⟩:=(closed0 e hRe).2 r g1 n0 (g2 n0 f2).1;exact absurd (Mj hx h2 (g2 n0 f2).2) (f3 q')
   | none =>
     have clT:=closedT hw;obtain⟨_,cmax,_⟩:=C.none hw;have hep:e<p0:=by
      have hfe:∃ m,gs[e]?=#[c,V.int,m]:=by
       obtain⟨s,hs,hse⟩:=zw0.mp C.ch.last;rcases C.ch.near s hs with z|⟨m,z⟩
       ·rw[<- hse,z];exact⟨x,hx⟩
       ·rw[hse] at z;exact⟨m,(zdb hx z).1⟩
      obtain⟨m,hm⟩:=hfe;rcases lt0 e hRe with z|z
      ·rw[z,hpn] at hm;cases hm
      ·exact z
     refine⟨fun q=>(∃ k,Walk rows gs p0 q k)\/∃ k,Walk (without rows x) (gs.set p .non) p q k,.inl ⟨0,.nil⟩,fun q hq=>?_⟩;rcases hq with hq|hq
     ·refine⟨by rw[hRl];exact(closed0 q hq).1,fun r' hr' n hn=>?_⟩;obtain⟨r,g1,g2⟩:=Sh hr';obtain⟨q',h1,h2,h3⟩:=(closed0 q hq).2 r g1 n (g2 n hn).1;rcases moved (Mj hx h2 (g2 n hn).2) with ⟨_,m2⟩|⟨q0,m1,m2⟩
      ·exact⟨q',h1,m2,.inl h3⟩
      ·obtain⟨k0,hk0⟩:=C.ch.reach q0 (zw0.mpr ⟨_,m1,rfl⟩);have:=cmax q0 k0 hk0;exact⟨q0,by omega,m2,.inr ⟨k0,hk0⟩⟩
     ·obtain⟨t1,t2⟩:=clT q hq;refine⟨t1,fun r hr n hn=>?_⟩;obtain⟨q2,h1,h2,h3⟩:=t2 r hr n hn;exact⟨q2,by omega,h2,.inr h3⟩
  ·refine⟨fun q=>∃ k,#[Y,p0,q,k],⟨0,.nil⟩,fun q hq=>⟨by rw[hRl];exact(closed0 q hq).1,fun r' hr' n hn=>?_⟩⟩;obtain⟨r,g1,g2⟩:=Sh hr';obtain⟨q',h1,h2,h3⟩:=(closed0 q hq).2 r g1 n (g2 n hn).1;rcases moved (Mj hx h2 (g2 n hn).2) with ⟨_,m2⟩|⟨q0,m1,m2⟩
   ·exact⟨q',h1,m2,h3⟩
   ·rcases Wo nd (show q' < (gs.set p V.non).length from(zwr.mp (Mj hx h2 (g2 n hn).2)).1) with ⟨_,b2⟩|⟨w2,b1,_⟩
    ·exact⟨q',h1,by rw[b2];exact Mj hx h2 (g2 n hn).2,h3⟩
    ·exact absurd ⟨q',zw0.mpr ⟨_,b1,rfl⟩,h3⟩ hpath
 ·rw[a2] at hpn;cases w' with
  | some n=>cases hpn
  | none =>
    obtain⟨b1,b2⟩:=C.ch.noneLast p0 a1;subst b1;exact⟨_,⟨0+(C.ch.reach p0 (zw0.mpr ⟨_,a1,rfl⟩)).choose,by rw[Nat.zero_add];exact(C.ch.reach p0 (zw0.mpr ⟨_,a1,rfl⟩)).choose_spec⟩,closedT b2⟩
end
end G
namespace L2
open PySem PySem.Spec PyProof.Rows
inductive ziu(x:V)(vs:#[a])(H:Hp)(Q:VK):Prop where
 | mk(d e:Addr)(kvs more:#[X])(_:x=.ref d)(_:vs=[.ref e])(_:d≠e)(_:H d=#[c,.dK,kvs])(_:H e=#[c,.dK,more])(_:kvs.length+more.length<=sizeLine)(_:Q .non (upd H d (.dK (Uc kvs more))))
theorem zeq:MtM X "dict.update" ziu:=by
 intro pins s σ H x vs v us Q I rx rv h;obtain⟨d,e,kvs,more,rfl,rfl,ne,hd,he,hz,q⟩:=h;cases rx;obtain⟨u,rfl,ru⟩:=rv.one;cases (show u=Value.ref e from ru);obtain⟨z1,lo1,vs1,r1,dd1⟩:=B2 I.hok hd;obtain⟨z2,lo2,vs2,r2,dd2⟩:=B2 I.hok he;refine call_meetsIn PySem.F.slot_dict_update dd1.typeIs PySem.F.entry_dict_update (PySem.F.args_dict_update_2 _ _) (meets_dict_update (Yn X.prog X.w) d e ne lo2) ⟨vs1,vs2,dd1,dd2,by rw[<- r1.length,<- r2.length];exact hz,fun h' dd1' dd2' hs=>?_⟩;have hex:∃ q,h'.get? d=some q:=let ⟨q,_,_,hq,_⟩:=dd1';⟨q,hq⟩;refine#[I,.non,_,Od (t':=s.toks) I (by rw[hd];exact True.intro) hs hex (Iw ?_ lo1 (r2.merge r1) dd1'),q];exact zw6 (Sw more kvs) hz
section
variable{prog:Program}{w:World}{A:Around}{E:Value->Shared->Prop}{s:Shared}{T:String}{r d:Addr}{n:Nat}{P:Nat->Value->Prop}{OK:Heap->Prop}
open PySem.W in
theorem zg3(K:KdlSrc prog w T r d n P OK)(hh:A.handled=none)(hok:OK s.heap)(hn:n<=sizeLine)
  (h:∀ h' tk (acc:Array Value),(∀ b o,s.heap.get? b=some o->h'.get? b=some o)->s.heap.objs.size<=h'.objs.size->ItemsOf P acc n->Q acc.toList { s with heap:=h',toks:=tk }) :
  wpAny (model prog w) A (collect (.ref r)) Q E s:=by
 unfold collect;have hlt:=K.there _ hok;refine wpAny_bind (wpAny_runValue (codeAny_builtin entry_proto_collect' ?_));show wpAny _ _ (do again (.builtin "list.__iadd__" ⟨[<- newList [],.ref r],[]⟩)) _ _ s;refine wpAny_bind (wpAny_newList (wpAny_pure ⟨Code.quiet_builtin _ ⋯,codeAny_builtin entry_list_iadd' ?_⟩));show wpAny _ _ (Builtin.List.listExtendWith (.ref s.heap.objs.size) (.ref r) (.ref s.heap.objs.size)) _ _ { s with heap:=s.heap.push (seqObj "list" #[] 0) };have hS:(s.heap.push (seqObj "list" #[] 0)).get? s.heap.objs.size=some { cls:=.type "list",data:=.seq #[] 0 }:=Heap.get?_push_size _ rfl;rw[Around.under_plainId (show plainId "list.__iadd__"=true by decide +kernel) _];refine kdl_extend (R:=fun r s'=>match r with
   | .ok (.ret v)=>wpAny (model prog w) A (match v with
         | Value.ref a=>do
           let o <- load a
           match o.data with
            | Data.seq xs _=>pure xs.toList
            | _=>unsupported "internal:collect"
         | _=>unsupported "internal:collect") Q E s'
   | .ok _=>False
   | .error e=>E e s') (s:={ s with heap:=s.heap.push (seqObj "list" #[] 0) }) K hh (K.keep _ _ hok fun b _ o e=>#[ah,_,e]) s.heap.objs.size (Nat.ne_of_gt hlt.1) (Nat.ne_of_gt hlt.2) _ 0 hS (fun h' tk acc c' hk hS' hacc=>?_) hn
 show wpAny (model prog w) A (do
   let o <- load s.heap.objs.size
   match o.data with
   | .seq xs _=>pure xs.toList
   | _=>unsupported "internal:collect") Q E _
 refine wpAny_bind (wpAny_load hS' ?_);exact wpAny_pure (h h' tk acc (fun b o e=>hk b o (zxj (Heap.lt_size e)) #[ah,_,e]) (zy3 (Heap.lt_size hS')) hacc)
theorem zdc:∀ {its:List Value} {ns:List Int},its.length=ns.length->(∀ (j:Nat) (v:Value),its[j]?=some v->∃ t,v=.int (ns.getD j 0) t)->IntsAre its ns
 | [],[],_,_=>.nil
 | v :: its,n :: ns,hl,h=>by
   obtain⟨t,e⟩:=h 0 v rfl;rw[e];exact .cons _ t (zdc (by simpa using hl) fun j u hu=>h (j+1) u hu)
 | [],_ :: _,hl,_=>by simp at hl
 | _ :: _,[],hl,_=>by simp at hl
theorem Ml(hc:X.calm=true):W8 X (.builtin "sorted") (fun xs H Q=>∃ (a:Addr) (kvs:List (Key×V)) (ns:List Int),xs=[.ref a]/\Rd H a (.dK kvs)/\kvs.map (·.1)=ns.map (inl:Int->Key)/\ns.length<64/\∀ (l:Addr) (ns':List Int),H l=none->ns'.Perm ns->ns'.Pairwise (·<=·)->Q (.ref l) (upd H l (.lst (ns'.map V.int)))):=by
 intro pins s σ H xs us Q I r h;obtain⟨a,kvs,ns,rfl,ha,hns,h64,q⟩:=h;obtain⟨u,rfl,ru⟩:=Rm r;cases (show u=Value.ref a from ru);obtain⟨hz,lo,vs,kv,o,es,ep,e1,e2⟩:=Qr I.hok ha;have hl:kvs.length=vs.length:=KV.length kv;have hnl:ns.length=kvs.length:=by have:=congrArg List.length hns;rw[zwq,zwq] at this;exact this.symm
 refine Calls.call_function_entry kind_sorted plain_sorted entry_sorted (args_sorted1 _) ?_;unfold Builtin.«sorted»;refine wpAny_bind (m:=checkCount "sorted" 1 1 _) (wpAny_pure ?_);refine wpAny_bind (zg3 (PySem.W.kdl_dict (knd:=Yn X.prog X.w) (kvs:=vs) (ep:=ep) lo) (I.ok.hd hc) ⟨o,es,e1,e2⟩ (by rw[<- hl];exact hz) fun h' tk acc hk hsz hacc=>?_);have hI:IntsAre acc.toList ns:=by
  refine zdc (by have:=hacc.1;simp only[Array.length_toList];omega) fun j v hv=>?_;obtain⟨k,y,hk1,hk2⟩:=hacc.2 j v (by rw[<- Array.getElem?_toList];exact hv);have ek:=congrArg (·[j]?) (KV.keys kv);have en:=congrArg (·[j]?) hns;simp only[zwx,hk1,zxy] at ek en;cases hkv:kvs[j]? with
  | none=>rw[hkv] at ek;cases ek
  | some p =>
    rw[hkv] at ek en;cases hn:ns[j]? with
    | none=>rw[hn] at en;cases en
    | some m =>
      rw[hn] at en;have e3:p.1=k:=#[aj,ek];have e4:p.1=inl m:=#[aj,en];rw[<- e3,e4] at hk2;rw[zxi,hn];rcases Yw (show Il (inl m:Key) v=true from hk2) with ⟨i,t,e5,e6⟩|⟨z,t,e5,_⟩
      ·cases e5;exact⟨t,e6⟩
      ·cases e5
 refine wpAny_bind (wpAny_newList ?_);have hoL:(h'.push (seqObj "list" acc.toList.toArray 0)).get? h'.objs.size=some (seqObj "list" acc.toList.toArray 0):=Heap.get?_push_size _ rfl;show wpAny _ _ _ _ _ { s with heap:=h'.push (seqObj "list" acc.toList.toArray 0),toks:=tk };refine wpAny_bind (wpAny_holding (wpAny_call_entry slot_list_sort ⟨_,hoL,rfl⟩ entry_list_sort (list_sort_tree hoL hI (by simp only[Array.length_toList];have:=hacc.1;omega) fun out ns' a1 a2 a3=>#[t,_,?_]) (args_list_sort _)));have hge:s.heap.objs.size<=h'.objs.size:=hsz;have hf:H h'.objs.size=none:=I.hok.fresh hge;refine wpAny_pure ⟨_,rfl,.ref h'.objs.size,upd H h'.objs.size (.lst (ns'.map V.int)),I.laid (t':=tk) (fun b u eb=>?_) hge ?_,rfl,q _ ns' hf a2 a3⟩
 ·have e0:=hk b u eb;have hb:b<(h'.push (seqObj "list" acc.toList.toArray 0)).objs.size:=Heap.lt_size (Heap.get?_push_of_some _ e0);rw[sortedHeap_old (zxj (Heap.lt_size e0)) hb];exact #[ah,_,e0]
 ·obtain⟨e9,h9⟩:=sortedHeap_at (out:=out) hoL;exact⟨by rw[zwq,a2.length_eq];exact zy3 (Tf ⋯),out.toList,e9,Lj a1,h9⟩
end
end L2
namespace G
open PySem PySem.Spec PyProof.Rows L2
section
variable{α:Type}[DecidableEq α]{f:α->Key}
def F3(acc:List α)(x:α):List α:=if x∈acc then acc else acc++[x]
def Dr(pl ml:List α):List α:=ml.foldl F3 pl
theorem Am(hf:∀ a b,f a=f b->a=b)(h:kvs.map (·.1)=pl.map f)(x:α)(v:V):(putK kvs (f x) v).map (·.1)=(F3 pl x).map f:=by
 have ha:(kvs.any fun kv=>#[j,kv.1=f x])=true↔x∈pl:=by
  rw[List.any_eq_true];constructor
  ·rintro⟨kv,h1,h2⟩;have:kv.1∈kvs.map (·.1):=zw0.mpr ⟨_,h1,rfl⟩;rw[h] at this;obtain⟨y,h3,h4⟩:=zw0.mp this;rw[<- hf _ _ (h4.trans (of_decide_eq_true h2))];exact h3
  ·intro hx;have:f x∈kvs.map (·.1):=by rw[h];exact zw0.mpr ⟨_,hx,rfl⟩
   obtain⟨kv,h1,h2⟩:=zw0.mp this;exact⟨kv,h1,zwy h2⟩
 unfold putK F3;by_cases hx:x∈pl
 ·rw[if_pos (ha.mpr hx),#[l,hx],<- h,zx1];refine zya fun kv _=>?_;show (if kv.1=f x then (kv.1,v) else kv).1=kv.1;split<;>rfl
 ·rw[#[g,fun z=>hx (ha.mp z)],#[g,hx],zww,zww,h];rfl
theorem Hm(hf:∀ a b,f a=f b->a=b):∀ {more kvs:List (Key×V)} {pl ml:List α},kvs.map (·.1)=pl.map f->more.map (·.1)=ml.map f->(Uc kvs more).map (·.1)=(Dr pl ml).map f
 | [],kvs,pl,[],h,_=>h
 | p :: more,kvs,pl,x :: ml,h,h2=>by
   rw[zw3,zw3] at h2;injection h2 with e1 e2;have:=Am hf h x p.2;rw[<- e1] at this;exact Hm hf (kvs:=putK kvs p.1 p.2) (pl:=F3 pl x) (ml:=ml) this e2
 | [],_,_,_ :: _,_,h2=>by simp at h2
 | _ :: _,_,_,[],_,h2=>by simp at h2
theorem An{pl:List α}{x y:α}:y∈F3 pl x↔y∈pl\/y=x:=by
 unfold F3;by_cases h:x∈pl
 ·rw[#[l,h]];exact⟨.inl,fun z=>z.elim id fun e=>by rw[e];exact h⟩
 ·rw[#[g,h]];simp
theorem Hn{pl:List α}{x:α}(h:pl.Nodup):(F3 pl x).Nodup:=by
 unfold F3;by_cases hx:x∈pl
 ·rw[#[l,hx]];exact h
 ·rw[#[g,hx],List.nodup_append];exact⟨h,by simp,fun a ha b hb e=>hx (by rw[zwv.mp hb] at e;rw[<- e];exact ha)⟩
theorem Du:∀ {ml pl:List α} {y:α},y∈Dr pl ml↔y∈pl\/y∈ml
 | [],pl,y=>by unfold Dr;simp
 | x :: ml,pl,y=>by
   show y∈Dr (F3 pl x) ml↔_;rw[Du,An,zwu,or_assoc]
theorem Kz:∀ {ml pl:List α},pl.Nodup->(Dr pl ml).Nodup
 | [],pl,h=>h
 | x :: ml,pl,h=>Kz (ml:=ml) (Hn h)
end
theorem zm8:∀ a b:Int,(inl a:Key)=inl b->a=b:=fun a b h=>inl.inj h
theorem zm9:∀ a b:Nat,(inl (a:Int):Key)=inl (b:Int)->a=b:=fun a b h=>by have:=inl.inj h;omega
theorem Ao{α:Type}[DecidableEq α]{a b:List α}(ha:a.Nodup)(hb:b.Nodup)(h:∀ x,x∈a↔x∈b):a.length=b.length :=
 Nat.le_antisymm (ha.length_le_of_subset fun x hx=>(h x).mp hx) (hb.length_le_of_subset fun x hx=>(h x).mpr hx)
section
variable{rows:#[E]}{gs:#[a]}
def Dv(rows:#[E])(gs:#[a]):Prop:=∀ p,gs[p]?=some .non->∀ q k,#[Y,p,q,k]->¬ Uw rows gs q
structure Cw(rows:#[E])(gs:#[a])(ps:List Nat)(rs:#[p]):Prop where
 up:ps.Pairwise (· < ·)
 lt:∀ p∈ps,p<rows.length
 rup:rs.Pairwise (· < ·)
 all:∀ n,n∈rs↔∃ p∈ps,∃ r,rows[p]?=some r/\n∈r
 cnt:ps.length=rs.length+(V6 gs).length
 nil:V6 gs=[]->ps=[]
 gap:∀ p,gs[p]?=some .non->p∈ps
 has:∀ n∈rs,∃ p∈ps,gs[p]?=#[f,n]
theorem Tq:p∈V6 gs↔gs[p]?=some .non:=by
 unfold V6;rw[zxu,zxz];constructor
 ·exact fun h=>of_decide_eq_true h.2
 ·exact fun h=>⟨(zwr.mp h).1,zwy h⟩
theorem zbw:(V6 gs).Nodup:=List.nodup_range.filter _
def Ap(x:Option V):#[F]:=match x with|some (.int n)=>some n|_=>none
theorem Qa:Ap x=some n↔x=#[f,n]:=by
 unfold Ap;constructor
 ·intro h;split at h
  ·cases h;rfl
  ·cases h
 ·intro h;rw[h]
theorem zjj:∀ {ps:List Nat},(∀ p∈ps,∃ x,gs[p]?=some x/\oneV x)->ps.length=(ps.filterMap fun p=>Ap gs[p]?).length+(ps.filter fun p=>decide (gs[p]?=some .non)).length
 | [],_=>rfl
 | p :: ps,h=>by
   have ih:=zjj (ps:=ps) fun q hq=>h q (zxa _ hq);obtain⟨x,hx,ho⟩:=h p zxl;rcases ho with rfl|⟨n,rfl⟩
   ·rw[List.filterMap_cons_none (by rw[hx];rfl),zx7 (by rw[hx];simp),zxb,zxb,ih];omega
   ·rw[List.filterMap_cons_some (b:=n) (by rw[hx];rfl),zx8 (by rw[hx];simp),zxb,zxb,ih];omega
theorem U1(FP:Yu rows gs):∀ {ps:List Nat},ps.Nodup->(ps.filterMap fun p=>Ap gs[p]?).Nodup
 | [],_=>zyn
 | p :: ps,h=>by
   rw[zxh] at h;rw[zyk];split
   ·exact U1 FP h.2
   ·rename_i n hn;rw[zxh];refine⟨fun hm=>?_,U1 FP h.2⟩;obtain⟨q,hq,e⟩:=zyj.mp hm;have:=FP.inj p q n (Qa.mp hn) (Qa.mp e);rw[this] at h;exact h.1 hq
theorem zg4(FP:Yu rows gs)(NA:Dv rows gs){pl:List Nat}{rl:#[p]}(hpn:pl.Nodup)(hpm:∀ q,q∈pl↔∃ g k,gs[g]?=some .non/\#[Y,g,q,k])(hrn:rl.Nodup)(hrm:∀ n,n∈rl↔∃ p∈pl,∃ r,rows[p]?=some r/\n∈r)
  {pi rs:#[p]} (h1:pi.Perm (pl.map fun q:Nat=>(q:Int))) (h2:pi.Pairwise (·<=·)) (h3:rs.Perm rl) (h4:rs.Pairwise (·<=·)):∃ ps:List Nat,pi=ps.map (fun q:Nat=>(q:Int))/\Cw rows gs ps rs:=by
 have hlt:∀ q∈pl,q<rows.length:=fun q hq=>by
  obtain⟨g,k,hg,hw⟩:=(hpm q).mp hq;cases hw with
  | nil=>rw[<- FP.len];exact(zwr.mp hg).1
  | snoc _ a=>rw[<- FP.len];exact(zwr.mp a.2).1
 have hpi:∀ x∈pi,0<=x:=fun x hx=>by
  obtain⟨q,_,e⟩:=zw0.mp (h1.mem_iff.mp hx);rw[<- e];omega
 have epi:pi=(pi.map Int.toNat).map (fun q:Nat=>(q:Int)):=by
  rw[zx1]
  conv=>lhs;rw[<- List.map_id pi]
  refine zya fun x hx=>?_;show x=((x.toNat:Nat):Int);rw[zyy (hpi x hx)]
 have hpp:(pi.map Int.toNat).Perm pl:=by
  have:=h1.map Int.toNat;rw[zx1] at this;have e:pl.map (Int.toNat∘fun q:Nat=>(q:Int))=pl:=by
   conv=>rhs;rw[<- List.map_id pl]
   exact zya fun q _=>zxc q
  rw[e] at this;exact this
 have nps:(pi.map Int.toNat).Nodup:=hpp.nodup_iff.mpr hpn;have strictly:∀ {l:List Int},l.Pairwise (·<=·)->l.Nodup->l.Pairwise (· < ·):=fun {l} a b=>(List.Pairwise.and a b).imp fun ⟨x,y⟩=>by omega
 generalize hps:pi.map Int.toNat=ps at epi hpp nps;have npi:pi.Nodup:=h1.nodup_iff.mpr (List.pairwise_map.mpr (hpn.imp fun h z=>h ⋯));have mem:∀ q,q∈ps↔q∈pl:=fun q=>hpp.mem_iff;have rmem:∀ n,n∈rs↔n∈rl:=fun n=>h3.mem_iff;have nrs:rs.Nodup:=h3.nodup_iff.mpr hrn;have gap:∀ p,gs[p]?=some .non->p∈ps:=fun p hp=>(mem p).mpr ((hpm p).mpr ⟨p,0,hp,.nil⟩);have all:∀ n,n∈rs↔∃ p∈ps,∃ r,rows[p]?=some r/\n∈r:=fun n=>by
  rw[rmem,hrm];exact⟨fun ⟨p,a,b⟩=>⟨p,(mem p).mpr a,b⟩,fun ⟨p,a,b⟩=>⟨p,(mem p).mp a,b⟩⟩
 have has:∀ n∈rs,∃ p∈ps,gs[p]?=#[f,n]:=fun n hn=>by
  obtain⟨p,hp,r,h5,h6⟩:=(all n).mp hn;obtain⟨g,k,hg,hw⟩:=(hpm p).mp ((mem p).mp hp);by_cases hx:∃ j:Nat,gs[j]?=some (V.int n)
  ·obtain⟨j,hj⟩:=hx;exact⟨j,(mem j).mpr ((hpm j).mpr ⟨g,k+1,hg,.snoc hw ⟨⟨r,h5,h6⟩,hj⟩⟩),hj⟩
  ·exact absurd ⟨n,⟨r,h5,h6⟩,fun j hj=>hx ⟨j,hj⟩⟩ (NA g hg p k hw)
 refine⟨ps,epi,?_,fun p hp=>hlt p ((mem p).mp hp),strictly h4 nrs,all,?_,fun hz=>?_,gap,has⟩
 ·have:=strictly h2 npi;rw[epi,List.pairwise_map] at this;exact this.imp fun h=>by omega
 ·have hone:∀ p∈ps,∃ x,gs[p]?=some x/\oneV x:=fun p hp=>by
   have hl:p<gs.length:=by rw[FP.len];exact hlt p ((mem p).mp hp)
   exact⟨_,zws hl,FP.one _ (zxp hl)⟩
  rw[zjj hone]
  congr 1
  ·refine Ao (U1 FP nps) nrs fun n=>?_;rw[zyj];constructor
   ·rintro⟨p,hp,e⟩;have e:=Qa.mp e;obtain⟨r,h5,h6⟩:=FP.may p n e;exact(all n).mpr ⟨p,hp,r,h5,h6⟩
   ·intro hn;obtain⟨p,hp,e⟩:=has n hn;exact⟨p,hp,Qa.mpr e⟩
  ·refine Ao (nps.filter _) zbw fun p=>?_;rw[zxu,Tq];exact⟨fun h=>of_decide_eq_true h.2,fun h=>⟨gap p h,zwy h⟩⟩
 ·cases hc:ps with
  | nil=>rfl
  | cons p r =>
    have hp:p∈ps:=by rw[hc];simp
    obtain⟨g,_,hg,_⟩:=(hpm p).mp ((mem p).mp hp);have:=Tq.mpr hg;rw[hz] at this;cases this
end
inductive zdd(K:Frag)(vs:#[a])(H:Hp)(Q:VK)(_:XK):Prop where
 | mk(l lg:Addr)(ls:#[z])(rows:#[E])(nu:#[p])(gs:#[a])(_:vs=[.ref l,.ref lg])(_:H l=some (.lst (ls.map V.ref)))(_:ILs H ls rows)(_:Pj rows nu)(_:#[y,H,lg,gs])(_:Yu rows gs)(_:Dv rows gs)(_:∀ t lp lr ps rs H',H' t=#[A,[.ref lp,.ref lr]]->H' lp=#[T,U9,ps]->H' lr=#[T,rs.map,V.int]->Cw rows gs ps rs->#[q]->H t=none->H lp=none->H lr=none->lp≠lr->#[M,t])
section
variable{rows:#[E]}{gs:#[a]}{p:Nat}{line:List Nat}{dep:Nat->Nat}{fr:Nat->Option (Nat×Int)}
def byV(x:Option (Nat×Int)):V:=match x with|none=>.non|some y=>.int (y.1:Nat)
structure znp(by_:#[X])(line:List Nat)(fr:Nat->Option (Nat×Int)):Prop where
 keys:by_.map (·.1)=line.map fun q:Nat=>(inl (q:Int):Key)
 val:∀ q∈line,valV by_ (inl (q:Int):Key)=some (byV (fr q))
structure znq(rows:#[E])(gs:#[a])(dep:Nat->Nat)(q:Nat)(x:Int)(tl:#[J])(e:Nat)(n:Int):Prop where
 ch:Ch rows gs q ((q,some x) :: tl) e (some n)
 nd:(((q,some x) :: tl).map (·.1)).Nodup
 far:∀ s∈tl,dep q<dep s.1
end
section
variable{rows:#[E]}{gs:#[a]}
def zkz(rows:#[E])(gs:#[a])(p:Nat):Prop:=∀ q k,#[Y,p,q,k]->¬ Uw rows gs q
structure zmj(rows:#[E])(f k:Nat)(gs:#[a]):Prop where
 fill:Yu rows gs
 seen:∀ j,j<k->(∃ n,gs[(f+j)%rows.length]?=some (.int n))\/zkz rows gs ((f+j)%rows.length)
 later:∀ p,(∀ j,j<k->(f+j)%rows.length≠p)->p<rows.length->gs[p]?=some .non
end
end G
namespace PySem
theorem Dw(f:α->β):∀ (l:List α) (j:Nat),(l.map f).eraseIdx j=(l.eraseIdx j).map f
 | [],_=>rfl
 | _ :: _,0=>rfl
 | x :: l,j+1=>by
   show f x :: (l.map f).eraseIdx j=f x :: (l.eraseIdx j).map f;rw[Dw f l j]
section
variable{prog:Program}{w:World}{K:Type}[DecidableEq K]{knd:HeapKind prog w K}{A:Around}{E:Value->Shared->Prop}{s:Shared}
theorem Nb(hu:knd.room A)(hkey:knd.is s.heap k a)(hm:s.heap.DictOfH knd d xs)(hj:xs[j]?=some (k,p))(hsz:xs.length<=sizeLine)
  (hQ:∀ h',h'.DictOfH knd d (xs.eraseIdx j)->Heap.SameBut d s.heap h'->Q (some (entryOfKey knd (k,p))) { s with heap:=h',toks:=s.toks+knd.draws k }) :
  wpAny (model prog w) A (Builtin.Dict.takeOut d (.ref a)) Q E s:=by
 obtain⟨o,es,ep,ho,hc,hd,he,his,hn⟩:=hm;unfold Builtin.Dict.takeOut
 try with_reducible refine wpAny_holding ?_
 refine wpAny_bind (knd.pyHash hu hkey (wpAny_bind (wpAny_dictFind_heap (s:={ s with toks:=s.toks+knd.draws k }) hu hkey ho hd he his hn ?_ ?_)))
 ·intro hno;exact absurd hj (hno j p)
 ·intro j' p' hj';have ej:=idxH_unique hn hj' hj;subst ej;refine wpAny_bind (wpAny_dictEntries (s:={ s with toks:=s.toks+knd.draws k }) ho hd ?_);rw[entry_at he j',hj];refine wpAny_bind (wpAny_updateDictKeys (hz:=by have e:=size_of_entries he;omega) (s:={ s with toks:=s.toks+knd.draws k }) ho hd (wpAny_pure (hQ _ ⟨_,_,ep+1,Heap.get?_update_self _ ho (Obj.isFreed_of_dict (Obj.data_mapDictKeys hd _)),
   hc.mapDictKeys _,Obj.data_mapDictKeys hd _,?_,?_,?_⟩ (Heap.SameBut.update ..))))
  ·obtain⟨l⟩:=es;simp only at he;simp[he,Dw]
  ·intro x hx;exact knd.keeps (his x (List.mem_of_mem_eraseIdx hx)) ho hd (Heap.SameBut.update ..)
  ·have:=hn.sublist (List.Sublist.map (·.1) (List.eraseIdx_sublist xs j'));exact this
theorem Jh(d a:Addr)(k:K) :
  MeetsIn prog w (Builtin.«dict.pop» ⟨[.ref d,.ref a],[]⟩) (fun A R s=>knd.room A.in1/\knd.is s.heap k a/\∃ xs j p,s.heap.DictOfH knd d xs/\xs.length<=sizeLine/\xs[j]?=some (k,p) /\
   ∀ h' t',h'.DictOfH knd d (xs.eraseIdx j)->Heap.SameBut d s.heap h'->R (.ok (.ret p.2)) { s with heap:=h',toks:=t' }) :=
 .of_wp fun A R s ⟨hu,hkey,xs,j,p,hm,hsz,hj,h⟩=>by
  obtain⟨o,es,ep,ho,hc,hd,he,his,hn⟩:=id hm;unfold Builtin.«dict.pop»;refine wpAny_bind ?_;unfold Builtin.Dict.keyAndDefault;refine wpAny_bind (wpAny_notOrdered_dict hm.typeIs ?_);show wpAny _ _ (pure (d,Value.ref a,none)) _ _ s;refine wpAny_pure ?_;have hp:(keyPart (Value.ref a)).isSome=false:=rfl;simp only[hp,zx6,if_false];refine wpAny_bind (wpAny_dictEntries ho hd (wpAny_bind (wpAny_pure ?_)));have hne:es.isEmpty=false:=by
   have h1:=size_of_entries he;have h2:=(zwr.mp hj).1;rw[Array.isEmpty_eq_false_iff_exists_mem];exact⟨es[0]'⋯,Array.getElem_mem _⟩
  simp only[hne,zx6,if_false];refine wpAny_bind (Nb hu hkey hm hj hsz fun h' hm' hs'=>?_);simp only[Option.isNone_some,zx6,if_false];exact wpAny_bind (wpAny_letGo (wpAny_pure #[t,p.2,h h' _ hm' hs']))
end
end PySem
namespace L2
open PySem PySem.Spec PyProof.Rows
theorem KT.drop:∀ {kvs:List (List Key×V)} {xs:List (List Key×Addr×Value)},KT H kvs xs->(xs.map (·.1)).Nodup->valV kvs k=some v->∃ j p,xs[j]?=some (k,p)/\RelV v p.2/\KT H (X4 kvs k) (xs.eraseIdx j):=fun {kvs xs} r=>by
 induction r with
 | nil=>intro _ hv;cases hv
 | @cons p q kvs xs h t ih=>
     intro nd hv
     rw[zw3,zxh] at nd;obtain⟨h1,h2,h3⟩:=h;by_cases e:p.1=k
     ·rw[Xe e] at hv;cases hv;refine⟨0,q.2,by rw[<- e,h1];rfl,h3,?_⟩;show KT H (X4 (p :: kvs) k) xs;have hd:X4 (p :: kvs) k=kvs:=by
       unfold X4;rw[zx8 (by simp[e])];rw[List.filter_eq_self];intro kv hkv;refine zwy fun z=>nd.1 ?_;have:∀ {l:List (List Key×V)} {m:List (List Key×Addr×Value)},KT H l m->kv∈l->kv.1∈m.map (·.1):=by
        intro l m q
        induction q with
        | nil=>intro hx;cases hx
        | @cons p' q' ps qs hq t ih =>
          intro hx;rcases zwu.mp hx with z|z
          ·rw[z,hq.1];exact zxl
          ·exact zxa _ (ih z)
       have h9:=this t hkv;rw[z,<- e,h1] at h9;exact h9
      rw[hd];exact t
     ·rw[Xa e] at hv;obtain⟨j,pp,h4,h5,h6⟩:=ih nd.2 hv;refine⟨j+1,pp,h4,h5,?_⟩;have hd:X4 (p :: kvs) k=p :: X4 kvs k:=by
       unfold X4;rw[zx7 (by simp[e])]
      rw[hd];exact .cons ⟨h1,h2,h3⟩ h6
inductive ziv(ty:TE)(σ:L2.St)(Q:VK)(x:V)(H1:Hp):Prop where
 | mk(a)(_:x=.ref a)(_:IsD H1 a)(_:ty σ H1 fun y H2=>∃ (kvs:List (List Key×V)) (k:List Key) (b:Addr) (v:V),H2 a=#[c,.dT,kvs]/\y=.ref b/\H2 b=some (.tup (k.map kV))/\valV kvs k=some v/\Q v (upd H2 a (.dT (X4 kvs k))))
def zk0(td ty:TE):TE:=fun σ H Q=>td σ H fun x H1=>ziv ty σ Q x H1
theorem zg5(hu:X.A.units+1<cLine)(ho:PE X o td)(he:PE X e ty)(m:M1 X o "pop" apos e cpos):PE X (.Call (.Attribute o "pop" apos) [e] [] cpos) (zk0 td ty):=by
 intro pins s σ H Q I h;refine wpAny_Call_method m.base m.few m.line PySem.F.plainAttrs_dict PySem.F.slot_dict_pop PySem.F.type_dict_pop (thn (ho pins s σ H _ I h) fun u s1 ⟨x,H1,I1,rx,a,ex,d,q1⟩=>?_);subst ex;obtain rfl:u=Value.ref a:=rx;obtain⟨t1,t2,_⟩:=zbg I1 d;refine⟨t1,t2,?_⟩;rw[m.trees];refine Calls.callWith_builtin rfl (Calls.evalArgs_plain (Calls.spliced_cons (thn (he pins s1 σ H1 _ I1 q1) fun iv s2 ⟨y,H2,I2,ry,kvs,k,b,v,ea,ey,eb,l,q2⟩=>Calls.spliced_nil ?_)));subst ey;cases (show iv=Value.ref b from ry);obtain⟨z,hd,xs,rel,dd⟩:=zjf I2.hok ea;have hz:xs.length<=sizeLine:=by rw[<- Paired.length rel];exact z
 obtain⟨j,p,hj,rv,rel'⟩:=KT.drop rel (by obtain⟨_,_,_,_,_,_,_,_,hn⟩:=dd;exact hn) l;refine call_meetsIn PySem.F.slot_dict_pop dd.typeIs PySem.F.entry_dict_pop (PySem.F.args_dict_pop_2 _ _) (Jh (knd:=tupleKind (Yn X.prog X.w)) a b k) ⟨tupleKind_room_in1 hu,O6 I2.hok eb,xs,j,p,dd,hz,hj,fun h' t' dd' hs=>⟨v,_,?_,rv,q2⟩⟩;obtain⟨q,es,ep,hq,h2,h3,h4,_,h5⟩:=dd';refine Od I2 (by rw[ea];exact True.intro) hs ⟨q,hq⟩ ⟨zw6 (B1 kvs k) z,hd,_,rel'.keeps fun c ys ec=>?_,q,es,ep,hq,h2,h3,h4,h5⟩;rw[Zi (Yz ec ea (fun z=>nomatch z))];exact ec
end L2
namespace G
open PySem PySem.Spec PyProof.Rows L2
structure CA where
 season:Addr
 sheet:Addr
 roster:Addr
 ledger:Addr
 out:Addr
 known:Addr
 many:Addr
 unk:Addr
 manyM:Addr
 same:Addr
 noMatch:Addr
 noRound:Addr
 over:Addr
 seaOver:Addr
 away:Addr
 drawn:Addr
 notDrawn:Addr
 nothing:Addr
 manyD:Addr
theorem Tr:1000000<sizeLine:=by rw[sizeLine_eq];decide
abbrev RL:=List (Int×Int×Int)
inductive Vh(H:Hp):RL->#[X]->Prop where
 | nil:Vh H [] []
 | cons {n g c:Int} {t:Addr} {R:RL} {kvs:#[X]} (h:#[R,H,t,#[Q,g,c]]) (r:Vh H R kvs):Vh H ((n,g,c) :: R) ((.inl n,.ref t) :: kvs)
theorem Vh.mono(k:#[am]):∀ {R:RL} {kvs:List (Key×V)},Vh H R kvs->Vh H' R kvs
 | _,_,.nil=>.nil
 | _,_,.cons h r=>.cons (k _ _ h) (Vh.mono k r)
theorem Vh.length:∀ {R:RL} {kvs:List (Key×V)},Vh H R kvs->kvs.length=R.length
 | _,_,.nil=>rfl
 | _,_,.cons _ r=>by simp[Vh.length r]
theorem Vh.keys:∀ {R:RL} {kvs:List (Key×V)},Vh H R kvs->(kvs.map fun kv=>kV kv.1)=R.map fun x=>V.int x.1
 | _,_,.nil=>rfl
 | _,_,.cons _ r=>by rw[zw3,zw3,Vh.keys r];rfl
theorem Vh.snoc(h:#[R,H,t,#[Q,g,c]]):∀ {R:RL} {kvs:List (Key×V)},Vh H R kvs->Vh H (R++[(n,g,c)]) (kvs++[(.inl n,.ref t)])
 | _,_,.nil=>.cons h .nil
 | _,_,.cons h' r=>.cons h' (Vh.snoc h r)
theorem Vh.val_none:∀ {R:RL} {kvs:List (Key×V)},Vh H R kvs->n∉R.map (·.1)->valV kvs (inl n:Key)=none
 | _,_,.nil,_=>rfl
 | _,_,.cons (n:=m) _ r,h=>by
   rw[zw3,zwu,not_or] at h;rw[Xa fun e=>h.1 (inl.inj e).symm];exact Vh.val_none r h.2
theorem Vh.val_some:∀ {R:RL} {kvs:List (Key×V)},Vh H R kvs->(R.map (·.1)).Nodup->(n,g,c)∈R->∃ t,valV kvs (inl n:Key)=#[b,t]/\H t=#[A,#[Q,g,c]]
 | _,_,.nil,_,h=>by simp at h
 | _,_,.cons (n:=m) (g:=g') (c:=c') (t:=t) ht r,nd,h=>by
   rw[zw3,zxh] at nd;by_cases e:m=n
   ·subst e;rcases zwu.mp h with q|q
    ·cases q;exact⟨t,Xe rfl,ht⟩
    ·exact absurd (zw0.mpr ⟨_,q,rfl⟩) nd.1
   ·rcases zwu.mp h with q|q
    ·cases q;exact absurd rfl e
    ·obtain⟨t',h1,h2⟩:=Vh.val_some r nd.2 q;exact⟨t',by rw[Xa fun z=>e (inl.inj z)];exact h1,h2⟩
theorem Vh.isSome(e:Vh H R kvs)(nd:(R.map (·.1)).Nodup):(valV kvs (inl n:Key)).isSome=#[j,n∈R.map (·.1)]:=by
 by_cases h:n∈R.map (·.1)
 ·obtain⟨⟨m,g,c⟩,q,rfl⟩:=zw0.mp h;obtain⟨t,h1,_⟩:=e.val_some nd q;rw[h1,zwy h];rfl
 ·rw[e.val_none h,zw1 h];rfl
theorem Vh.unsnoc:∀ {R:RL} {kvs:List (Key×V)},Vh H (R++[(n,g,c)]) kvs->n∉R.map (·.1)->Vh H R (X4 kvs (inl n)):=fun {R}=>by
 induction R with
 | nil=>
  intro kvs q _;have q:Vh H [(n,g,c)] kvs:=q;cases q with
  | cons h r=>
   cases r;unfold X4;rw[zx8 (by simp)];exact .nil
 | cons p R ih=>
  obtain⟨m,g',c'⟩:=p;intro kvs q hn;have q:Vh H ((m,g',c') :: (R++[(n,g,c)])) kvs:=q;cases q with
  | cons h r=>
    rw[zw3,zwu,not_or] at hn;unfold X4;rw[zx7 (by
     refine zwy fun z=>hn.1 ?_;exact(inl.inj z).symm)]
    exact .cons h (ih r hn.2)
structure Y8(C:Addr)(H:Hp)(p d:Addr)(R:RL):Prop where
 ex:∃ dx kvs,H p=some (.ins C dx [("entries",.ref d)])/\H d=#[c,.dK,kvs]/\Vh H R kvs
 nd:(R.map (·.1)).Nodup
theorem Vi:List.lookup ("entries":Str) ([("entries",V.ref d)]:#[ad])=#[c,.ref,d]:=by simp only[zxr,beq_self_eq_true]
theorem Y8.no{d:Addr}{m:Str}(h:¬ m="entries"):List.lookup m ([("entries",V.ref d)]:#[ad])=none:=by
 have e:(m == "entries")=false:=zxg.mpr h;simp only[zxr,e,List.lookup_nil]
theorem Y8.keep(h:Y8 C H p d R)(kp:∀ o,H p=#[d]->H' p=#[d])(kd:∀ o,H d=#[d]->H' d=#[d])(kt:#[am]):Y8 C H' p d R:=by
 obtain⟨⟨dx,kvs,h1,h2,h3⟩,nd⟩:=h;exact⟨⟨dx,kvs,kp _ h1,kd _ h2,h3.mono kt⟩,nd⟩
theorem Y8.same(h:Y8 C H p d R)(e:#[q]):Y8 C H' p d R:=h.keep (fun _ q=>e _ _ q) (fun _ q=>e _ _ q) fun _ _ q=>e _ _ q
def badI(n g c:Int):Prop:=n<1\/999<n\/g<1\/9<g\/c<1\/99<c
instance {n g c:Int}:Decidable (badI n g c):=by unfold badI;infer_instance
def Cy(n g c:Int):Prop:=Z7 n/\Z7 g/\Z7 c
inductive Mm(x:Addr)(vs:#[a])(H:Hp)(Q:VK)(E:XK):Prop where
 | mk(v)(lo)(m)(_:vs=#[S,.int v,lo,m])(_:Z7 v)(_:Z7 lo)(_:Z7 m)(_:(if v<lo\/m<v then #[H,x] else Q .non H))
inductive zde(ca:CA)(vs:#[a])(H:Hp)(Q:VK)(_:XK):Prop where
 | mk(p)(dx)(_:vs=[.ref p])(_:H p=some (.ins ca.roster dx []))(_:∀ d,H d=none->Q .non (upd (upd H d (.dK [])) p (.ins ca.roster dx [("entries",.ref d)])))
inductive Nd(ca:CA)(vs:#[a])(H:Hp)(Q:VK)(E:XK):Prop where
 | mk(p)(d)(R)(n)(g)(c)(_:vs=[.ref p,.int n,.int g,.int c])(_:Y8 ca.roster H p d R)(_:Cy n g c)(_:if badI n g c then #[H,ca.out] else if n∈R.map (·.1) then #[H,ca.known] else if 30<=R.length then #[H,ca.many] else Q .non H)
inductive Vu(ca:CA)(vs:#[a])(H:Hp)(Q:VK)(E:XK):Prop where
 | mk(p)(d)(R)(n)(_:vs=[.ref p,.int n])(_:Y8 ca.roster H p d R)(_:Z7 n)(_:if n∈R.map (·.1) then Q .non H else #[H,ca.unk])
inductive zg6(ca:CA)(vs:#[a])(H:Hp)(Q:VK)(E:XK):Prop where
 | mk(p)(d)(R)(n)(g)(c)(_:vs=[.ref p,.int n,.int g,.int c])(_:Y8 ca.roster H p d R)(_:Cy n g c)(_:R.length<=1000)(_:if badI n g c then #[H,ca.out] else if n∈R.map (·.1) then #[H,ca.known] else if 30<=R.length then #[H,ca.many] else ∀ H',Y8 ca.roster H' p d (R++[(n,g,c)])->(∀ b o,H b=some o->b≠d->H' b=some o)->Q .non H')
inductive Aq(ca:CA)(vs:#[a])(H:Hp)(Q:VK)(_:XK):Prop where
 | mk(p)(d)(R)(n)(g)(c)(_:vs=[.ref p,.int n])(_:Y8 ca.roster H p d (R++[(n,g,c)]))(_:∀ H',Y8 ca.roster H' p d R->(∀ b o,H b=some o->b≠d->H' b=some o)->Q .non H')
inductive Nf(ca:CA)(vs:#[a])(H:Hp)(Q:VK)(_:XK):Prop where
 | mk(p)(d)(R)(_:vs=[.ref p])(_:Y8 ca.roster H p d R)(_:∀ l,H l=none->Q (.ref l) (upd H l (.lst (R.map fun x=>V.int x.1))))
inductive Ho(ca:CA)(vs:#[a])(H:Hp)(Q:VK)(E:XK):Prop where
 | mk(p)(d)(R)(n)(_:vs=[.ref p,.int n])(_:Y8 ca.roster H p d R)(_:Z7 n)(_:(n∉R.map (·.1)->#[H,ca.unk]))(_:∀ g c t,(n,g,c)∈R->H t=#[A,#[Q,g,c]]->Q (.ref t) H)
inductive Hq(ca:CA)(vs:#[a])(H:Hp)(Q:VK)(E:XK):Prop where
 | mk(p)(d)(R)(n)(_:vs=[.ref p,.int n])(_:Y8 ca.roster H p d R)(_:Z7 n)(_:(n∉R.map (·.1)->∀ H',#[q]->E (.ref ca.unk) none H'))(_:∀ g c t H',(n,g,c)∈R->H' t=some (.tup (pV (n,g,c)))->#[q]->H t=none->#[M,t])
structure Z2 where
 ms:List (Int×Int×Int)
 may:#[E]
 gv:#[a]
 gaps:List (Int×#[J])
inductive Wl(ok:Addr->Prop)(H:Hp):#[a]->List (Int×#[J])->Prop where
 | nil:Wl ok H [] []
 | cons {t l:Addr} {n:Int} {us:#[a]} {st:#[J]} {ts:#[a]} {G:List (Int×#[J])} (h:#[R,H,t,[.int n,.ref l]]) (hl:#[y,H,l,us]) (tl:Yf H us (st.map V7)) (o:ok l) (r:Wl ok H ts G):Wl ok H (.ref t :: ts) ((n,st) :: G)
theorem Wl.keep(k:#[aw,x,x])(kt:#[am]):∀ {ts:List V} {G:List (Int×List (Nat×Option Int))},Wl ok H ts G->Wl ok H' ts G
 | _,_,.nil=>.nil
 | _,_,.cons h hl tl o r=>.cons (kt _ _ h) (k _ _ o hl) (tl.mono kt) o (Wl.keep k kt r)
theorem Wl.imp(k:#[ay]):∀ {ts:List V} {G:List (Int×List (Nat×Option Int))},Wl ok H ts G->Wl ok' H ts G
 | _,_,.nil=>.nil
 | _,_,.cons h hl tl o r=>.cons h hl tl (k _ ⟨_,hl⟩ o) (Wl.imp k r)
theorem Wl.length:∀ {ts:List V} {G:List (Int×List (Nat×Option Int))},Wl ok H ts G->ts.length=G.length
 | _,_,.nil=>rfl
 | _,_,.cons _ _ _ _ r=>by simp[Wl.length r]
theorem Wl.snoc{ok:Addr->Prop}{H:Hp}{t l:Addr}{n:Int}{us:#[a]}{st:#[J]}(h:#[R,H,t,[.int n,.ref l]])(hl:#[y,H,l,us])(tl:Yf H us (st.map V7))(o:ok l):∀ {ts:List V} {G:List (Int×List (Nat×Option Int))},Wl ok H ts G->Wl ok H (ts++[.ref t]) (G++[(n,st)])
 | _,_,.nil=>.cons h hl tl o .nil
 | _,_,.cons h' hl' tl' o' r=>.cons h' hl' tl' o' (Wl.snoc h hl tl o r)
theorem Wl.get:∀ {ts:List V} {G:List (Int×List (Nat×Option Int))} {i:Nat} {x:V},Wl ok H ts G->ts[i]?=some x->∃ t l n us st,x=.ref t/\G[i]?=some (n,st)/\H t=#[A,[.int n,.ref l]]/\H l=#[w,us]/\Yf H us (st.map V7)/\ok l
 | _,_,_,_,.nil,e=>by simp at e
 | _,_,0,_,.cons h hl tl o _,e=>by simp at e;subst e;exact⟨_,_,_,_,_,rfl,rfl,h,hl,tl,o⟩
 | _,_,i+1,x,.cons _ _ _ _ r,e=>by
   obtain⟨t,l,n,us,st,h1,h2,h3⟩:=Wl.get (i:=i) (x:=x) r (by simpa using e);exact⟨t,l,n,us,st,h1,by simpa using h2,h3⟩
def shF(l1 l2 l3 l4:Addr):#[ad]:=[("listed",.ref l1),("lists",.ref l2),("given",.ref l3),("gaps",.ref l4)]
structure ShAt(C:Addr)(ok:Addr->Prop)(H:Hp)(q:Addr)(s:Z2):Prop where
 ex:∃ dx l1 l2 l3 l4 ts ls gts,H q=some (.ins C dx (shF l1 l2 l3 l4))/\H l1=#[w,ts]/\Yf H ts (s.ms.map pV)/\H l2=#[T,ls.map,V.ref]/\ILs H ls s.may/\H l3=#[w,s.gv]/\H l4=#[w,gts]/\Wl ok H gts s.gaps/\(ok q/\ok l1/\ok l2/\ok l3/\ok l4/\∀ x∈ls,ok x)
theorem ShAt.keep(h:ShAt C ok H q s)(k:#[aw,x,x])(kt:#[am]):ShAt C ok H' q s:=by
 obtain⟨dx,l1,l2,l3,l4,ts,ls,gts,a1,a2,a3,a4,a5,a6,a7,a8,o1,o2,o3,o4,o5,o6⟩:=h;exact⟨dx,l1,l2,l3,l4,ts,ls,gts,k _ _ o1 a1,k _ _ o2 a2,a3.mono kt,k _ _ o3 a4,a5.keep fun x hx o q=>k _ _ (o6 x hx) q,k _ _ o4 a6,k _ _ o5 a7,a8.keep k kt,o1,o2,o3,o4,o5,o6⟩
theorem ShAt.imp(h:ShAt C ok H q s)(k:#[ay]):ShAt C ok' H q s:=by
 obtain⟨dx,l1,l2,l3,l4,ts,ls,gts,a1,a2,a3,a4,a5,a6,a7,a8,o1,o2,o3,o4,o5,o6⟩:=h;exact⟨dx,l1,l2,l3,l4,ts,ls,gts,a1,a2,a3,a4,a5,a6,a7,a8.imp k,k _ ⟨_,a1⟩ o1,k _ ⟨_,a2⟩ o2,k _ ⟨_,a4⟩ o3,k _ ⟨_,a6⟩ o4,k _ ⟨_,a7⟩ o5,fun x hx=>k _ (let ⟨_,z⟩:=a5.has hx;⟨_,z⟩) (o6 x hx)⟩
theorem ShAt.same(h:ShAt C ok H q s)(e:#[q]):ShAt C ok H' q s:=h.keep (fun _ _ _ q=>e _ _ q) fun _ _ q=>e _ _ q
def ShO(C:Addr)(ok:Addr->Prop)(H:Hp)(v:V)(s:Option Z2):Prop:=match s with|none=>v=.non|some s=>∃ q,v=.ref q/\ShAt C ok H q s
theorem ShO.keep(h:ShO C ok H v s)(k:#[aw,x,x])(kt:#[am]):ShO C ok H' v s:=by
 cases s with
 | none=>exact h
 | some s=>obtain⟨q,e,h⟩:=h;exact⟨q,e,h.keep k kt⟩
theorem ShO.imp(h:ShO C ok H v s)(k:#[ay]):ShO C ok' H v s:=by
 cases s with
 | none=>exact h
 | some s=>obtain⟨q,e,h⟩:=h;exact⟨q,e,h.imp k⟩
inductive ShL(C:Addr)(ok:Addr->Prop)(H:Hp):#[a]->List Z2->Prop where
 | nil:ShL C ok H [] []
 | cons {q:Addr} {s:Z2} {vs:#[a]} {ss:List Z2} (h:ShAt C ok H q s) (r:ShL C ok H vs ss):ShL C ok H (.ref q :: vs) (s :: ss)
theorem ShL.keep(k:#[aw,x,x])(kt:#[am]):∀ {vs:List V} {ss:List Z2},ShL C ok H vs ss->ShL C ok H' vs ss
 | _,_,.nil=>.nil
 | _,_,.cons h r=>.cons (h.keep k kt) (ShL.keep k kt r)
theorem ShL.imp(k:#[ay]):∀ {vs:List V} {ss:List Z2},ShL C ok H vs ss->ShL C ok' H vs ss
 | _,_,.nil=>.nil
 | _,_,.cons h r=>.cons (h.imp k) (ShL.imp k r)
theorem ShL.length:∀ {vs:List V} {ss:List Z2},ShL C ok H vs ss->vs.length=ss.length
 | _,_,.nil=>rfl
 | _,_,.cons _ r=>by simp[ShL.length r]
theorem ShL.snoc(h:ShAt C ok H q s):∀ {vs:List V} {ss:List Z2},ShL C ok H vs ss->ShL C ok H (vs++[.ref q]) (ss++[s])
 | _,_,.nil=>.cons h .nil
 | _,_,.cons h' r=>.cons h' (ShL.snoc h r)
theorem ShL.getR:∀ {vs:List V} {ss:List Z2} {i:Nat} {s:Z2},ShL C ok H vs ss->ss[i]?=some s->∃ q,vs[i]?=#[b,q]/\ShAt C ok H q s
 | _,_,_,_,.nil,e=>by simp at e
 | _,_,0,_,.cons h _,e=>by simp at e;subst e;exact#[t,_,h]
 | _,_,i+1,x,.cons _ r,e=>by
   obtain⟨t,h1,h2⟩:=ShL.getR (i:=i) (s:=x) r (by simpa using e);exact⟨t,by simpa using h1,h2⟩
abbrev Ru:=Str×Int×Int
def Qt(d:Ru):#[a]:=#[S,.str d.1,d.2.1,d.2.2]
inductive U2(C:Addr)(ok:Addr->Prop)(H:Hp):#[a]->List (Ru×Option Z2)->Prop where
 | nil:U2 C ok H [] []
 | cons {t u:Addr} {v:V} {d:Ru} {s:Option Z2} {vs:#[a]} {ss:List (Ru×Option Z2)} (h:#[R,H,t,[.ref u,v]]) (hu:H u=some (.tup (Qt d))) (hs:ShO C ok H v s) (r:U2 C ok H vs ss):U2 C ok H (.ref t :: vs) ((d,s) :: ss)
theorem U2.keep(k:#[aw,x,x])(kt:#[am]):∀ {vs:List V} {ss:List (Ru×Option Z2)},U2 C ok H vs ss->U2 C ok H' vs ss
 | _,_,.nil=>.nil
 | _,_,.cons h hu hs r=>.cons (kt _ _ h) (kt _ _ hu) (hs.keep k kt) (U2.keep k kt r)
theorem U2.length:∀ {vs:List V} {ss:List (Ru×Option Z2)},U2 C ok H vs ss->vs.length=ss.length
 | _,_,.nil=>rfl
 | _,_,.cons _ _ _ r=>by simp[U2.length r]
theorem U2.snoc(h:#[R,H,t,[.ref u,v]])(hu:H u=some (.tup (Qt d)))(hs:ShO C ok H v s):∀ {vs:List V} {ss:List (Ru×Option Z2)},U2 C ok H vs ss->U2 C ok H (vs++[.ref t]) (ss++[(d,s)])
 | _,_,.nil=>.cons h hu hs .nil
 | _,_,.cons h' hu' hs' r=>.cons h' hu' hs' (U2.snoc h hu hs r)
theorem U2.unsnoc:∀ {vs:List V} {ss:List (Ru×Option Z2)},U2 C ok H vs (ss++[(d,s)])->∃ vs' t u v,vs=vs'++[.ref t]/\H t=#[A,[.ref u,v]]/\H u=some (.tup (Qt d))/\ShO C ok H v s/\U2 C ok H vs' ss:=fun {vs ss}=>by
 induction ss generalizing vs with
 | nil=>
  intro q;have q:U2 C ok H vs [(d,s)]:=q;cases q with
  | cons h hu hs r=>cases r;exact⟨[],_,_,_,rfl,h,hu,hs,.nil⟩
 | cons x ss ih=>
  intro q;have q:U2 C ok H vs (x :: (ss++[(d,s)])):=q;cases q with
  | cons h hu hs r=>obtain⟨vs',t,u,v,e,a1,a2,a3,a4⟩:=ih r;exact⟨_ :: vs',t,u,v,by rw[e];rfl,a1,a2,a3,.cons h hu hs a4⟩
structure Sea where
 len:Nat
 rest:Nat
 ppl:RL
 led:#[ae]
 out:List (Int×Int)
 old:List Z2
 cur:Option Z2
 std:List (Ru×Option Z2)
structure SAd where
 p:Addr
 pr:Addr
 dr:Addr
 pl:Addr
 lr:Addr
 ld:Addr
 da:Addr
 ls:Addr
 lt:Addr
def SAd.fp(A:SAd):#[z]:=[A.p,A.dr,A.lr,A.ld,A.da,A.ls,A.lt]
def seaF(A:SAd)(len rest:Nat)(v:V):#[ad]:=[("length",.int len),("rest",.int rest),("roster",.ref A.pr),("ledger",.ref A.pl),("absent",.ref A.da),("sheets",.ref A.ls),("sheet",v),("standing",.ref A.lt)]
def Pk(kvs:List (List Key×V))(out:List (Int×Int)):Prop:=(∀ at_ n:Int,(valV kvs [inl at_,inl n]).isSome=decide ((at_,n)∈out))/\kvs.length<=out.length
structure Zw(ca:CA)(H:Hp)(A:SAd)(S:Sea):Prop where
 obj:∃ dx v,H A.p=some (.ins ca.season dx (seaF A S.len S.rest v))/\ShO ca.sheet (·∉A.fp) H v S.cur
 ros:Y8 ca.roster H A.pr A.dr S.ppl
 led:Uz ca.ledger H A.pl A.lr A.ld S.led
 out:∃ kvs,H A.da=#[c,.dT,kvs]/\Pk kvs S.out
 old:∃ vs,H A.ls=#[w,vs]/\ShL ca.sheet (·∉A.fp) H vs S.old
 std:∃ vs,H A.lt=#[w,vs]/\U2 ca.sheet (·∉A.fp) H vs S.std
 nd:A.fp.Nodup
 np:A.pr∉A.fp/\A.pl∉A.fp
def FrS(A:SAd)(H H':Hp):Prop:=∀ b o,H b=#[d]->b∉A.fp->H' b=#[d]
end G
namespace L2
open PySem PySem.Spec PyProof.Rows
theorem Ar{X:Cx}{K:Frag}(hK:X.K=K):OpR X (binaryOp .Add) (zjg K):=hK▸zih
end L2
namespace G
open PySem PySem.Spec PyProof.Rows L2
theorem it2{p:Prop}[Decidable p]{A B A' B':Prop}(h:if p then A else B)(h1:p->A->A')(h2:¬ p->B->B'):if p then A' else B':=by
 by_cases z:p
 ·rw[#[l,z]] at h ⊢;exact h1 z h
 ·rw[#[g,z]] at h ⊢;exact h2 z h
theorem zer{κ:Type}[DecidableEq κ]{kvs:List (κ×V)}{k:κ}{v:V}(h:valV kvs k=none):putK kvs k v=kvs++[(k,v)]:=by
 unfold putK;rw[if_neg];intro z;rw[Rp,h] at z;cases z
inductive As(C:Addr)(vs:#[a])(H:Hp)(Q:VK)(_:XK):Prop where
 | mk(p lr ld:Addr)(Rs:#[ae])(b:Addr)(ts:#[a])(rs:List Row)(_:vs=[.ref p,.ref b])(_:Uz C H p lr ld Rs)(_:#[y,H,b,ts])(_:b≠lr)(_:Yf H ts (rs.map Cq))(_:2*(tot Rs+rs.length)<=100000)(_:Rs.length<=1000)(_:∀ H',Uz C H' p lr ld (Rs++[rs])->(∀ b o,H b=some o->b≠lr->b≠ld->H' b=some o)->Q .non H')
def zdf(ok:Addr->Prop)(H:Hp):Prop:=∀ x,H x=none->ok x
inductive Mn(ca:CA)(vs:#[a])(H:Hp)(Q:VK)(_:XK):Prop where
 | mk(q)(dx)(l1)(l2)(l3)(l4)(_:vs=[.ref q,.ref l1,.ref l2,.ref l3,.ref l4])(_:H q=some (.ins ca.sheet dx []))(_:∀ H',H'=upd H q (.ins ca.sheet dx (shF l1 l2 l3 l4))->Q .non H')
theorem Tg:List.lookup ("listed":Str) (shF l1 l2 l3 l4)=#[c,.ref,l1]:=by unfold shF;simp only[zxr,beq_self_eq_true]
theorem Au:List.lookup ("lists":Str) (shF l1 l2 l3 l4)=#[c,.ref,l2]:=by
 have e:(("lists":Str) == "listed")=false:=by decide +kernel
 unfold shF;simp only[zxr,e,beq_self_eq_true]
theorem Ts:List.lookup ("given":Str) (shF l1 l2 l3 l4)=#[c,.ref,l3]:=by
 have e:(("given":Str) == "listed")=false:=by decide +kernel
 have e2:(("given":Str) == "lists")=false:=by decide +kernel
 unfold shF;simp only[zxr,e,e2,beq_self_eq_true]
theorem Cz:List.lookup ("gaps":Str) (shF l1 l2 l3 l4)=#[c,.ref,l4]:=by
 have e:(("gaps":Str) == "listed")=false:=by decide +kernel
 have e2:(("gaps":Str) == "lists")=false:=by decide +kernel
 have e3:(("gaps":Str) == "given")=false:=by decide +kernel
 unfold shF;simp only[zxr,e,e2,e3,beq_self_eq_true]
theorem Wm{l1 l2 l3 l4:Addr}{m:Str}(h1:¬ m="listed")(h2:¬ m="lists")(h3:¬ m="given")(h4:¬ m="gaps"):List.lookup m (shF l1 l2 l3 l4)=none:=by
 have e1:(m == "listed")=false:=zxg.mpr h1;have e2:(m == "lists")=false:=zxg.mpr h2;have e3:(m == "given")=false:=zxg.mpr h3;have e4:(m == "gaps")=false:=zxg.mpr h4;unfold shF;simp only[zxr,e1,e2,e3,e4,List.lookup_nil]
theorem zna:putF "lists" y [(("listed":Str),x)]=([("listed",x),("lists",y)]:List (Str×V)):=by
 have n1:¬ (("listed":Str)="lists"):=by decide +kernel
 simp only[putF,#[g,n1]]
theorem znb:putF "given" z [(("listed":Str),x),("lists",y)]=([("listed",x),("lists",y),("given",z)]:List (Str×V)):=by
 have n1:¬ (("listed":Str)="given"):=by decide +kernel
 have n2:¬ (("lists":Str)="given"):=by decide +kernel
 simp only[putF,#[g,n1],#[g,n2]]
theorem znc:putF "gaps" w [(("listed":Str),x),("lists",y),("given",z)]=([("listed",x),("lists",y),("given",z),("gaps",w)]:List (Str×V)):=by
 have n1:¬ (("listed":Str)="gaps"):=by decide +kernel
 have n2:¬ (("lists":Str)="gaps"):=by decide +kernel
 have n3:¬ (("given":Str)="gaps"):=by decide +kernel
 simp only[putF,#[g,n1],#[g,n2],#[g,n3]]
theorem Ng(hq:H1 q=none)(hdx:H1 dx=none)(ne:dx≠q):Same H1 (upd (upd (upd H1 dx (.own q)) q (.ins C dx [])) q (.ins C dx (shF l1 l2 l3 l4)))/\upd (upd (upd H1 dx (.own q)) q (.ins C dx [])) q (.ins C dx (shF l1 l2 l3 l4)) q=some (.ins C dx (shF l1 l2 l3 l4)):=by
 refine⟨fun b o e=>?_,Zc⟩;rw[Zi (Zh e hq),Zi (Zh e hq),Zi (Zh e hdx)];exact e
inductive Av(ca:CA)(vs:#[a])(H:Hp)(Q:VK)(_:XK):Prop where
 | mk(ok:Addr->Prop)(q l2:Addr)(ls:#[z])(rows:#[E])(s:Z2)(_:vs=[.ref q,.ref l2])(_:ShAt ca.sheet ok H q s)(_:H l2=some (.lst (ls.map V.ref)))(_:ILs H ls rows)(_:ok l2)(_:(∀ x∈ls,ok x))(_:zdf ok H)(_:∀ q' H',ShAt ca.sheet ok H' q' { s with may:=rows }->#[q]->H q'=none->#[M,q'])
inductive Aw(ca:CA)(vs:#[a])(H:Hp)(Q:VK)(_:XK):Prop where
 | mk(ok:Addr->Prop)(q l2:Addr)(ls:#[z])(rows:#[E])(nu:#[p])(s:Z2)(n:Int)(p:Nat)(_:vs=[.ref q,.int n,.ref l2])(_:ShAt ca.sheet ok H q s)(_:H l2=some (.lst (ls.map V.ref)))(_:ILs H ls rows)(_:ok l2)(_:(∀ x∈ls,ok x))(_:zdf ok H)(_:Pj rows nu)(_:(∀ x∈s.gv,oneV x))(_:s.gv[p]?=#[f,n])(_:(∀ j:Nat,s.gv[j]?=#[f,n]->j=p))(_:Yu rows (s.gv.set p .non))(_:s.gaps.length<=1000)(_:∀ q' st e w H',ShAt ca.sheet ok H' q' ⟨s.ms,rows,Yx st (s.gv.set p .non),s.gaps++[(n,st)]⟩->Xk rows (s.gv.set p .non) p st e w->#[q]->H q'=none->#[M,q'])
inductive zdg(ca:CA)(vs:#[a])(H:Hp)(Q:VK)(_:XK):Prop where
 | mk(ok:Addr->Prop)(l1 l2:Addr)(ts:#[a])(ls:#[z])(ms:List (Int×Int×Int))(rows:#[E])(nu:#[p])(_:vs=[.ref l1,.ref l2])(_:#[y,H,l1,ts])(_:Yf H ts (ms.map pV))(_:H l2=some (.lst (ls.map V.ref)))(_:ILs H ls rows)(_:ok l1)(_:ok l2)(_:(∀ x∈ls,ok x))(_:zdf ok H)(_:Pj rows nu)(_:∀ q gv H',ShAt ca.sheet ok H' q ⟨ms,rows,gv,[]⟩->Yu rows gv->Vs rows gv->#[q]->H q=none->#[M,q])
inductive Pl(ca:CA)(vs:#[a])(H:Hp)(Q:VK)(_:XK):Prop where
 | mk(ok:Addr->Prop)(q:Addr)(s:Z2)(_:vs=[.ref q])(_:ShAt ca.sheet ok H q s)(_:∀ l ts H',H' l=#[w,ts]->Yf H' ts (s.ms.map pV)->#[q]->H l=none->#[M,l])
inductive Hr(ca:CA)(vs:#[a])(H:Hp)(Q:VK)(_:XK):Prop where
 | mk(ok:Addr->Prop)(q:Addr)(s:Z2)(_:vs=[.ref q])(_:ShAt ca.sheet ok H q s)(_:∀ l H',H' l=#[w,s.gv]->#[q]->H l=none->#[M,l])
inductive Oi(ca:CA)(vs:#[a])(H:Hp)(Q:VK)(_:XK):Prop where
 | mk(ok:Addr->Prop)(q:Addr)(s:Z2)(n:Int)(_:vs=[.ref q,.int n])(_:ShAt ca.sheet ok H q s)(_:(∀ x∈s.gv,oneV x))(_:s.gv.length<=100)(_:∀ H',Same H H'->Q (oN (Wk s.gv n)) H')
inductive Ax(ca:CA)(vs:#[a])(H:Hp)(Q:VK)(_:XK):Prop where
 | mk(ok:Addr->Prop)(q:Addr)(s:Z2)(_:vs=[.ref q])(_:ShAt ca.sheet ok H q s)(_:(∀ x∈s.gv,oneV x))(_:s.gv.length<=100)(_:∀ l H',H' l=#[T,(V6 s.gv).map,fun i=>V.int (i:Nat)]->Same H H'->H l=none->Q (.ref l) H')
inductive zdh(ca:CA)(vs:#[a])(H:Hp)(Q:VK)(_:XK):Prop where
 | mk(ok:Addr->Prop)(q:Addr)(s:Z2)(nu:#[p])(_:vs=[.ref q])(_:ShAt ca.sheet ok H q s)(_:Pj s.may nu)(_:Yu s.may s.gv)(_:Dv s.may s.gv)(_:∀ t lp lr ps rs H',H' t=#[A,[.ref lp,.ref lr]]->H' lp=#[T,U9,ps]->H' lr=#[T,rs.map,V.int]->Cw s.may s.gv ps rs->#[q]->H t=none->H lp=none->H lr=none->lp≠lr->#[M,t])
inductive zdi(ca:CA)(vs:#[a])(H:Hp)(Q:VK)(E:XK):Prop where
 | mk(ok:Addr->Prop)(q:Addr)(s:Z2)(i:Int)(_:vs=[.ref q,.int i])(_:ShAt ca.sheet ok H q s)(_:Z7 i)(_:s.may.length=s.ms.length)(_:(i<0\/(s.ms.length:Int)<=i->#[H,ca.noMatch]))(_:∀ (k:Nat) r,i=(k:Int)->s.may[k]?=some r->∀ l H',H' l=#[T,r.map,V.int]->#[q]->H l=none->#[M,l])
inductive Lv(ca:CA)(vs:#[a])(H:Hp)(Q:VK)(E:XK):Prop where
 | mk(ok:Addr->Prop)(q:Addr)(s:Z2)(i:Int)(_:vs=[.ref q,.int i])(_:ShAt ca.sheet ok H q s)(_:Z7 i)(_:(if i<0\/(s.ms.length:Int)<=i then #[H,ca.noMatch] else Q .non H))
inductive K0(ca:CA)(vs:#[a])(H:Hp)(Q:VK)(E:XK):Prop where
 | mk(ok:Addr->Prop)(q:Addr)(s:Z2)(i:Int)(_:vs=[.ref q,.int i])(_:ShAt ca.sheet ok H q s)(_:Z7 i)(_:(i<0\/(s.ms.length:Int)<=i->#[H,ca.noMatch]))(_:∀ (k:Nat) m t,i=(k:Int)->s.ms[k]?=some m->H t=some (.tup (pV m))->Q (.ref t) H)
def Ay(m:Int×Int×Int)(x:V):Row:=⟨m.1,m.2.1,m.2.2,Ap (some x)⟩
def Yj(s:Z2):List Row:=List.zipWith Ay s.ms s.gv
inductive Az(ca:CA)(vs:#[a])(H:Hp)(Q:VK)(_:XK):Prop where
 | mk(ok:Addr->Prop)(q:Addr)(s:Z2)(_:vs=[.ref q])(_:ShAt ca.sheet ok H q s)(_:(∀ x∈s.gv,oneV x))(_:s.gv.length=s.ms.length)(_:s.ms.length<=1000)(_:∀ l ts H',H' l=#[w,ts]->Yf H' ts ((Yj s).map Cq)->#[q]->H l=none->#[M,l])
inductive Nh(ca:CA)(vs:#[a])(H:Hp)(Q:VK)(_:XK):Prop where
 | mk(ok:Addr->Prop)(q:Addr)(s:Z2)(_:vs=[.ref q])(_:ShAt ca.sheet ok H q s)(_:s.gaps.length<=1000)(_:∀ l ts H',H' l=#[w,ts]->Wl (fun x=>H x=none/\x≠l) H' ts s.gaps->#[q]->H l=none->#[M,l])
theorem zbx{K:Frag}{a:Addr}{xs:#[a]}{xo:#[B]}{js:List Nat}{g:TG}{tt:TT}{te:TE}{σ:L2.St}{H:Hp}{Q:VK}(Pv:Nat->#[a]->Hp->Prop)(h0:Pv 0 [] H)(hl:∀ i ys H,i<=xs.length->Pv i ys H->SqL K H a xs)(hz:xs.length<=sizeLine)(hy:∀ i ys H,Pv i ys H->ys.length<=i)
  (hs:∀ i x ys H,xs[i]?=some x->Pv i ys H->g x (cs0 xo js σ) H fun σ2 H1=>R9 xo js σ σ2/\tt σ2 H1 fun b H2=>if b=true then te σ2 H2 fun y H3=>Pv (i+1) (ys++[y]) H3 else Pv (i+1) ys H2)
  (hd:∀ ys H,Pv xs.length ys H->∀ p,H p=none->Q (.ref p) (upd H p (.lst ys))):Cu (Itl K a) xo js g tt te σ H Q:=by
 refine⟨fun i m ys H=>m=xs.length-i/\i<=xs.length/\Pv i ys H,⟨xs.length,by simp,zxk _,h0⟩,?_⟩;rintro i m ys H ⟨rfl,hi,p⟩;have q:=hl i ys H hi p;have ly:=hy i ys H p;by_cases hlt:i<xs.length
 ·refine .inr ⟨⟨xs,xs[i],q,by simp[hlt]⟩,by omega,Pv (i+1),fun ys' H' p'=>⟨xs.length-(i+1),by omega,rfl,hlt,p'⟩,fun x H' y=>?_⟩;obtain⟨e,y⟩:=y;subst e;exact hs i x ys _ (y xs q) p
 ·have e:i=xs.length:=by omega
  subst e;exact .inl ⟨⟨xs,q,zwz _⟩,by omega,hd ys H p⟩
theorem zes{K:Frag}{a b:Addr}{xs zs:#[a]}{xo:#[B]}{js:List Nat}{g:TG}{tt:TT}{te:TE}{σ:L2.St}{H:Hp}{Q:VK}(Pv:Nat->#[a]->Hp->Prop)(h0:Pv 0 [] H)(he:xs.length=zs.length)(hl:∀ i ys H,i<=xs.length->Pv i ys H->SqL K H a xs/\SqL K H b zs)(hz:xs.length<=sizeLine)(hy:∀ i ys H,Pv i ys H->ys.length<=i)
  (hs:∀ i x z t ys H,xs[i]?=some x->zs[i]?=some z->Pv i ys H->H t=none->g (.ref t) (cs0 xo js σ) (upd H t (.tup [x,z])) fun σ2 H1=>R9 xo js σ σ2/\tt σ2 H1 fun b H2=>if b=true then te σ2 H2 fun y H3=>Pv (i+1) (ys++[y]) H3 else Pv (i+1) ys H2)
  (hd:∀ ys H,Pv xs.length ys H->∀ p,H p=none->Q (.ref p) (upd H p (.lst ys))):Cu (Itz K a b) xo js g tt te σ H Q:=by
 refine⟨fun i m ys H=>m=xs.length-i/\i<=xs.length/\Pv i ys H,⟨xs.length,by simp,zxk _,h0⟩,?_⟩;rintro i m ys H ⟨rfl,hi,p⟩;obtain⟨q1,q2⟩:=hl i ys H hi p;have ly:=hy i ys H p;by_cases hlt:i<xs.length
 ·refine .inr ⟨⟨xs,zs,xs[i],zs[i]'⋯,q1,q2,by simp[hlt],by rw[zws ⋯]⟩,by omega,Pv (i+1),fun ys' H' p'=>⟨xs.length-(i+1),by omega,rfl,hlt,p'⟩,fun x H' y=>?_⟩;obtain⟨t,y,z,h1,h2,h3,rfl,rfl⟩:=y;exact hs i y z t ys _ (h2 xs q1) (h3 zs q2) p h1
 ·have e:i=xs.length:=by omega
  subst e;exact .inl ⟨⟨xs,zs,q1,q2,.inl (zwz _)⟩,by omega,hd ys H p⟩
theorem zk1(m:Int×Int×Int)(h:oneV x):Cq (Ay m x)=[V.int m.1,V.int m.2.1,V.int m.2.2,x]:=by
 rcases h with rfl|⟨i,rfl⟩<;>rfl
theorem zet(hm:s.ms[i]?=some m)(hx:s.gv[i]?=some x):(Yj s).take (i+1)=(Yj s).take i++[Ay m x]:=by
 have:(Yj s)[i]?=some (Ay m x):=by
  unfold Yj;rw[List.getElem?_zipWith,hm,hx]
 rw[zx9,this];rfl
theorem A0(h:s.gv.length=s.ms.length):(Yj s).length=s.ms.length:=by
 unfold Yj;rw[List.length_zipWith,h,Nat.min_self]
section
variable{ca:CA}{H H':Hp}{A:SAd}{S:Sea}{l:Nat}{r:Nat}{v:V}
theorem A4(A:SAd)(l r:Nat)(v:V):List.lookup ("length":Str) (seaF A l r v)=#[f,l]/\List.lookup ("rest":Str) (seaF A l r v)=#[f,r]/\List.lookup ("roster":Str) (seaF A l r v)=#[b,A.pr]/\List.lookup ("ledger":Str) (seaF A l r v)=#[b,A.pl]/\List.lookup ("absent":Str) (seaF A l r v)=#[b,A.da]/\List.lookup ("sheets":Str) (seaF A l r v)=#[b,A.ls]/\List.lookup ("sheet":Str) (seaF A l r v)=some v/\List.lookup ("standing":Str) (seaF A l r v)=#[b,A.lt]:=by
 have d:∀ a b:Str,#[j,a=b]=false->(a == b)=false:=fun a b h=>zxg.mpr (of_decide_eq_false h);have e1:=d "rest" "length" ⋯;have e2:=d "roster" "length" ⋯;have e3:=d "roster" "rest" ⋯;have f1:=d "ledger" "length" ⋯;have f2:=d "ledger" "rest" ⋯;have f3:=d "ledger" "roster" ⋯;have g1:=d "absent" "length" ⋯;have g2:=d "absent" "rest" ⋯;have g3:=d "absent" "roster" ⋯;have g4:=d "absent" "ledger" ⋯;have h1:=d "sheets" "length" ⋯;have h2:=d "sheets" "rest" ⋯;have h3:=d "sheets" "roster" ⋯;have h4:=d "sheets" "ledger" ⋯;have h5:=d "sheets" "absent" ⋯;have i1:=d "sheet" "length" ⋯;have i2:=d "sheet" "rest" ⋯;have i3:=d "sheet" "roster" ⋯;have i4:=d "sheet" "ledger" ⋯;have i5:=d "sheet" "absent" ⋯;have i6:=d "sheet" "sheets" ⋯;have j1:=d "standing" "length" ⋯;have j2:=d "standing" "rest" ⋯;have j3:=d "standing" "roster" ⋯;have j4:=d "standing" "ledger" ⋯;have j5:=d "standing" "absent" ⋯;have j6:=d "standing" "sheets" ⋯;have j7:=d "standing" "sheet" ⋯;unfold seaF;refine⟨?_,?_,?_,?_,?_,?_,?_,?_⟩<;>simp only[zxr,beq_self_eq_true,e1,e2,e3,f1,f2,f3,g1,g2,g3,g4,h1,h2,h3,h4,h5,i1,i2,i3,i4,i5,i6,j1,j2,j3,j4,j5,j6,j7]
theorem Dx:List.lookup ("length":Str) (seaF A l r v)=#[c,.int,l]:=(A4 A l r v).1
theorem zdj:List.lookup ("rest":Str) (seaF A l r v)=#[c,.int,r]:=(A4 A l r v).2.1
theorem Xq:List.lookup ("roster":Str) (seaF A l r v)=#[c,.ref,A.pr]:=(A4 A l r v).2.2.1
theorem Ue:List.lookup ("ledger":Str) (seaF A l r v)=#[c,.ref,A.pl]:=(A4 A l r v).2.2.2.1
theorem Rv:List.lookup ("absent":Str) (seaF A l r v)=#[c,.ref,A.da]:=(A4 A l r v).2.2.2.2.1
theorem Dy:List.lookup ("sheets":Str) (seaF A l r v)=#[c,.ref,A.ls]:=(A4 A l r v).2.2.2.2.2.1
theorem Wq:List.lookup ("sheet":Str) (seaF A l r v)=some v:=(A4 A l r v).2.2.2.2.2.2.1
theorem Si:List.lookup ("standing":Str) (seaF A l r v)=#[c,.ref,A.lt]:=(A4 A l r v).2.2.2.2.2.2.2
theorem Z6(h:(["length","rest","roster","ledger","absent","sheets","sheet","standing"]:List Str).all (fun x=>!#[j,m=x])=true):List.lookup m (seaF A l r v)=none:=by
 simp only[List.all_cons,List.all_nil,Bool.and_true,zx3,Bool.not_eq_true',decide_eq_false_iff_not] at h;obtain⟨h1,h2,h3,h4,h5,h6,h7,h8⟩:=h;have e:∀ x:Str,¬ m=x->(m == x)=false:=fun x z=>zxg.mpr z;unfold seaF;simp only[zxr,e _ h1,e _ h2,e _ h3,e _ h4,e _ h5,e _ h6,e _ h7,e _ h8,List.lookup_nil]
theorem Zw.same(h:#[K])(e:#[q]):Zw ca H' A S:=by
 obtain⟨⟨dx,v,a1,a2⟩,b,c,⟨kvs,d1,d2⟩,⟨vs,f1,f2⟩,⟨us,g1,g2⟩,nd,np⟩:=h;have k:∀ x o,x∉A.fp->H x=#[d]->H' x=#[d]:=fun _ _ _ q=>e _ _ q;have kt:#[am]:=fun _ _ q=>e _ _ q;exact⟨⟨dx,v,e _ _ a1,a2.keep k kt⟩,b.same e,c.same e,⟨kvs,e _ _ d1,d2⟩,⟨vs,e _ _ f1,f2.keep k kt⟩,⟨us,e _ _ g1,g2.keep k kt⟩,nd,np⟩
theorem FrS.of(A:SAd)(e:#[q]):FrS A H H':=fun b o q _=>e b o q
theorem FrS.trans(h1:FrS A H H')(h2:FrS A H' H2):FrS A H H2:=fun b o e n=>h2 b o (h1 b o e n) n
theorem Zw.there(h:#[K]):∀ x∈A.fp,∃ o,H x=#[d]:=by
 obtain⟨⟨dx,v,a1,_⟩,⟨⟨_,_,_,b2,_⟩,_⟩,⟨_,⟨rs,c2,_⟩,⟨ks,c3,_⟩⟩,⟨kvs,d1,_⟩,⟨vs,f1,_⟩,⟨us,g1,_⟩,nd,np⟩:=h;intro x hx;simp only[SAd.fp,zwu,zxm,or_false] at hx;rcases hx with rfl|rfl|rfl|rfl|rfl|rfl|rfl
 ·exact⟨_,a1⟩
 ·exact⟨_,b2⟩
 ·exact⟨_,c2⟩
 ·exact⟨_,c3⟩
 ·exact⟨_,d1⟩
 ·exact⟨_,f1⟩
 ·exact⟨_,g1⟩
theorem Zw.newOk(h:#[K]):zdf (·∉A.fp) H:=fun x hx hm=>by
 obtain⟨o,e⟩:=h.there x hm;rw[e] at hx;cases hx
theorem Zw.tups(h:#[K])(f:FrS A H H'):#[am]:=fun t xs e=>f t _ e fun hm=>by
 obtain⟨⟨dx,v,a1,_⟩,⟨⟨_,_,_,b2,_⟩,_⟩,⟨_,⟨rs,c2,_⟩,⟨ks,c3,_⟩⟩,⟨kvs,d1,_⟩,⟨vs,f1,_⟩,⟨us,g1,_⟩,nd,np⟩:=h;simp only[SAd.fp,zwu,zxm,or_false] at hm;rcases hm with rfl|rfl|rfl|rfl|rfl|rfl|rfl
 ·rw[a1] at e;cases e
 ·rw[b2] at e;cases e
 ·rw[c2] at e;cases e
 ·rw[c3] at e;cases e
 ·rw[d1] at e;cases e
 ·rw[f1] at e;cases e
 ·rw[g1] at e;cases e
end
def atV(S:Sea):Int:=(S.led.length:Int)+1
inductive Vv(ca:CA)(vs:#[a])(H:Hp)(Q:VK)(_:XK):Prop where
 | mk(A:SAd)(S:Sea)(_:vs=[.ref A.p])(_:#[K])(_:Q (.int (atV S)) H)
inductive Lw(ca:CA)(vs:#[a])(H:Hp)(Q:VK)(E:XK):Prop where
 | mk(A:SAd)(S:Sea)(_:vs=[.ref A.p])(_:#[K])(_:if S.len<=S.led.length then #[H,ca.seaOver] else Q .non H)
inductive Ly(ca:CA)(vs:#[a])(H:Hp)(Q:VK)(E:XK):Prop where
 | mk(A:SAd)(S:Sea)(_:vs=[.ref A.p])(_:#[K])(_:if S.len<=S.led.length then #[H,ca.seaOver] else if S.cur.isSome then #[H,ca.drawn] else Q .non H)
inductive Ij(ca:CA)(vs:#[a])(H:Hp)(Q:VK)(E:XK):Prop where
 | mk(A:SAd)(S:Sea)(at_:Int)(_:vs=[.ref A.p,.int at_])(_:#[K])(_:Z7 at_)(_:if at_<1\/(S.len:Int)<at_ then #[H,ca.noRound] else Q .non H)
inductive C0(ca:CA)(vs:#[a])(H:Hp)(Q:VK)(E:XK):Prop where
 | mk(A:SAd)(S:Sea)(_:vs=[.ref A.p])(_:#[K])(_:if 100<=S.std.length then #[H,ca.manyD] else Q .non H)
inductive C2(ca:CA)(vs:#[a])(H:Hp)(Q:VK)(_:XK):Prop where
 | mk(A:SAd)(S:Sea)(w:Str)(n at_:Int)(_:vs=[.ref A.p,.str w,.int n,.int at_])(_:#[K])(_:S.std.length<=1000)(_:∀ H',Zw ca H' A { S with std:=S.std++[((w,n,at_),S.cur)] }->FrS A H H'->Q .non H')
inductive Tt(ca:CA)(vs:#[a])(H:Hp)(Q:VK)(E:XK):Prop where
 | mk(A:SAd)(S:Sea)(_:vs=[.ref A.p])(_:#[K])(_:(S.cur=none->E (.ref ca.notDrawn) none H))(_:∀ s q,S.cur=some s->ShAt ca.sheet (·∉A.fp) H q s->Q (.ref q) H)
def Y7(S:Sea)(at_:Int):Option Z2:=if at_<=S.led.length then S.old[(at_-1).toNat]? else if (S.led.length:Int)+1<at_ then none else S.cur
inductive Ug(ca:CA)(vs:#[a])(H:Hp)(Q:VK)(E:XK):Prop where
 | mk(A:SAd)(S:Sea)(at_:Int)(_:vs=[.ref A.p,.int at_])(_:#[K])(_:Z7 at_)(_:S.old.length=S.led.length)(_:if at_<1\/(S.len:Int)<at_ then #[H,ca.noRound] else (Y7 S at_=none->#[H,ca.notDrawn])/\∀ s q,Y7 S at_=some s->ShAt ca.sheet (·∉A.fp) H q s->Q (.ref q) H)
def pIn(out:List (Int×Int))(at_:Int)(m:P3):Bool:=#[j,(at_,m.1)∈out]
def F5(S:Sea)(m:P3):#[p]:=(S.ppl.filter fun x=>(whyS S.led x.1 x.2.1 x.2.2 m.1 m.2.1 m.2.2 (pIn S.out (atV S) x) S.rest).isEmpty).map (·.1)
def mayS(S:Sea)(ms:List P3):#[E]:=ms.map (F5 S)
inductive Ni(ca:CA)(vs:#[a])(H:Hp)(Q:VK)(_:XK):Prop where
 | mk(A:SAd)(S:Sea)(l:Addr)(ts:#[a])(ms:List P3)(_:vs=[.ref A.p,.ref l])(_:#[K])(_:#[y,H,l,ts])(_:Yf H ts (ms.map pV))(_:ms.length<=100)(_:S.ppl.length<=100)(_:(∀ x∈S.ppl,Z7 x.1))(_:∀ l' ls H',H' l'=#[T,ls.map,V.ref]->ILs H' ls (mayS S ms)->#[q]->H l'=none->(∀ x∈ls,H x=none)->#[M,l'])
def badM(m:P3):Prop:=m.1<1\/99<m.1\/m.2.1<1\/99<m.2.1\/m.2.2<1\/9<m.2.2
def Qb(Ms:List P3):Prop:=∃ m∈Ms,badM m
def Qc(Ms:List P3):Prop:=∃ m∈Ms,m.1=m.2.1
def Hs(m:P3):Prop:=Z7 m.1/\Z7 m.2.1/\Z7 m.2.2
theorem Dz{p:P3->Prop}{Ms:List P3}{i:Nat}{m:P3}(e:Ms[i]?=some m)(h:∀ x∈Ms.take i,¬ p x)(hm:¬ p m):∀ x∈Ms.take (i+1),¬ p x:=fun x hx=>by
 rw[zx9,e] at hx;rcases zw2.mp hx with q|q
 ·exact h x q
 ·simp at q;subst q;exact hm
inductive A5(K:Frag)(ca:CA)(vs:#[a])(H:Hp)(Q:VK)(E:XK):Prop where
 | mk(b)(ts)(_:vs=[.ref b])(_:SqL K H b ts)(_:ts.length<=1000)(_:(20<ts.length->#[H,ca.manyM]))(_:(ts.length<=20->Q .non H))
inductive D1(K:Frag)(ca:CA)(vs:#[a])(H:Hp)(Q:VK)(E:XK):Prop where
 | mk(b:Addr)(ts:#[a])(Ms:List P3)(_:vs=[.ref b])(_:SqL K H b ts)(_:Yf H ts (Ms.map pV))(_:(∀ m∈Ms,Hs m))(_:(Qb Ms->#[H,ca.out]))(_:(¬ Qb Ms->Q .non H))
inductive A6(K:Frag)(ca:CA)(vs:#[a])(H:Hp)(Q:VK)(E:XK):Prop where
 | mk(b:Addr)(ts:#[a])(Ms:List P3)(_:vs=[.ref b])(_:SqL K H b ts)(_:Yf H ts (Ms.map pV))(_:(∀ m∈Ms,Hs m))(_:(Qc Ms->#[H,ca.same]))(_:(¬ Qc Ms->Q .non H))
inductive Hu(K:Frag)(ca:CA)(vs:#[a])(H:Hp)(Q:VK)(E:XK):Prop where
 | mk(b:Addr)(ts:#[a])(Ms:List P3)(_:vs=[.ref b])(_:SqL K H b ts)(_:Yf H ts (Ms.map pV))(_:(∀ m∈Ms,Hs m))(_:Ms.length<=1000)(_:(20<Ms.length->#[H,ca.manyM]))(_:(Ms.length<=20->Qb Ms->#[H,ca.out]))(_:(Ms.length<=20->¬ Qb Ms->Qc Ms->#[H,ca.same]))(_:(Ms.length<=20->¬ Qb Ms->¬ Qc Ms->∀ l,H l=none->Q (.ref l) (upd H l (.lst ts))))
theorem Pk.isSome(h:Pk kvs out)(i n:Int):(valV kvs [inl i,inl n]).isSome=#[j,(i,n)∈out]:=h.1 i n
theorem Hv{A:SAd}(nd:A.fp.Nodup):(A.p≠A.dr/\A.p≠A.lr/\A.p≠A.ld/\A.p≠A.da/\A.p≠A.ls/\A.p≠A.lt)/\(A.dr≠A.lr/\A.dr≠A.ld/\A.dr≠A.da/\A.dr≠A.ls/\A.dr≠A.lt)/\(A.lr≠A.ld/\A.lr≠A.da/\A.lr≠A.ls/\A.lr≠A.lt)/\(A.ld≠A.da/\A.ld≠A.ls/\A.ld≠A.lt)/\(A.da≠A.ls/\A.da≠A.lt)/\A.ls≠A.lt:=by
 simp only[SAd.fp,zxh,zwu,zxm,or_false,not_or] at nd;obtain⟨⟨n1,n2,n3,n4,n5,n6⟩,⟨n7,n8,n9,n10,n11⟩,⟨n12,n13,n14,n15⟩,⟨n16,n17,n18⟩,⟨n19,n20⟩,n21,_⟩:=nd;exact⟨⟨n1,n2,n3,n4,n5,n6⟩,⟨n7,n8,n9,n10,n11⟩,⟨n12,n13,n14,n15⟩,⟨n16,n17,n18⟩,⟨n19,n20⟩,n21⟩
theorem ziw{R:RL}(nd:(R.map (·.1)).Nodup){x y:P3}(hx:x∈R)(hy:y∈R)(h:x.1=y.1):x=y:=by
 induction R with
 | nil=>cases hx
 | cons z R ih =>
   rw[zw3,zxh] at nd;rcases zwu.mp hx with e|e<;>rcases zwu.mp hy with e'|e'
   ·rw[e,e']
   ·exact absurd (zw0.mpr ⟨y,e',by rw[<- h,e]⟩) nd.1
   ·exact absurd (zw0.mpr ⟨x,e,by rw[h,e']⟩) nd.1
   ·exact ih nd.2 e e'
def outV(S:Sea):#[a]:=(S.ppl.filter (pIn S.out (atV S))).map fun x=>V.int x.1
theorem zg7(S:Sea):∀ x∈outV S,oneV x:=fun x hx=>by
 unfold outV at hx;obtain⟨m,_,rfl⟩:=zw0.mp hx;exact .inr ⟨_,rfl⟩
theorem zix(hx:x∈S.ppl):inV (.int x.1) (outV S)=pIn S.out (atV S) x:=by
 unfold outV;rw[show ((S.ppl.filter (pIn S.out (atV S))).map fun x=>V.int x.1)=((S.ppl.filter (pIn S.out (atV S))).map (·.1)).map V.int by rw[zx1];rfl,Ig];unfold pIn;by_cases h:(atV S,x.1)∈S.out
 ·rw[zwy h,zwy];exact zw0.mpr ⟨x,zxu.mpr ⟨hx,zwy h⟩,rfl⟩
 ·rw[zw1 h,zw1];intro z;obtain⟨y,h1,h2⟩:=zw0.mp z;have:=of_decide_eq_true (zxu.mp h1).2;rw[h2] at this;exact h this
theorem zk2(S:Sea)(m:P3):((S.ppl.filter (Ph S.led m.1 m.2.1 m.2.2 (outV S) S.rest)).map fun x=>V.int x.1)=(F5 S m).map V.int:=by
 unfold F5;rw[zx1];have:S.ppl.filter (Ph S.led m.1 m.2.1 m.2.2 (outV S) S.rest)=S.ppl.filter fun x=>(whyS S.led x.1 x.2.1 x.2.2 m.1 m.2.1 m.2.2 (pIn S.out (atV S) x) S.rest).isEmpty:=by
  refine List.filter_congr fun x hx=>?_;unfold Ph;rw[zix hx]
 rw[this];rfl
theorem atI_last:atI (xs++[x]) (-1)=some x:=by
 have hl:(xs++[x]).length=xs.length+1:=by rw[zwt];rfl
 unfold atI ixN;rw[if_neg ⋯,if_pos ⋯];show (xs++[x])[((-1:Int)+(xs++[x]).length).toNat]?=_;rw[show ((-1:Int)+(xs++[x]).length).toNat=xs.length by omega,zxx (zwz _),Nat.sub_self];rfl
theorem Wl.unsnoc{ok:Addr->Prop}{H:Hp}{n:Int}{st:#[J]}:∀ {vs:List V} {G:List (Int×List (Nat×Option Int))},Wl ok H vs (G++[(n,st)])->∃ vs' t l us,vs=vs'++[.ref t]/\H t=#[A,[.int n,.ref l]]/\H l=#[w,us]/\Yf H us (st.map V7)/\ok l:=fun {vs G}=>by
 induction G generalizing vs with
 | nil=>
  intro q;have q:Wl ok H vs [(n,st)]:=q;cases q with
  | cons h hl tl o r=>cases r;exact⟨[],_,_,_,rfl,h,hl,tl,o⟩
 | cons x G ih=>
  intro q;have q:Wl ok H vs (x :: (G++[(n,st)])):=q;cases q with
  | cons h hl tl o r=>obtain⟨vs',t,l,us,e,a⟩:=ih r;exact⟨_ :: vs',t,l,us,by rw[e];rfl,a⟩
def Pm(S:Sea):Prop:=(∀ x∈S.ppl,¬ badI x.1 x.2.1 x.2.2)/\S.ppl.length<=30
theorem Pm.small(h:Pm S):∀ x∈S.ppl,Z7 x.1:=fun x hx=>by
 have:=h.1 x hx;unfold badI at this;exact Z5 ⋯ ⋯
theorem Pm.may(h:Pm S)(nd:(S.ppl.map (·.1)).Nodup)(hm:ms.length<=20):Pj (mayS S ms) (S.ppl.map (·.1)):=by
 refine⟨by unfold mayS;rw[zwq];exact hm,by rw[zwq];exact h.2,nd,fun n hn=>?_,fun r hr=>?_⟩
 ·obtain⟨x,hx,rfl⟩:=zw0.mp hn;have:=h.1 x hx;unfold badI at this;omega
 ·unfold mayS at hr;obtain⟨m,_,rfl⟩:=zw0.mp hr;unfold F5;exact⟨nd.sublist (List.Sublist.map _ List.filter_sublist),fun n hn=>by
   obtain⟨x,hx,rfl⟩:=zw0.mp hn;exact zw0.mpr ⟨x,(zxu.mp hx).1,rfl⟩⟩
section
variable{ca:CA}{H H':Hp}{A:SAd}{S:Sea}
theorem K1(h:#[K])(hx:x∈A.fp):A.pr≠x/\A.pl≠x:=⟨fun z=>h.np.1 (by rw[z];exact hx),fun z=>h.np.2 (by rw[z];exact hx)⟩
theorem FrS.one(hx:x∈A.fp)(k:∀ b o,H b=#[d]->b≠x->H' b=#[d]):FrS A H H':=fun b o e hb=>k b o e fun z=>hb (by rw[z];exact hx)
theorem Zw.setRos(h:#[K])(r:Y8 ca.roster H' A.pr A.dr R)(k:∀ b o,H b=#[d]->b≠A.dr->H' b=#[d]):Zw ca H' A { S with ppl:=R }/\FrS A H H':=by
 have f:FrS A H H':=.one (by simp[SAd.fp]) k;have kt:=h.tups f;have ko:∀ x o,x∉A.fp->H x=#[d]->H' x=#[d]:=fun x o hx e=>f x o e hx;obtain⟨⟨n1,n2,n3,n4,n5,n6⟩,⟨n7,n8,n9,n10,n11⟩,⟨n12,n13,n14,n15⟩,⟨n16,n17,n18⟩,⟨n19,n20⟩,n21⟩:=Hv h.nd;have np:=K1 h (show A.dr∈A.fp by simp[SAd.fp]);obtain⟨⟨dx,v,a1,a2⟩,b,c,⟨kvs,d1,d2⟩,⟨vs,f1,f2⟩,⟨us,g1,g2⟩,nd,np'⟩:=h;exact⟨⟨⟨dx,v,k _ _ a1 n1,a2.keep ko kt⟩,r,c.keep (fun o e=>k _ o e np.2) (fun o e=>k _ o e (Ne.symm n7)) (fun o e=>k _ o e (Ne.symm n8)) kt,⟨kvs,k _ _ d1 (Ne.symm n9),d2⟩,⟨vs,k _ _ f1 (Ne.symm n10),f2.keep ko kt⟩,⟨us,k _ _ g1 (Ne.symm n11),g2.keep ko kt⟩,nd,np'⟩,f⟩
theorem Zw.setOut{out:List (Int×Int)}{kvs:List (List Key×V)}(h:#[K])(hd:H' A.da=#[c,.dT,kvs])(ok:Pk kvs out)(k:∀ b o,H b=#[d]->b≠A.da->H' b=#[d]):Zw ca H' A { S with out:=out }/\FrS A H H':=by
 have f:FrS A H H':=.one (by simp[SAd.fp]) k;have kt:=h.tups f;have ko:∀ x o,x∉A.fp->H x=#[d]->H' x=#[d]:=fun x o hx e=>f x o e hx;obtain⟨⟨n1,n2,n3,n4,n5,n6⟩,⟨n7,n8,n9,n10,n11⟩,⟨n12,n13,n14,n15⟩,⟨n16,n17,n18⟩,⟨n19,n20⟩,n21⟩:=Hv h.nd;have np:=K1 h (show A.da∈A.fp by simp[SAd.fp]);obtain⟨⟨dx,v,a1,a2⟩,b,c,⟨kvs',d1,d2⟩,⟨vs,f1,f2⟩,⟨us,g1,g2⟩,nd,np'⟩:=h;exact⟨⟨⟨dx,v,k _ _ a1 n4,a2.keep ko kt⟩,b.keep (fun o e=>k _ o e np.1) (fun o e=>k _ o e n9) kt,c.keep (fun o e=>k _ o e np.2) (fun o e=>k _ o e n13) (fun o e=>k _ o e n16) kt,⟨kvs,hd,ok⟩,⟨vs,k _ _ f1 (Ne.symm n19),f2.keep ko kt⟩,⟨us,k _ _ g1 (Ne.symm n20),g2.keep ko kt⟩,nd,np'⟩,f⟩
theorem Zw.setCur(h:#[K])(hp:∃ dx,H' A.p=some (.ins ca.season dx (seaF A S.len S.rest v)))(sh:ShO ca.sheet (·∉A.fp) H' v cur)(k:∀ b o,H b=#[d]->b≠A.p->H' b=#[d]):Zw ca H' A { S with cur:=cur }/\FrS A H H':=by
 have f:FrS A H H':=.one (by simp[SAd.fp]) k;have kt:=h.tups f;have ko:∀ x o,x∉A.fp->H x=#[d]->H' x=#[d]:=fun x o hx e=>f x o e hx;obtain⟨⟨n1,n2,n3,n4,n5,n6⟩,⟨n7,n8,n9,n10,n11⟩,⟨n12,n13,n14,n15⟩,⟨n16,n17,n18⟩,⟨n19,n20⟩,n21⟩:=Hv h.nd;have np:=K1 h (show A.p∈A.fp by simp[SAd.fp]);obtain⟨⟨dx,v',a1,a2⟩,b,c,⟨kvs',d1,d2⟩,⟨vs,f1,f2⟩,⟨us,g1,g2⟩,nd,np'⟩:=h;obtain⟨dx',hp⟩:=hp;exact⟨⟨⟨dx',v,hp,sh⟩,b.keep (fun o e=>k _ o e np.1) (fun o e=>k _ o e (Ne.symm n1)) kt,c.keep (fun o e=>k _ o e np.2) (fun o e=>k _ o e (Ne.symm n2)) (fun o e=>k _ o e (Ne.symm n3)) kt,⟨kvs',k _ _ d1 (Ne.symm n4),d2⟩,⟨vs,k _ _ f1 (Ne.symm n5),f2.keep ko kt⟩,⟨us,k _ _ g1 (Ne.symm n6),g2.keep ko kt⟩,nd,np'⟩,f⟩
theorem Zw.setStd{std:List (Ru×Option Z2)}{us:#[a]}(h:#[K])(hd:#[y,H',A.lt,us])(ok:U2 ca.sheet (·∉A.fp) H' us std)(k:∀ b o,H b=#[d]->b≠A.lt->H' b=#[d]):Zw ca H' A { S with std:=std }/\FrS A H H':=by
 have f:FrS A H H':=.one (by simp[SAd.fp]) k;have kt:=h.tups f;have ko:∀ x o,x∉A.fp->H x=#[d]->H' x=#[d]:=fun x o hx e=>f x o e hx;obtain⟨⟨n1,n2,n3,n4,n5,n6⟩,⟨n7,n8,n9,n10,n11⟩,⟨n12,n13,n14,n15⟩,⟨n16,n17,n18⟩,⟨n19,n20⟩,n21⟩:=Hv h.nd;have np:=K1 h (show A.lt∈A.fp by simp[SAd.fp]);obtain⟨⟨dx,v,a1,a2⟩,b,c,⟨kvs,d1,d2⟩,⟨vs,f1,f2⟩,⟨us',g1,g2⟩,nd,np'⟩:=h;exact⟨⟨⟨dx,v,k _ _ a1 n6,a2.keep ko kt⟩,b.keep (fun o e=>k _ o e np.1) (fun o e=>k _ o e n11) kt,c.keep (fun o e=>k _ o e np.2) (fun o e=>k _ o e n15) (fun o e=>k _ o e n18) kt,⟨kvs,k _ _ d1 n20,d2⟩,⟨vs,k _ _ f1 n21,f2.keep ko kt⟩,⟨us,hd,ok⟩,nd,np'⟩,f⟩
theorem Zw.setOld{old:List Z2}{us:#[a]}(h:#[K])(hd:#[y,H',A.ls,us])(ok:ShL ca.sheet (·∉A.fp) H' us old)(k:∀ b o,H b=#[d]->b≠A.ls->H' b=#[d]):Zw ca H' A { S with old:=old }/\FrS A H H':=by
 have f:FrS A H H':=.one (by simp[SAd.fp]) k;have kt:=h.tups f;have ko:∀ x o,x∉A.fp->H x=#[d]->H' x=#[d]:=fun x o hx e=>f x o e hx;obtain⟨⟨n1,n2,n3,n4,n5,n6⟩,⟨n7,n8,n9,n10,n11⟩,⟨n12,n13,n14,n15⟩,⟨n16,n17,n18⟩,⟨n19,n20⟩,n21⟩:=Hv h.nd;have np:=K1 h (show A.ls∈A.fp by simp[SAd.fp]);obtain⟨⟨dx,v,a1,a2⟩,b,c,⟨kvs,d1,d2⟩,⟨vs,f1,f2⟩,⟨us',g1,g2⟩,nd,np'⟩:=h;exact⟨⟨⟨dx,v,k _ _ a1 n5,a2.keep ko kt⟩,b.keep (fun o e=>k _ o e np.1) (fun o e=>k _ o e n10) kt,c.keep (fun o e=>k _ o e np.2) (fun o e=>k _ o e n14) (fun o e=>k _ o e n17) kt,⟨kvs,k _ _ d1 n19,d2⟩,⟨us,hd,ok⟩,⟨us',k _ _ g1 (Ne.symm n21),g2.keep ko kt⟩,nd,np'⟩,f⟩
theorem Zw.setLed(h:#[K])(l:Uz ca.ledger H' A.pl A.lr A.ld Rs)(k:∀ b o,H b=#[d]->b≠A.lr->b≠A.ld->H' b=#[d]):Zw ca H' A { S with led:=Rs }/\FrS A H H':=by
 have f:FrS A H H':=fun b o e hb=>k b o e #[au,hb] #[au,hb];have kt:=h.tups f;have ko:∀ x o,x∉A.fp->H x=#[d]->H' x=#[d]:=fun x o hx e=>f x o e hx;obtain⟨⟨n1,n2,n3,n4,n5,n6⟩,⟨n7,n8,n9,n10,n11⟩,⟨n12,n13,n14,n15⟩,⟨n16,n17,n18⟩,⟨n19,n20⟩,n21⟩:=Hv h.nd;have np:=K1 h (show A.lr∈A.fp by simp[SAd.fp]);have np2:=K1 h (show A.ld∈A.fp by simp[SAd.fp]);obtain⟨⟨dx,v,a1,a2⟩,b,c,⟨kvs,d1,d2⟩,⟨vs,f1,f2⟩,⟨us',g1,g2⟩,nd,np'⟩:=h;exact⟨⟨⟨dx,v,k _ _ a1 n2 n3,a2.keep ko kt⟩,b.keep (fun o e=>k _ o e np.1 np2.1) (fun o e=>k _ o e n7 n8) kt,l,⟨kvs,k _ _ d1 (Ne.symm n13) (Ne.symm n16),d2⟩,⟨vs,k _ _ f1 (Ne.symm n14) (Ne.symm n17),f2.keep ko kt⟩,⟨us',k _ _ g1 (Ne.symm n15) (Ne.symm n18),g2.keep ko kt⟩,nd,np'⟩,f⟩
theorem Nj:putF "sheet" v' (seaF A l r v)=seaF A l r v':=by
 have n1:¬ (("length":Str)="sheet"):=by decide +kernel
 have n2:¬ (("rest":Str)="sheet"):=by decide +kernel
 have n3:¬ (("roster":Str)="sheet"):=by decide +kernel
 have n4:¬ (("ledger":Str)="sheet"):=by decide +kernel
 have n5:¬ (("absent":Str)="sheet"):=by decide +kernel
 have n6:¬ (("sheets":Str)="sheet"):=by decide +kernel
 simp only[putF,seaF,#[g,n1],#[g,n2],#[g,n3],#[g,n4],#[g,n5],#[g,n6],if_true]
theorem FrS.free(f:FrS A H H')(h:Zw ca H' A S')(hl:H' l=none):H l=none:=by
 cases e:H l with
 | none=>rfl
 | some o =>
   by_cases hm:l∈A.fp
   ·obtain⟨o',e'⟩:=h.there l hm;rw[e'] at hl;cases hl
   ·rw[f l o e hm] at hl;cases hl
theorem ShAt.ins(h:ShAt ca.sheet (·∉A.fp) H q s):∃ dx l1 l2 l3 l4,H q=some (.ins ca.sheet dx (shF l1 l2 l3 l4)):=by
 obtain⟨dx,l1,l2,l3,l4,_,_,_,a1,_⟩:=h;exact⟨dx,l1,l2,l3,l4,a1⟩
theorem Zw.newSheet(h:#[K])(hp:H A.p=some (.ins ca.season dx (seaF A S.len S.rest v)))(sh:ShAt ca.sheet (·∉A.fp) H q s) :
  Zw ca (upd H A.p (.ins ca.season dx (putF "sheet" (.ref q) (seaF A S.len S.rest v)))) A { S with cur:=some s }/\FrS A H (upd H A.p (.ins ca.season dx (putF "sheet" (.ref q) (seaF A S.len S.rest v))))/\ShAt ca.sheet (·∉A.fp) (upd H A.p (.ins ca.season dx (putF "sheet" (.ref q) (seaF A S.len S.rest v)))) q s:=by
 have k:∀ b o,H b=#[d]->b≠A.p->upd H A.p (.ins ca.season dx (putF "sheet" (.ref q) (seaF A S.len S.rest v))) b=#[d]:=fun b o e n=>by rw[Zi n];exact e
 have sh':=sh.keep (H':=upd H A.p (.ins ca.season dx (putF "sheet" (.ref q) (seaF A S.len S.rest v)))) (fun x o hx e=>k x o e #[au,hx]) fun t xs e=>k t _ e (Yz e hp (fun z=>nomatch z));obtain⟨h1,h2⟩:=h.setCur (cur:=some s) (v:=.ref q) ⟨dx,by rw[Zc];exact congrArg (fun x=>some (HO.ins ca.season dx x)) Nj⟩ #[t,q,sh'] k;exact⟨h1,h2,sh'⟩
theorem F6:putF "standing" (.ref x) (seaF A l r v)=seaF { A with lt:=x } l r v:=by
 have n1:¬ (("length":Str)="standing"):=by decide +kernel
 have n2:¬ (("rest":Str)="standing"):=by decide +kernel
 have n3:¬ (("roster":Str)="standing"):=by decide +kernel
 have n4:¬ (("ledger":Str)="standing"):=by decide +kernel
 have n5:¬ (("absent":Str)="standing"):=by decide +kernel
 have n6:¬ (("sheets":Str)="standing"):=by decide +kernel
 have n7:¬ (("sheet":Str)="standing"):=by decide +kernel
 simp only[putF,seaF,#[g,n1],#[g,n2],#[g,n3],#[g,n4],#[g,n5],#[g,n6],#[g,n7],if_true]
end
def zg8(r q:Nat):Sea:=⟨r,q,[],[],[],[],none,[]⟩
inductive zdk(ca:CA)(vs:#[a])(H:Hp)(Q:VK)(E:XK):Prop where
 | mk(p dx:Addr)(r q:Int)(_:vs=#[S,.ref p,r,q])(_:H p=some (.ins ca.season dx []))(_:Z7 r)(_:Z7 q)(_:if r<0\/60<r then #[H,ca.out] else if q<0\/10<q then #[H,ca.out] else ∀ A H',A.p=p->Zw ca H' A (zg8 r.toNat q.toNat)->(∀ b o,H b=some o->b≠p->H' b=some o)->(∀ x∈A.fp,x≠p->H x=none)->Q .non H')
inductive zdl(ca:CA)(vs:#[a])(H:Hp)(Q:VK)(E:XK):Prop where
 | mk(A:SAd)(S:Sea)(n g c:Int)(_:vs=[.ref A.p,.int n,.int g,.int c])(_:#[K])(_:Cy n g c)(_:S.std.length<=1000)(_:S.ppl.length<=1000)(_:if S.len<=S.led.length then #[H,ca.seaOver] else if S.cur.isSome then #[H,ca.drawn] else if badI n g c then #[H,ca.out] else if n∈S.ppl.map (·.1) then #[H,ca.known] else if 30<=S.ppl.length then #[H,ca.many] else if 100<=S.std.length then #[H,ca.manyD] else ∀ H',Zw ca H' A { S with ppl:=S.ppl++[(n,g,c)],std:=S.std++[(((("enrol":Str),n,atV S):Ru),S.cur)] }->FrS A H H'->Q .non H')
def zg9(S:Sea)(ms:List P3)(gv:#[a]):Sea:={ S with cur:=some ⟨ms,mayS S ms,gv,[]⟩,std:=S.std++[(((("draw up":Str),(ms.length:Int),atV S):Ru),S.cur)] }
inductive A7(K:Frag)(ca:CA)(vs:#[a])(H:Hp)(Q:VK)(E:XK):Prop where
 | mk(A:SAd)(S:Sea)(b:Addr)(ts:#[a])(ms:List P3)(_:vs=[.ref A.p,.ref b])(_:#[K])(_:SqL K H b ts)(_:Yf H ts (ms.map pV))(_:(∀ m∈ms,Hs m))(_:ms.length<=1000)(_:S.std.length<=1000)(_:Pm S)(_:if S.len<=S.led.length then #[H,ca.seaOver] else if S.cur.isSome then #[H,ca.drawn] else (20<ms.length->#[H,ca.manyM])/\(ms.length<=20->Qb ms->#[H,ca.out])/\(ms.length<=20->¬ Qb ms->Qc ms->#[H,ca.same])/\(ms.length<=20->¬ Qb ms->¬ Qc ms->(100<=S.std.length->∀ H',Same H H'->E (.ref ca.manyD) none H')/\(S.std.length<100->∀ l gv H',H' l=some (.lst gv)->Zw ca H' A (zg9 S ms gv)->Yu (mayS S ms) gv->Vs (mayS S ms) gv->FrS A H H'->H l=none->Q (.ref l) H')))
inductive A8(ca:CA)(vs:#[a])(H:Hp)(Q:VK)(_:XK):Prop where
 | mk(A:SAd)(S:Sea)(n:Int)(s:Z2)(nu:#[p])(_:vs=[.ref A.p,.int n])(_:#[K])(_:S.cur=some s)(_:Pm S)(_:s.ms.length<=20)(_:(∀ x∈s.gv,oneV x))(_:s.gv.length<=100)(_:s.gaps.length<=500)(_:Pj (mayS S s.ms) nu)(_:(Wk s.gv n=none->∀ l H',H' l=#[w,[]]->Zw ca H' A { S with cur:=some { s with may:=mayS S s.ms } }->FrS A H H'->H l=none->#[M,l]))(_:∀ p,Wk s.gv n=some p->s.gv[p]?=#[f,n]/\(∀ j:Nat,s.gv[j]?=some (.int n)->j=p)/\Yu (mayS S s.ms) (s.gv.set p .non)/\∀ l us st e w H',H' l=#[w,us]->Yf H' us (st.map V7)->Xk (mayS S s.ms) (s.gv.set p .non) p st e w->Zw ca H' A { S with cur:=some ⟨s.ms,mayS S s.ms,Yx st (s.gv.set p .non),s.gaps++[(n,st)]⟩ }->FrS A H H'->H l=none->#[M,l])
def Xt(S:Sea)(i n:Int):Sea:={ S with out:=S.out++[(i,n)],std:=S.std++[((("away":Str),n,i),S.cur)] }
inductive zha(ca:CA)(vs:#[a])(H:Hp)(Q:VK)(E:XK):Prop where
 | mk(A:SAd)(S:Sea)(i n:Int)(_:vs=#[S,.ref A.p,i,n])(_:#[K])(_:Z7 i)(_:Z7 n)(_:S.std.length<=1000)(_:S.out.length<=100000)(_:Pm S)(_:(∀ s,S.cur=some s->s.ms.length<=20/\Yu s.may s.gv/\s.may=mayS S s.ms/\s.gaps.length<=500))(_:if i<1\/(S.len:Int)<i then #[H,ca.noRound] else if i<=S.led.length then #[H,ca.over] else if n∈S.ppl.map (·.1) then (if (i,n)∈S.out then ∀ H',Same H H'->E (.ref ca.away) none H' else if 100<=S.std.length then ∀ H',Same H H'->E (.ref ca.manyD) none H' else (S.cur=none\/atV S<i->∀ l H',H' l=some (.lst [])->Zw ca H' A (Xt S i n)->FrS A H H'->H l=none->Q (.ref l) H')/\(∀ s,i=atV S->S.cur=some s->Wk s.gv n=none->∀ l H',H' l=some (.lst [])->Zw ca H' A { Xt S i n with cur:=some { s with may:=mayS (Xt S i n) s.ms } }->FrS A H H'->H l=none->Q (.ref l) H')/\(∀ s p,i=atV S->S.cur=some s->Wk s.gv n=some p->∀ l us st e w H',H' l=some (.lst us)->Yf H' us (st.map V7)->Xk (mayS (Xt S i n) s.ms) (s.gv.set p .non) p st e w->Zw ca H' A { Xt S i n with cur:=some ⟨s.ms,mayS (Xt S i n) s.ms,Yx st (s.gv.set p .non),s.gaps++[(n,st)]⟩ }->FrS A H H'->H l=none->Q (.ref l) H')) else #[H,ca.unk])
theorem Pk.put(h:Pk kvs out)(i n:Int):Pk (putK kvs [inl i,inl n] (.bl true)) (out++[(i,n)]):=by
 refine⟨fun j m=>?_,?_⟩
 ·rw[Uy];by_cases e:j=i/\m=n
  ·rw[if_pos (Of.mpr e),zwy (by rw[e.1,e.2];simp)];rfl
  ·rw[#[g,fun z=>e (Of.mp z)],h.1 j m];by_cases hm:(j,m)∈out
   ·rw[zwy hm,zwy (zxf _ hm)]
   ·rw[zw1 hm,zw1];intro z;rcases zw2.mp z with q|q
    ·exact hm q
    ·have:=zwv.mp q;exact e (by cases this;exact⟨rfl,rfl⟩)
 ·have:=Xs kvs ([inl i,inl n]:List Key) (.bl true);have:=h.2;rw[zwt];show _<=out.length+1;omega
theorem Pk.drop(h:Pk kvs (out++[(i,n)]))(hn:(i,n)∉out):Pk (X4 kvs [inl i,inl n]) out:=by
 have hv:∀ k:List Key,valV (X4 kvs [inl i,inl n]) k=if k=[inl i,inl n] then none else valV kvs k:=fun k=>by
  clear h
  induction kvs with
  | nil=>unfold X4;simp[valV]
  | cons x kvs ih =>
    by_cases ex:x.1=[inl i,inl n]
    ·rw[zea ex,ih];by_cases e:k=[inl i,inl n]
     ·rw[#[l,e],#[l,e]]
     ·rw[#[g,e],#[g,e],Xa fun z=>e (z.symm.trans ex)]
    ·rw[zeb ex];by_cases ek:x.1=k
     ·rw[Xe ek,Xe ek,#[g,fun z=>ex (ek.trans z)]]
     ·rw[Xa ek,Xa ek,ih]
 refine⟨fun j m=>?_,?_⟩
 ·rw[hv];by_cases e:j=i/\m=n
  ·rw[if_pos (Of.mpr e),zw1 (by rw[e.1,e.2];exact hn)];rfl
  ·rw[#[g,fun z=>e (Of.mp z)],h.1 j m];by_cases hm:(j,m)∈out
   ·rw[zwy hm,zwy (zxf _ hm)]
   ·rw[zw1 hm,zw1];intro z;rcases zw2.mp z with q|q
    ·exact hm q
    ·have:=zwv.mp q;exact e (by cases this;exact⟨rfl,rfl⟩)
 ·have h1:=h.1 i n;rw[zwy (show (i,n)∈out++[(i,n)] by simp)] at h1;have h2:=h.2;rw[zwt] at h2;have h2:kvs.length<=out.length+1:=h2;have h3:(X4 kvs [inl i,inl n]).length<kvs.length:=by
   unfold X4;rw[List.length_filter_lt_length_iff_exists];obtain⟨v,hv'⟩:=zxv.mp h1;unfold valV at hv';obtain⟨x,hx,_⟩:=zyo.mp hv';refine⟨x,List.mem_of_find?_eq_some hx,?_⟩;have:=List.find?_some hx;intro z;exact of_decide_eq_true z (of_decide_eq_true this)
  omega
theorem Nk(h:Wk gv n=some p):gv[p]?=#[f,n]:=by
 unfold Wk at h;have h2:#[j,gv[p]?=#[c,V.int,n]]=true:=List.find?_some (p:=fun i=>decide (gv[i]?=some (V.int n))) h;exact of_decide_eq_true h2
theorem Tu:mayS (Xt S (atV S) n) ms=without (mayS S ms) n:=by
 unfold mayS without;rw[zx1];refine zya fun m _=>?_;show F5 (Xt S (atV S) n) m=(F5 S m).filter fun x=>#[j,x≠n];unfold F5;rw[List.filter_map,List.filter_filter]
 congr 1
 refine List.filter_congr fun x _=>?_;show (whyS S.led x.1 x.2.1 x.2.2 m.1 m.2.1 m.2.2 (pIn (S.out++[(atV S,n)]) (atV S) x) S.rest).isEmpty=(#[j,x.1≠n]&&(whyS S.led x.1 x.2.1 x.2.2 m.1 m.2.1 m.2.2 (pIn S.out (atV S) x) S.rest).isEmpty);unfold pIn;by_cases e:x.1=n
 ·have h1:#[j,(atV S,x.1)∈S.out++[(atV S,n)]]=true:=zwy (by rw[e];simp);rw[h1,zw1 fun z=>z e,Bool.false_and];unfold whyS bw;simp
 ·have h1:#[j,(atV S,x.1)∈S.out++[(atV S,n)]]=#[j,(atV S,x.1)∈S.out]:=by
   by_cases hm:(atV S,x.1)∈S.out
   ·rw[zwy hm,zwy (zxf _ hm)]
   ·rw[zw1 hm,zw1];intro z;rcases zw2.mp z with q|q
    ·exact hm q
    ·have:=zwv.mp q;cases this;exact e rfl
  rw[h1,zwy e,Bool.true_and]
def C3(S:Sea)(s:Z2):Sea:={ S with led:=S.led++[Yj s],old:=S.old++[s],cur:=none,std:=[] }
inductive zdm(ca:CA)(vs:#[a])(H:Hp)(Q:VK)(E:XK):Prop where
 | mk(A:SAd)(S:Sea)(_:vs=[.ref A.p])(_:#[K])(_:2*(tot S.led+1000)<=100000)(_:S.led.length<=1000)(_:S.old.length<=1000)(_:(∀ s,S.cur=some s->(∀ x∈s.gv,oneV x)/\s.gv.length=s.ms.length/\s.ms.length<=1000))(_:if S.len<=S.led.length then #[H,ca.seaOver] else (S.cur=none->E (.ref ca.notDrawn) none H)/\∀ s x H',S.cur=some s->Zw ca H' { A with lt:=x } (C3 S s)->FrS A H H'->H x=none->Q (.int (atV S)) H')
theorem Zw.freshStd(h:#[K])(hx:H x=none)(hp:H A.p=some (.ins ca.season dx (seaF A S.len S.rest v)))(hv:ShO ca.sheet (·∉A.fp) H v S.cur)
  (e:H'=upd (upd H x (.lst [])) A.p (.ins ca.season dx (putF "standing" (.ref x) (seaF A S.len S.rest v)))):Zw ca H' { A with lt:=x } { S with std:=[] }/\FrS A H H':=by
 have hpx:A.p≠x:=Zh hp hx;have k:∀ b o,H b=#[d]->b≠A.p->H' b=#[d]:=fun b o q n=>by rw[e,Zi n,Zi (Zh q hx)];exact q
 have f:FrS A H H':=.one (by simp[SAd.fp]) k;have kt:=h.tups f;have hnx:∀ y,(∃ o,H y=some o)->y≠x:=fun y ⟨o,q⟩=>Zh q hx;have okk:∀ y,(∃ o,H' y=some o)->y∉A.fp->(∃ o,H y=some o)->y∉({ A with lt:=x }:SAd).fp:=fun y _ hy hH hm=>by
  simp only[SAd.fp,zwu,zxm,or_false] at hm hy;rcases hm with q|q|q|q|q|q|q
  ·exact hy (.inl q)
  ·exact hy (.inr (.inl q))
  ·exact hy (.inr (.inr (.inl q)))
  ·exact hy (.inr (.inr (.inr (.inl q))))
  ·exact hy (.inr (.inr (.inr (.inr (.inl q)))))
  ·exact hy (.inr (.inr (.inr (.inr (.inr (.inl q))))))
  ·exact hnx y hH q
 have ok2:∀ y,(∃ o,H y=some o)->y∉A.fp->y∉({ A with lt:=x }:SAd).fp:=fun y hH hy hm=>by
  simp only[SAd.fp,zwu,zxm,or_false] at hm hy;rcases hm with q|q|q|q|q|q|q
  ·exact hy (.inl q)
  ·exact hy (.inr (.inl q))
  ·exact hy (.inr (.inr (.inl q)))
  ·exact hy (.inr (.inr (.inr (.inl q))))
  ·exact hy (.inr (.inr (.inr (.inr (.inl q)))))
  ·exact hy (.inr (.inr (.inr (.inr (.inr (.inl q))))))
  ·exact hnx y hH q
 have ko:∀ y o,y∉({ A with lt:=x }:SAd).fp->H y=#[d]->H' y=#[d]:=fun y o hy q=>k y o q #[au,hy];have there:=h.there;obtain⟨⟨n1,n2,n3,n4,n5,n6⟩,⟨n7,n8,n9,n10,n11⟩,⟨n12,n13,n14,n15⟩,⟨n16,n17,n18⟩,⟨n19,n20⟩,n21⟩:=Hv h.nd;have np:=K1 h (show A.p∈A.fp by simp[SAd.fp]);have npp:=h.np;obtain⟨⟨dx',v',a1,a2⟩,b,c,⟨kvs',d1,d2⟩,⟨vs,f1,f2⟩,⟨us,g1,g2⟩,nd,np'⟩:=h;have hpr:∃ o,H A.pr=#[d]:=by obtain⟨⟨_,_,q,_⟩,_⟩:=b;exact⟨_,q⟩
 have hpl:∃ o,H A.pl=#[d]:=by obtain⟨⟨_,q⟩,_⟩:=c;exact⟨_,q⟩
 refine⟨⟨⟨dx,v,?_,(hv.imp ok2).keep ko kt⟩,b.keep (fun o q=>k _ o q np.1) (fun o q=>k _ o q (Ne.symm n1)) kt,c.keep (fun o q=>k _ o q np.2) (fun o q=>k _ o q (Ne.symm n2)) (fun o q=>k _ o q (Ne.symm n3)) kt,⟨kvs',k _ _ d1 (Ne.symm n4),d2⟩,⟨vs,k _ _ f1 (Ne.symm n5),(f2.imp ok2).keep ko kt⟩,⟨[],?_,?_⟩,?_,⟨ok2 _ hpr npp.1,ok2 _ hpl npp.2⟩⟩,f⟩
 ·rw[e,Zc];exact congrArg (fun z=>some (HO.ins ca.season dx z)) F6
 ·show #[y,H',x,[]];rw[e,Zi (Ne.symm hpx),Zc]
 ·exact .nil
 ·show [A.p,A.dr,A.lr,A.ld,A.da,A.ls,x].Nodup;have m:∀ y∈A.fp,y≠x:=fun y hy=>hnx y (there y hy);simp only[zxh,zwu,zxm,or_false,not_or];exact⟨⟨n1,n2,n3,n4,n5,m _ (by simp[SAd.fp])⟩,⟨n7,n8,n9,n10,m _ (by simp[SAd.fp])⟩,⟨n12,n13,n14,m _ (by simp[SAd.fp])⟩,⟨n16,n17,m _ (by simp[SAd.fp])⟩,⟨n19,m _ (by simp[SAd.fp])⟩,m _ (by simp[SAd.fp]),by simp,zyn⟩
def zhb(S:Sea)(d:Ru)(ppl:RL)(out:List (Int×Int)):Prop:=(d.1="enrol"/\(∃ g c,S.ppl=ppl++[(d.2.1,g,c)])/\out=S.out)\/(d.1="away"/\ppl=S.ppl/\S.out=out++[(d.2.2,d.2.1)]/\(d.2.2,d.2.1)∉out)\/(d.1="draw up"/\ppl=S.ppl/\out=S.out)
inductive Hw(ca:CA)(vs:#[a])(H:Hp)(Q:VK)(E:XK):Prop where
 | mk(A:SAd)(S:Sea)(_:vs=[.ref A.p])(_:#[K])(_:(S.std=[]->#[H,ca.nothing]))(_:∀ std d s,S.std=std++[(d,s)]->∃ ppl out,zhb S d ppl out/\∀ t H',H' t=some (.tup (Qt d))->Zw ca H' A { S with ppl:=ppl,out:=out,cur:=s,std:=std }->FrS A H H'->#[M,t])
inductive Hy(ca:CA)(vs:#[a])(H:Hp)(Q:VK)(_:XK):Prop where
 | mk(A:SAd)(S:Sea)(_:vs=[.ref A.p])(_:#[K])(_:∀ l H',H' l=#[T,S.ppl.map,fun x=>V.int x.1]->Same H H'->H l=none->Q (.ref l) H')
inductive D2(ca:CA)(vs:#[a])(H:Hp)(Q:VK)(E:XK):Prop where
 | mk(A:SAd)(S:Sea)(n:Int)(_:vs=[.ref A.p,.int n])(_:#[K])(_:Z7 n)(_:(n∉S.ppl.map (·.1)->#[H,ca.unk]))(_:∀ g c t,(n,g,c)∈S.ppl->H t=#[A,#[Q,g,c]]->Q (.ref t) H)
inductive Ga(ca:CA)(vs:#[a])(H:Hp)(Q:VK)(E:XK):Prop where
 | mk(A:SAd)(S:Sea)(i n:Int)(_:vs=#[S,.ref A.p,i,n])(_:#[K])(_:Z7 i)(_:Z7 n)(_:if i<1\/(S.len:Int)<i then #[H,ca.noRound] else if n∈S.ppl.map (·.1) then ∀ H',#[q]->Q (.bl (decide ((i,n)∈S.out))) H' else #[H,ca.unk])
def Sj(ca:CA)(H:Hp)(S:Sea)(i:Int)(E:XK)(k:Z2->Prop):Prop:=Z7 i/\S.old.length=S.led.length/\if i<1\/(S.len:Int)<i then #[H,ca.noRound] else (Y7 S i=none->#[H,ca.notDrawn])/\∀ s,Y7 S i=some s->k s
inductive D3(ca:CA)(vs:#[a])(H:Hp)(Q:VK)(E:XK):Prop where
 | mk(A:SAd)(S:Sea)(i:Int)(_:vs=[.ref A.p,.int i])(_:#[K])(_:Sj ca H S i E fun s=>∀ l ts H',H' l=#[w,ts]->Yf H' ts (s.ms.map pV)->#[q]->H l=none->#[M,l])
inductive C4(ca:CA)(vs:#[a])(H:Hp)(Q:VK)(E:XK):Prop where
 | mk(A:SAd)(S:Sea)(i:Int)(_:vs=[.ref A.p,.int i])(_:#[K])(_:Sj ca H S i E fun s=>∀ l H',H' l=#[w,s.gv]->#[q]->H l=none->#[M,l])
inductive A9(ca:CA)(vs:#[a])(H:Hp)(Q:VK)(E:XK):Prop where
 | mk(A:SAd)(S:Sea)(i:Int)(_:vs=[.ref A.p,.int i])(_:#[K])(_:Sj ca H S i E fun s=>(∀ x∈s.gv,oneV x)/\s.gv.length<=100/\∀ l H',H' l=#[T,(V6 s.gv).map,fun i=>V.int (i:Nat)]->#[q]->H l=none->#[M,l])
inductive zjk(ca:CA)(vs:#[a])(H:Hp)(Q:VK)(E:XK):Prop where
 | mk(A:SAd)(S:Sea)(i:Int)(_:vs=[.ref A.p,.int i])(_:#[K])(_:Sj ca H S i E fun s=>(∃ nu,Pj s.may nu)/\Yu s.may s.gv/\Dv s.may s.gv/\∀ t lp lr ps rs H',H' t=#[A,[.ref lp,.ref lr]]->H' lp=#[T,U9,ps]->H' lr=#[T,rs.map,V.int]->Cw s.may s.gv ps rs->#[q]->H t=none->H lp=none->H lr=none->lp≠lr->#[M,t])
inductive zaa(ca:CA)(vs:#[a])(H:Hp)(Q:VK)(E:XK):Prop where
 | mk(A:SAd)(S:Sea)(i:Int)(_:vs=[.ref A.p,.int i])(_:#[K])(_:Sj ca H S i E fun s=>s.gaps.length<=1000/\∀ l ts H',H' l=#[w,ts]->Wl (fun x=>H x=none/\x≠l) H' ts s.gaps->#[q]->H l=none->#[M,l])
inductive zdn(ca:CA)(vs:#[a])(H:Hp)(Q:VK)(E:XK):Prop where
 | mk(A:SAd)(S:Sea)(i n:Int)(_:vs=#[S,.ref A.p,i,n])(_:#[K])(_:Z7 n)(_:Sj ca H S i E fun s=>(∀ x∈s.gv,oneV x)/\s.gv.length<=100/\if n∈S.ppl.map (·.1) then ∀ H',#[q]->Q (oN (Wk s.gv n)) H' else #[H,ca.unk])
inductive zjl(ca:CA)(vs:#[a])(H:Hp)(Q:VK)(E:XK):Prop where
 | mk(A:SAd)(S:Sea)(i:Int)(_:vs=[.ref A.p,.int i])(_:#[K])(_:Z7 i)(_:(S.cur=none->E (.ref ca.notDrawn) none H))(_:∀ s,S.cur=some s->s.may.length=s.ms.length/\(i<0\/(s.ms.length:Int)<=i->#[H,ca.noMatch])/\∀ (k:Nat) r,i=(k:Int)->s.may[k]?=some r->∀ l H',H' l=#[T,r.map,V.int]->#[q]->H l=none->#[M,l])
theorem Tv(ks:#[B]):∀ {fs:List (Str×V)},fs.map (·.1)=ks->(ks.all fun x=>!#[j,x=f])=true->putF f v fs=fs++[(f,v)]:=by
 intro fs hk h;subst hk
 induction fs with
 | nil=>rfl
 | cons x fs ih =>
   rw[zw3,List.all_cons,zx3,Bool.not_eq_true',decide_eq_false_iff_not] at h;obtain⟨k,y⟩:=x;show (if k=f then _ else _)=_;rw[#[g,h.1],ih h.2];rfl
def sF1(l:V):#[ad]:=[("length",l)]
def sF2(l r:V):#[ad]:=[("length",l),("rest",r)]
def sF3(l r a:V):#[ad]:=[("length",l),("rest",r),("roster",a)]
def sF4(l r a b:V):#[ad]:=[("length",l),("rest",r),("roster",a),("ledger",b)]
def sF5(l r a b c:V):#[ad]:=[("length",l),("rest",r),("roster",a),("ledger",b),("absent",c)]
def sF6(l r a b c d:V):#[ad]:=[("length",l),("rest",r),("roster",a),("ledger",b),("absent",c),("sheets",d)]
def sF7(l r a b c d e:V):#[ad]:=[("length",l),("rest",r),("roster",a),("ledger",b),("absent",c),("sheets",d),("sheet",e)]
def sF8(l r a b c d e f:V):#[ad]:=[("length",l),("rest",r),("roster",a),("ledger",b),("absent",c),("sheets",d),("sheet",e),("standing",f)]
theorem pF1:putF "length" l []=sF1 l:=rfl
theorem pF2:putF "rest" r (sF1 l)=sF2 l r:=Tv ["length"] rfl ⋯
theorem pF3:putF "roster" a (sF2 l r)=sF3 l r a:=Tv ["length","rest"] rfl ⋯
theorem pF4:putF "ledger" b (sF3 l r a)=sF4 l r a b:=Tv ["length","rest","roster"] rfl ⋯
theorem pF5:putF "absent" c (sF4 l r a b)=sF5 l r a b c:=Tv ["length","rest","roster","ledger"] rfl ⋯
theorem pF6:putF "sheets" d (sF5 l r a b c)=sF6 l r a b c d:=Tv ["length","rest","roster","ledger","absent"] rfl ⋯
theorem pF7:putF "sheet" e (sF6 l r a b c d)=sF7 l r a b c d e:=Tv ["length","rest","roster","ledger","absent","sheets"] rfl ⋯
theorem pF8:putF "standing" f (sF7 l r a b c d e)=sF8 l r a b c d e f:=Tv ["length","rest","roster","ledger","absent","sheets","sheet"] rfl ⋯
theorem Vw.free{p:Addr}{H H':Hp}{x:Addr}(hb:∀ b o,H b=#[d]->b≠p->H' b=#[d])(hp:∃ o,H' p=#[d])(hx:H' x=none):H x=none:=by
 cases e:H x with
 | none=>rfl
 | some o =>
   by_cases z:x=p
   ·subst z;obtain⟨o',q⟩:=hp;rw[q] at hx;cases hx
   ·rw[hb x o e z] at hx;cases hx
def Vw(p:Addr)(H H':Hp):Prop:=∀ b o,H b=#[d]->b≠p->H' b=#[d]
theorem Vw.trans(a:Vw p H1 H2)(b:Vw p H2 H3):Vw p H1 H3:=fun x o e n=>b x o (a x o e n) n
theorem Vw.of(a:Same H1 H2):Vw p H1 H2:=fun x o e _=>a x o e
theorem Vw.put:Vw p H (upd H p o):=fun x o e n=>by rw[Zi n];exact e
end G
namespace L2
open PySem PySem.Spec PyProof.Rows
theorem zby:W8 X (.type "dict") (fun xs H Q=>∃ a kvs,xs=[.ref a]/\Rd H a (.dK kvs)/\∀ p,H p=none->Q (.ref p) (upd H p (.dK kvs))):=by
 intro pins s σ H xs us Q I r h;obtain⟨a,kvs,rfl,ha,q⟩:=h;obtain⟨u,rfl,ru⟩:=Rm r;cases (show u=Value.ref a from ru);exact zf6 I ha fun p s' hp I'=>#[I,.ref p,_,I',q p hp]
end L2
namespace G
open PySem PySem.Spec PyProof.Rows L2
def K2:#[p]:=[0,1,2,3,4,5,6,7,8,9,10,0,0,0,1,1,1,2,2,0,1,3]
inductive zab(K:Frag)(vs:#[a])(H:Hp)(Q:VK)(_:XK):Prop where
 | mk(b:Addr)(ns:#[p])(_:vs=[.ref b])(_:SqL K H b (ns.map V.int))(_:∀ (q:Nat) H',q=(K2.getD (Xz ns 1%22).toNat 0).toNat->q<=10->#[q]->Q (.int q) H')
inductive zac(K:Frag)(vs:#[a])(H:Hp)(Q:VK)(_:XK):Prop where
 | mk(b:Addr)(ns:#[p])(k:Nat)(_:vs=[.ref b,.int k])(_:SqL K H b (ns.map V.int))(_:k<ns.length)(_:∀ c H',#[q]->Q (.int c) H')
structure Nl(H:Hp)(t lc ln:Addr)(cs nu:#[p]):Prop where
 tup:#[R,H,t,[.ref lc,.ref ln]]
 clubs:H lc=some (.lst (cs.map V.int))
 nums:H ln=some (.lst (nu.map V.int))
 few:3<=cs.length/\cs.length<=10
 cnd:cs.Nodup
 crng:∀ c∈cs,1<=c/\c<=99
 nfew:1<=nu.length/\nu.length<=30
 nnd:nu.Nodup
 nrng:∀ n∈nu,1<=n/\n<=999
theorem Nl.same{H H':Hp}{t lc ln:Addr}{cs nu:#[p]}(h:Nl H t lc ln cs nu)(e:#[q]):Nl H' t lc ln cs nu:=⟨e _ _ h.tup,e _ _ h.clubs,e _ _ h.nums,h.few,h.cnd,h.crng,h.nfew,h.nnd,h.nrng⟩
inductive zad(K:Frag)(vs:#[a])(H:Hp)(Q:VK)(_:XK):Prop where
 | mk(b:Addr)(ns:#[p])(cr:Nat)(_:vs=[.ref b,.int cr])(_:SqL K H b (ns.map V.int))(_:1<=cr)(_:cr<=30)(_:∀ t lc ln cs nu H',Nl H' t lc ln cs nu->nu.length=cr->#[q]->H t=none->H lc=none->H ln=none->#[M,t])
theorem zae(c:Int)(hi:i<10)(hj:j<10)(h:Dj c i=Dj c j):i=j:=by
 unfold Dj at h;have hs:Co c=1\/Co c=2\/Co c=5\/Co c=10\/Co c=50\/Co c=97\/Co c=98:=by
  unfold Co;have h0:0<=c%7:=by omega
  have h1:c%7<7:=by omega
  generalize c%7=r at h0 h1;obtain⟨k,rfl⟩:∃ k:Nat,r=k:=⟨r.toNat,by omega⟩;rw[zxc];have hk:k<7:=by omega
  match k,hk with
  | 0,_=>simp
  | 1,_=>simp
  | 2,_=>simp
  | 3,_=>simp
  | 4,_=>simp
  | 5,_=>simp
  | 6,_=>simp
 generalize c/7=x at h;rcases hs with e|e|e|e|e|e|e<;>rw[e] at h<;>omega
theorem zaf(c:Int)(hm:m<=10):(Pd c m).Nodup:=by
 unfold Pd;rw[zyh,List.pairwise_map];refine List.Pairwise.imp_of_mem (fun {i j} hi hj (hne:i≠j) z=>?_) (zyh.mp List.nodup_range);exact hne (zae c (by have:=zxz.mp hi;omega) (by have:=zxz.mp hj;omega) z)
theorem zeu(c:Int)(m:Nat):∀ n∈Pd c m,1<=n/\n<=99:=fun n hn=>by
 unfold Pd at hn;obtain⟨j,_,rfl⟩:=zw0.mp hn;unfold Dj;omega
theorem zag(c:Int)(hm:m<=40):(Kx c m).Nodup:=by
 unfold Kx;rw[zyh,List.pairwise_map];refine List.Pairwise.imp_of_mem (fun {i j} hi hj (hne:i≠j) z=>?_) (zyh.mp List.nodup_range);exact hne (zgq c (by have:=zxz.mp hi;omega) (by have:=zxz.mp hj;omega) z)
theorem zew(c:Int)(m:Nat):∀ n∈Kx c m,1<=n/\n<=999:=fun n hn=>by
 unfold Kx at hn;obtain⟨j,_,rfl⟩:=zw0.mp hn;unfold numS;omega
inductive Wj where
 | enrol (n g c:Int)|away (i n:Int)|draw (ms:List P3)|close|back
def Uh(ok:Addr->Prop)(H:Hp)(t:Addr):Wj->Prop
 | .enrol n g c=>#[R,H,t,[.str "enrol",.int n,.int g,.int c]]
 | .away i n=>#[R,H,t,#[S,.str "away",i,n]]
 | .draw ms=>∃ l ts,H t=#[A,[.str "draw up",.ref l]]/\H l=#[w,ts]/\Yf H ts (ms.map pV)/\ok l
 | .close=>#[R,H,t,[.str "close"]]
 | .back=>#[R,H,t,[.str "take back"]]
def zhc(S:Sea):Prop:=∀ s,S.cur=some s->s.ms.length<=20/\Yu s.may s.gv/\Vs s.may s.gv/\s.may=mayS S s.ms/\s.gaps.length<=S.std.length
def O0(S S':Sea):Prop:=∃ d:Ru,S'.std=S.std++[(d,S.cur)]/\zhb S' d S.ppl S.out/\S'.len=S.len/\S'.rest=S.rest/\S'.led=S.led/\S'.old=S.old
def K3(S:Sea):Wj->Prop
 | .enrol n g c=>S.led.length<S.len/\S.cur=none/\¬ badI n g c/\n∉S.ppl.map (·.1)/\S.ppl.length<30
 | .away i n=>(S.led.length:Int)<i/\i<=S.len/\n∈S.ppl.map (·.1)/\(i,n)∉S.out
 | .draw ms=>S.led.length<S.len/\S.cur=none/\ms.length<=20/\(∀ m∈ms,¬ badM m)/\∀ m∈ms,m.1≠m.2.1
 | .close=>S.led.length<S.len/\S.cur≠none
 | .back=>S.std≠[]
inductive Sk(H':Hp)(S:Sea):Wj->Sea->V->Prop where
 | enrol (n g c:Int):Sk H' S (.enrol n g c) { S with ppl:=S.ppl++[(n,g,c)],std:=S.std++[(((("enrol":Str),n,atV S):Ru),S.cur)] } .non
 | awayN {i n:Int} {l:Addr} (h:S.cur=none\/atV S<i) (hl:#[y,H',l,[]]):Sk H' S (.away i n) (Xt S i n) (.ref l)
 | awayF {n:Int} {s:Z2} {l:Addr} (h:S.cur=some s) (hp:Wk s.gv n=none) (hl:#[y,H',l,[]]):Sk H' S (.away (atV S) n) { Xt S (atV S) n with cur:=some { s with may:=mayS (Xt S (atV S) n) s.ms } } (.ref l)
 | awayC {n:Int} {s:Z2} {p e:Nat} {l:Addr} {us:#[a]} {st:#[J]} {w:#[F]} (h:S.cur=some s) (hp:Wk s.gv n=some p) (hl:#[y,H',l,us]) (tl:Yf H' us (st.map V7)) (CR:Xk (mayS (Xt S (atV S) n) s.ms) (s.gv.set p .non) p st e w) :
   Sk H' S (.away (atV S) n) { Xt S (atV S) n with cur:=some ⟨s.ms,mayS (Xt S (atV S) n) s.ms,Yx st (s.gv.set p .non),s.gaps++[(n,st)]⟩ } (.ref l)
 | draw {ms:List P3} {gv:#[a]} {l:Addr} (hl:#[y,H',l,gv]) (F:Yu (mayS S ms) gv) (T:Vs (mayS S ms) gv):Sk H' S (.draw ms) (zg9 S ms gv) (.ref l)
 | close {s:Z2} (h:S.cur=some s):Sk H' S .close (C3 S s) (.int (atV S))
 | back {S0:Sea} {d:Ru} {t:Addr} (h:S.std=S0.std++[(d,S0.cur)]) (ht:H' t=some (.tup (Qt d))) (hs:O0 S0 S):Sk H' S .back S0 (.ref t)
def Gb(A A':SAd)(H:Hp):Prop:=∃ x,A'={ A with lt:=x }/\(x=A.lt\/H x=none)
inductive ziy(K:Frag)(ca:CA)(vs:#[a])(H:Hp)(Q:VK)(_:XK):Prop where
 | mk(A:SAd)(S:Sea)(t:Addr)(d:Wj)(_:vs=[.ref A.p,.ref t])(_:#[K])(_:Uh (·∉A.fp) H t d)(_:K3 S d)(_:zhc S)(_:Pm S)(_:S.std.length<100)(_:S.out.length<=100000)(_:2*(tot S.led+1000)<=100000)(_:S.led.length<=1000)(_:S.old.length<=1000)(_:S.len<=1000)(_:(∀ i n,d=.away i n->Z7 n))(_:(d=.back->∃ S0,O0 S0 S))(_:∀ v A' S' H',Sk H' S d S' v->Zw ca H' A' S'->Gb A A' H->FrS A H H'->(∀ l,v=.ref l->(∃ xs,H' l=some (.lst xs))->H l=none)->Q v H')
abbrev Xn(b:List Stmt)(i:Nat):Stmt:=b.getD i (.Pass ⟨0,0,0,0⟩)
def ziz:Stmt->Expr|.Return (some e) _=>e|_=>.Constant .none 0 ⟨0,0,0,0⟩
def stP:Stmt->Pos|.Return _ p=>p|.Assign _ _ p=>p|_=>⟨0,0,0,0⟩
def zhd:Stmt->List Expr|.Assign ts _ _=>ts|_=>[]
def Oq:Stmt->Expr|.Assign _ v _=>v|_=>.Constant .none 0 ⟨0,0,0,0⟩
def zah:Expr->Expr|.Subscript a _ _=>a|e=>e
def zi0:Expr->Expr|.Subscript _ b _=>b|e=>e
def zi1:Expr->Pos|.Subscript _ _ p=>p|_=>⟨0,0,0,0⟩
def zex:Expr->List Expr|.List es _=>es|_=>[]
def zey:Expr->Pos|.List _ p=>p|_=>⟨0,0,0,0⟩
def K4:#[p]->TA
 | []=>tNil
 | x :: xs=>Va (tC (.int x)) (K4 xs)
theorem D4:∀ (xs:List Int) (σ:L2.St) (H:Hp) (Q:List V->Hp->Prop),Q (xs.map V.int) H->K4 xs σ H Q
 | [],_,_,_,h=>h
 | x :: xs,σ,H,Q,h=>D4 xs σ H (fun ys H2=>Q (.int x :: ys) H2) h
structure Gd(es:List Expr)(xs:#[p]):Prop where
 len:es.length=xs.length
 same:List.zipWith (fun i (e:Expr)=>Expr.Constant (.int i) 0 e.pos) xs es=es
theorem Oj(xs:#[p])(h:Gd es xs):PA X es (K4 xs):=by
 obtain⟨h1,h2⟩:=h
 induction xs generalizing es with
 | nil =>
   have:=zye.mp h1;subst this;exact Zd
 | cons x xs ih =>
   cases es with
   | nil=>cases h1
   | cons e es =>
     rw[List.zipWith_cons_cons] at h2;obtain⟨e1,e2⟩:=List.cons.inj h2;rw[<- e1];exact Za Zg (ih (Nat.succ.inj h1) e2) rfl
theorem zai(xs:#[p])(hz:xs.length<=1000)(h:∀ l,H l=none->Q (.ref l) (upd H l (.lst (xs.map V.int)))):tLst (K4 xs) σ H Q:=by
 refine D4 xs σ H _ ⟨?_,h⟩;rw[zwq];exact szN hz
theorem zdo{K:Frag}(xs:#[p]){ti:TE}{σ:L2.St}{H:Hp}{Q:VK}(hz:xs.length<=1000)(h:∀ l H1,H1 l=#[T,xs.map,V.int]->Same H H1->H l=none->ti σ H1 fun y H2=>Cc K (.ref l) y H2 Q):tOp (Cc K) (tLst (K4 xs)) ti σ H Q :=
 zai xs hz fun l hl=>h l _ Zc (Ze hl) hl
theorem zk3{K:Frag}(xs:#[p]){ti:TE}{D:Q7}{σ:L2.St}{H:Hp}(hz:xs.length<=1000)(h:∀ l H1,H1 l=#[T,xs.map,V.int]->Same H H1->H l=none->ti σ H1 fun y H2=>Cc K (.ref l) y H2 D.rt):zjv (tOp (Cc K) (tLst (K4 xs)) ti) D σ H:=zdo (Q:=D.rt) xs hz h
theorem zk4{K:Frag}(xs:#[p]){ti:TE}{i:Nat}{u:TS}{D:Q7}{σ:L2.St}{H:Hp}(hz:xs.length<=1000)(h:∀ l H1,H1 l=#[T,xs.map,V.int]->Same H H1->H l=none->ti σ H1 fun y H2=>Cc K (.ref l) y H2 fun x H3=>u D (σ.set i (some x)) H3):Zx (Bt (tOp (Cc K) (tLst (K4 xs)) ti) (X3 i)) u D σ H:=zdo xs hz h
theorem zaj(xs:#[p])(hz:xs.length<=1000)(h:∀ l H1,H1 l=#[T,xs.map,V.int]->Same H H1->H l=none->u D (σ.set i #[b,l]) H1):Zx (Bt (tLst (K4 xs)) (X3 i)) u D σ H :=
 zai (σ:=σ) (H:=H) (Q:=fun x H3=>u D (σ.set i (some x)) H3) xs hz fun l hl=>h l _ Zc (Ze hl) hl
theorem C5:#[j,V.str a=V.str a]=true:=zwy rfl
theorem Tw(h:#[j,a=b]=false):#[j,V.str a=V.str b]=false:=zw1 fun z=>of_decide_eq_false h (V.str.inj z)
theorem Gb.refl(A:SAd)(H:Hp):Gb A A H:=#[t,A.lt,.inl rfl]
abbrev zk5:=List (Int×#[J])
structure Pg where
 len:Nat
 rest:Nat
 ppl:RL
 out:List (Int×Int)
 over:List Z2
 deed:Option Ru
 lis:Option (List P3)
 gv:#[a]
 mv:zk5
def pgF(len rest:Nat)(lp lo lv:Addr)(dv li:V)(lg lm:Addr):#[X]:=[(.inr "rounds",.int len),(.inr "rest",.int rest),(.inr "people",.ref lp),(.inr "out",.ref lo),(.inr "over",.ref lv),(.inr "deed",dv),(.inr "listed",li),(.inr "goes",.ref lg),(.inr "moves",.ref lm)]
def oiV(x:Int×Int):#[a]:=#[Q,x.1,x.2]
def Mo(ok:Addr->Prop)(H:Hp)(v:V):Option (List P3)->Prop
 | none=>v=.non
 | some ms=>∃ l ts,v=.ref l/\H l=#[w,ts]/\Yf H ts (ms.map pV)/\ok l
def zak(H:Hp)(v:V):Option Ru->Prop
 | none=>v=.non
 | some d=>∃ t,v=.ref t/\H t=some (.tup (Qt d))
inductive Xh(ok:Addr->Prop)(H:Hp):#[a]->List Z2->Prop where
 | nil:Xh ok H [] []
 | cons {t l g m y:Addr} {ts mts:#[a]} {ls:#[z]} {s:Z2} {vs:#[a]} {ss:List Z2} (h:#[R,H,t,[.ref l,.ref g,.ref m,.ref y]]) (hl:#[y,H,l,ts]) (tl:Yf H ts (s.ms.map pV)) (hg:#[y,H,g,s.gv]) (hm:#[y,H,m,mts]) (gm:Wl ok H mts s.gaps)
   (hy:H y=some (.lst (ls.map V.ref))) (iy:ILs H ls s.may) (o:ok l/\ok g/\ok m/\ok y/\∀ x∈ls,ok x) (r:Xh ok H vs ss):Xh ok H (.ref t :: vs) (s :: ss)
theorem Mo.keep(h:Mo ok H v x)(k:#[aw,x,x])(kt:#[am]):Mo ok H' v x:=by
 cases x with
 | none=>exact h
 | some ms=>obtain⟨l,ts,e,a,b,o⟩:=h;exact⟨l,ts,e,k _ _ o a,b.mono kt,o⟩
theorem Mo.imp(h:Mo ok H v x)(k:#[ay]):Mo ok' H v x:=by
 cases x with
 | none=>exact h
 | some ms=>obtain⟨l,ts,e,a,b,o⟩:=h;exact⟨l,ts,e,a,b,k _ ⟨_,a⟩ o⟩
theorem zak.keep(h:zak H v x)(kt:#[am]):zak H' v x:=by
 cases x with
 | none=>exact h
 | some d=>obtain⟨t,e,a⟩:=h;exact⟨t,e,kt _ _ a⟩
theorem Xh.keep(k:#[aw,x,x])(kt:#[am]):∀ {vs:List V} {ss:List Z2},Xh ok H vs ss->Xh ok H' vs ss
 | _,_,.nil=>.nil
 | _,_,.cons h hl tl hg hm gm hy iy o r=>.cons (kt _ _ h) (k _ _ o.1 hl) (tl.mono kt) (k _ _ o.2.1 hg) (k _ _ o.2.2.1 hm) (gm.keep k kt) (k _ _ o.2.2.2.1 hy) (iy.keep fun x hx _ q=>k _ _ (o.2.2.2.2 x hx) q) o (Xh.keep k kt r)
theorem Xh.imp(k:#[ay]):∀ {vs:List V} {ss:List Z2},Xh ok H vs ss->Xh ok' H vs ss
 | _,_,.nil=>.nil
 | _,_,.cons h hl tl hg hm gm hy iy o r=>.cons h hl tl hg hm (gm.imp k) hy iy ⟨k _ ⟨_,hl⟩ o.1,k _ ⟨_,hg⟩ o.2.1,k _ ⟨_,hm⟩ o.2.2.1,k _ ⟨_,hy⟩ o.2.2.2.1,fun x hx=>k _ (let ⟨_,z⟩:=iy.has hx;⟨_,z⟩) (o.2.2.2.2 x hx)⟩ (Xh.imp k r)
theorem Xh.length:∀ {vs:List V} {ss:List Z2},Xh ok H vs ss->vs.length=ss.length
 | _,_,.nil=>rfl
 | _,_,.cons _ _ _ _ _ _ _ _ _ r=>by simp[Xh.length r]
theorem Xh.snoc(h:#[R,H,t,[.ref l,.ref g,.ref m,.ref y]])(hl:#[y,H,l,ts])(tl:Yf H ts (s.ms.map pV))(hg:#[y,H,g,s.gv])(hm:#[y,H,m,mts])(gm:Wl ok H mts s.gaps)
   (hy:H y=some (.lst (ls.map V.ref))) (iy:ILs H ls s.may) (o:ok l/\ok g/\ok m/\ok y/\∀ x∈ls,ok x):∀ {vs:List V} {ss:List Z2},Xh ok H vs ss->Xh ok H (vs++[.ref t]) (ss++[s])
 | _,_,.nil=>.cons h hl tl hg hm gm hy iy o .nil
 | _,_,.cons h' hl' tl' hg' hm' gm' hy' iy' o' r=>.cons h' hl' tl' hg' hm' gm' hy' iy' o' (Xh.snoc h hl tl hg hm gm hy iy o r)
theorem Xh.get:∀ {vs:List V} {ss:List Z2} {i:Nat} {x:V},Xh ok H vs ss->vs[i]?=some x->∃ t l g m y ts s,x=.ref t/\ss[i]?=some s/\H t=#[A,[.ref l,.ref g,.ref m,.ref y]]/\H l=#[w,ts]/\Yf H ts (s.ms.map pV)/\H g=#[w,s.gv]/\ok l/\ok g
 | _,_,_,_,.nil,e=>by simp at e
 | _,_,0,_,.cons h hl tl hg _ _ _ _ o _,e=>by simp at e;subst e;exact⟨_,_,_,_,_,_,_,rfl,rfl,h,hl,tl,hg,o.1,o.2.1⟩
 | _,_,i+1,x,.cons _ _ _ _ _ _ _ _ _ r,e=>by
   obtain⟨t,l,g,m,y,ts,s,h1,h2,h3⟩:=Xh.get (i:=i) (x:=x) r (by simpa using e);exact⟨t,l,g,m,y,ts,s,h1,by simpa using h2,h3⟩
structure PgAt(ok:Addr->Prop)(H:Hp)(d:Addr)(P:Pg):Prop where
 ex:∃ lp lo lv dv li lg lm pts ots vts mts,H d=#[c,.dK,pgF P.len P.rest lp lo lv dv li lg lm]/\H lp=#[w,pts]/\Yf H pts (P.ppl.map pV)/\H lo=#[w,ots]/\Yf H ots (P.out.map oiV)/\H lv=#[w,vts]/\Xh ok H vts P.over/\zak H dv P.deed/\Mo ok H li P.lis/\H lg=#[w,P.gv]/\H lm=#[w,mts]/\Wl ok H mts P.mv /\
  (ok d/\ok lp/\ok lo/\ok lv/\ok lg/\ok lm)
theorem PgAt.keep(h:PgAt ok H d P)(k:#[aw,x,x])(kt:#[am]):PgAt ok H' d P:=by
 obtain⟨lp,lo,lv,dv,li,lg,lm,pts,ots,vts,mts,a1,a2,a3,a4,a5,a6,a7,a8,a9,b1,b2,b3,o1,o2,o3,o4,o5,o6⟩:=h;exact⟨lp,lo,lv,dv,li,lg,lm,pts,ots,vts,mts,k _ _ o1 a1,k _ _ o2 a2,a3.mono kt,k _ _ o3 a4,a5.mono kt,k _ _ o4 a6,a7.keep k kt,a8.keep kt,a9.keep k kt,k _ _ o5 b1,k _ _ o6 b2,b3.keep k kt,o1,o2,o3,o4,o5,o6⟩
theorem PgAt.imp(h:PgAt ok H d P)(k:#[ay]):PgAt ok' H d P:=by
 obtain⟨lp,lo,lv,dv,li,lg,lm,pts,ots,vts,mts,a1,a2,a3,a4,a5,a6,a7,a8,a9,b1,b2,b3,o1,o2,o3,o4,o5,o6⟩:=h;exact⟨lp,lo,lv,dv,li,lg,lm,pts,ots,vts,mts,a1,a2,a3,a4,a5,a6,a7.imp k,a8,a9.imp k,b1,b2,b3.imp k,k _ ⟨_,a1⟩ o1,k _ ⟨_,a2⟩ o2,k _ ⟨_,a4⟩ o3,k _ ⟨_,a6⟩ o4,k _ ⟨_,b1⟩ o5,k _ ⟨_,b2⟩ o6⟩
theorem PgAt.same(h:PgAt ok H d P)(e:#[q]):PgAt ok H' d P:=h.keep (fun _ _ _ q=>e _ _ q) fun _ _ q=>e _ _ q
section
variable{len rest:Nat}{lp lo lv lg lm:Addr}{dv li:V}
theorem zbz:putK (pgF len rest lp lo lv dv li lg lm) (.inr "people") (.ref x)=pgF len rest x lo lv dv li lg lm:=rfl
theorem zi2:putK (pgF len rest lp lo lv dv li lg lm) (.inr "out") (.ref x)=pgF len rest lp x lv dv li lg lm:=rfl
theorem zhe:putK (pgF len rest lp lo lv dv li lg lm) (.inr "over") (.ref x)=pgF len rest lp lo x dv li lg lm:=rfl
theorem Ge:putK (pgF len rest lp lo lv dv li lg lm) (.inr "deed") v=pgF len rest lp lo lv v li lg lm:=rfl
theorem Gf:putK (pgF len rest lp lo lv dv li lg lm) (.inr "listed") v=pgF len rest lp lo lv dv v lg lm:=rfl
theorem zal:putK (pgF len rest lp lo lv dv li lg lm) (.inr "goes") (.ref x)=pgF len rest lp lo lv dv li x lm:=rfl
theorem zez:putK (pgF len rest lp lo lv dv li lg lm) (.inr "moves") (.ref x)=pgF len rest lp lo lv dv li lg x:=rfl
end
theorem zhf{len rest:Nat}{lp lo lv lg lm:Addr}{dv li:V}:(pgF len rest lp lo lv dv li lg lm).length<sizeLine:=by rw[sizeLine_eq];show 9<_;decide
def pg6(len rest:Nat)(lp lo lv:Addr)(dv:V):#[X]:=[(.inr "rounds",.int len),(.inr "rest",.int rest),(.inr "people",.ref lp),(.inr "out",.ref lo),(.inr "over",.ref lv),(.inr "deed",dv)]
theorem ze0{len rest:Nat}{lp lo lv:Addr}{dv:V}:Uc [] (pg6 len rest lp lo lv dv)=pg6 len rest lp lo lv dv:=rfl
theorem zi3{len rest:Nat}{lp lo lv:Addr}{dv x y z:V}:putK (putK (putK (pg6 len rest lp lo lv dv) (.inr "listed") x) (.inr "goes") y) (.inr "moves") z=pg6 len rest lp lo lv dv++[(.inr "listed",x),(.inr "goes",y),(.inr "moves",z)]:=rfl
theorem Lz{len rest:Nat}{lp lo lv:Addr}{dv x y:V}:(pg6 len rest lp lo lv dv).length<sizeLine/\(putK (pg6 len rest lp lo lv dv) (.inr "listed") x).length<sizeLine/\(putK (putK (pg6 len rest lp lo lv dv) (.inr "listed") x) (.inr "goes") y).length<sizeLine:=by
 rw[sizeLine_eq];exact⟨by show 6<_;decide,by show 7<_;decide,by show 8<_;decide⟩
def zb0(r q:Nat):Pg:=⟨r,q,[],[],[],none,none,[],[]⟩
inductive zdp(vs:#[a])(H:Hp)(Q:VK)(_:XK):Prop where
 | mk(r q:Nat)(_:vs=#[Q,r,q])(_:∀ d H',PgAt (fun x=>H x=none) H' d (zb0 r q)->#[q]->H d=none->#[M,d])
def Gg(P:Pg):Prop:=P.over.length<=100/\P.rest<=100/\∀ s∈P.over,s.ms.length<=20/\s.gv.length=s.ms.length/\∀ x∈s.gv,oneV x
def zhg(kvs:List (List Key×V))(P:Pg):Prop:=∀ n c:Int,(valV kvs [inl n,inl c]).isSome=Qs (P.over.map Yj) n c P.rest
inductive zdq(K:Frag)(vs:#[a])(H:Hp)(Q:VK)(_:XK):Prop where
 | mk(ok:Addr->Prop)(d:Addr)(P:Pg)(_:vs=[.ref d])(_:PgAt ok H d P)(_:Gg P)(_:∀ m kvs H',H' m=#[c,.dT,kvs]->zhg kvs P->#[q]->H m=none->#[M,m])
theorem zhh(xs:#[a])(n r:Nat):Fo xs (some (if ((n:Int)-r)>0 then (n:Int)-r else 0)) none=xs.drop ((n:Int)-r).toNat:=by
 have e:(if ((n:Int)-r)>0 then (n:Int)-r else 0)=((((n:Int)-r).toNat:Nat):Int):=by split<;>omega
 rw[e];exact zek xs _
theorem Xh.drop:∀ (k:Nat) {vs:List V} {ss:List Z2},Xh ok H vs ss->Xh ok H (vs.drop k) (ss.drop k)
 | 0,_,_,h=>h
 | _+1,_,_,.nil=>.nil
 | k+1,_,_,.cons _ _ _ _ _ _ _ _ _ r=>Xh.drop k r
def HitI(ss:List Z2)(i j:Nat)(n c:Int):Prop:=(∃ s∈ss.take i,∃ r∈Yj s,hit n c r=true)\/∃ s,ss[i]?=some s/\∃ r∈(Yj s).take j,hit n c r=true
def Nm(kvs:List (List Key×V))(ss:List Z2)(i j:Nat):Prop:=∀ n c:Int,(valV kvs [inl n,inl c]).isSome=true↔HitI ss i j n c
theorem X6{α:Type}{l:List α}{j:Nat}{x:α}(h:l[j]?=some x):l.take (j+1)=l.take j++[x]:=by rw[zx9,h];rfl
theorem Nm.zero(ss:List Z2):Nm [] ss 0 0:=fun n c=>by
 unfold HitI;simp[zf0]
theorem Nm.next{kvs:List (List Key×V)}{ss:List Z2}{i:Nat}{s:Z2}(h:Nm kvs ss i (Yj s).length)(hs:ss[i]?=some s):Nm kvs ss (i+1) 0:=fun n c=>by
 rw[h n c];unfold HitI;rw[X6 hs,hs];constructor
 ·rintro(⟨s',h1,h2⟩|⟨s',h1,r,h2,h3⟩)
  ·exact .inl ⟨s',zxf _ h1,h2⟩
  ·cases h1;exact .inl ⟨s,zxd _ (zym _),r,zyv h2,h3⟩
 ·rintro(⟨s',h1,r,h2,h3⟩|⟨s',h1,r,h2,h3⟩)
  ·rcases zw2.mp h1 with h1|h1
   ·exact .inl ⟨s',h1,r,h2,h3⟩
   ·cases zwv.mp h1;exact .inr ⟨_,rfl,r,by rw[zw9];exact h2,h3⟩
  ·simp at h2
theorem HitI.succ{ss:List Z2}{i j:Nat}{n c:Int}{s:Z2}{r:Row}(hs:ss[i]?=some s)(hr:(Yj s)[j]?=some r):HitI ss i (j+1) n c↔HitI ss i j n c\/hit n c r=true:=by
 unfold HitI;rw[hs];constructor
 ·rintro(z|⟨s',h1,r',h2,h3⟩)
  ·exact .inl (.inl z)
  ·cases h1;rw[X6 hr] at h2;rcases zw2.mp h2 with h2|h2
   ·exact .inl (.inr ⟨_,rfl,r',h2,h3⟩)
   ·cases zwv.mp h2;exact .inr h3
 ·rintro((z|⟨s',h1,r',h2,h3⟩)|z)
  ·exact .inl z
  ·cases h1;exact .inr ⟨_,rfl,r',by rw[X6 hr];exact zxf _ h2,h3⟩
  ·exact .inr ⟨_,rfl,r,by rw[X6 hr];exact zxd _ (zym _),z⟩
theorem Nm.none(h:Nm kvs ss i j)(hs:ss[i]?=some s)(hr:(Yj s)[j]?=some r)(hw:r.w=none):Nm kvs ss i (j+1):=fun n c=>by
 rw[h n c,HitI.succ hs hr];unfold hit;rw[hw];simp
theorem Nm.some(h:Nm kvs ss i j)(hs:ss[i]?=some s)(hr:(Yj s)[j]?=some r)(hw:r.w=some w):Nm (putK (putK kvs [inl w,inl r.h] v) [inl w,inl r.g] v') ss i (j+1):=fun n c=>by
 rw[HitI.succ hs hr,<- h n c,Uy,Uy];unfold hit;rw[hw];by_cases e1:([inl n,inl c]:List Key)=[inl w,inl r.g]
 ·rw[#[l,e1]];have:=e1;simp at this;obtain⟨rfl,rfl⟩:=this;simp
 ·rw[#[g,e1]];by_cases e2:([inl n,inl c]:List Key)=[inl w,inl r.h]
  ·rw[#[l,e2]];have:=e2;simp at this;obtain⟨rfl,rfl⟩:=this;simp
  ·rw[#[g,e2]];constructor
   ·exact .inl
   ·rintro(z|z)
    ·exact z
    ·exfalso
     simp at z e1 e2;obtain⟨z1,z2|z2⟩:=z
     ·exact e2 z1.symm z2.symm
     ·exact e1 z1.symm z2.symm
theorem Nm.all(h:Nm kvs (P.over.drop k) (P.over.drop k).length 0)(hk:k=((P.over.length:Int)-P.rest).toNat):zhg kvs P:=fun n c=>by
 apply zyz.mpr;rw[h n c,zej (Int.natCast_nonneg _),zwq,<- hk,<- List.map_drop];unfold HitI;rw[zw9];constructor
 ·rintro(⟨s,h1,h2⟩|⟨s,h1,r,h2,_⟩)
  ·exact⟨Yj s,zw0.mpr ⟨s,h1,rfl⟩,h2⟩
  ·simp at h2
 ·rintro⟨rs,h1,h2⟩;obtain⟨s,h3,rfl⟩:=zw0.mp h1;exact .inl ⟨s,h3,h2⟩
end G
namespace L2
open PySem PySem.Spec PyProof.Rows G
def V8(x:Int×Int):Dt:=.tup #[Q,x.1,x.2]
theorem Gh{K:Frag}{H:Hp}:∀ {ts:List V} {ps:List (Int×Int)},Yf H ts (ps.map oiV)->Rt K H ts (ps.map V8)
 | _,[],h=>by cases h;exact .nil
 | _,p :: ps,h=>by
   rw[zw3] at h;cases h with
   | cons e r=>exact .cons (.tup (SqT.of e) (.cons (.int _) (.cons (.int _) .nil))) (Gh r)
theorem L6:∀ ps:List (Int×Int),PyData.canLayAll0 (X9 (ps.map V8))=true
 | []=>rfl
 | p :: ps=>by
   rw[zw3,X9,PyData.canLayAll0,L6 ps];rfl
theorem L7:∀ ps:List (Int×Int),((X9 (ps.map V8)).any fun y=>PyData.eqv y (toPy (V8 (a,b))))=decide ((a,b)∈ps)
 | []=>by simp[X9]
 | p :: ps=>by
   rw[zw3,X9,zys,L7 ps,Me];obtain⟨p1,p2⟩:=p;have e:eqD (V8 (p1,p2)) (V8 (a,b))=#[j,(a,b)=(p1,p2)]:=by
    rw[V8,V8,eqD,Om,Om,Om,eqD,eqD];by_cases h1:p1=a
    ·by_cases h2:p2=b
     ·subst h1;subst h2;simp
     ·rw[zw1 fun z=>h2 (Prod.mk.inj z).2.symm];simp[h2]
    ·rw[zw1 fun z=>h1 (Prod.mk.inj z).1.symm];simp[h1]
   rw[e,<- Bool.decide_or];exact decide_eq_decide.mpr zwu.symm
inductive zi4(K:Frag)(neg:Bool)(x:V)(y:V)(H:Hp)(Q:VK):Prop where
 | mk(t p:Addr)(ts:#[a])(a b:Int)(ps:List (Int×Int))(_:x=.ref t)(_:y=.ref p)(_:SqT K H t #[Q,a,b])(_:SqL K H p ts)(_:Yf H ts (ps.map oiV))(_:Q (.bl (if neg then !#[j,(a,b)∈ps] else #[j,(a,b)∈ps])) H)
section
variable{X:Cx}{K:Frag}
theorem zam(hu:X.A.units+64<cLine):OpR X (compareOp .In) (zi4 X.K false):=by
 intro pins s σ H x y v u Q I rx ry h;obtain⟨t,p,ts,a,b,ps,rfl,rfl,ht,hp,tl,q⟩:=h;obtain⟨as,r1⟩:=Is.reads I (Is.tup ht (.cons (.int a) (.cons (.int b) .nil)):Is X.K H (.ref t) (V8 (a,b))) rx;have r1:Reads s.heap v (toPy (V8 (a,b))) as:=r1;obtain⟨bs,r2⟩:=Is.reads I (Is.lst hp (Gh tl)) ry;rw[toPy] at r2;have hd:(toPy (V8 (a,b))).depth=1:=rfl;refine SeqAt.in_list_reads r2 r1 (L6 ps) rfl ?_ ?_
 ·have:=Nat.min_le_right (PyData.depthAll (X9 (ps.map V8))) (toPy (V8 (a,b))).depth;rw[hd] at this ⊢;omega
 ·rw[L7];exact#[I,.bl _,H,I,q]
theorem Gi(hu:X.A.units+64<cLine):OpR X (compareOp .NotIn) (zi4 X.K true):=by
 intro pins s σ H x y v u Q I rx ry h;obtain⟨t,p,ts,a,b,ps,rfl,rfl,ht,hp,tl,q⟩:=h;obtain⟨as,r1⟩:=Is.reads I (Is.tup ht (.cons (.int a) (.cons (.int b) .nil)):Is X.K H (.ref t) (V8 (a,b))) rx;have r1:Reads s.heap v (toPy (V8 (a,b))) as:=r1;obtain⟨bs,r2⟩:=Is.reads I (Is.lst hp (Gh tl)) ry;rw[toPy] at r2;have hd:(toPy (V8 (a,b))).depth=1:=rfl;refine SeqAt.notIn_list_reads r2 r1 (L6 ps) rfl ?_ ?_
 ·have:=Nat.min_le_right (PyData.depthAll (X9 (ps.map V8))) (toPy (V8 (a,b))).depth;rw[hd] at this ⊢;omega
 ·rw[L7];exact#[I,.bl _,H,I,q]
theorem C6(hK:X.K=K)(hu:X.A.units+64<cLine):OpR X (compareOp .In) (zi4 K false):=hK▸zam hu
theorem Ji(hK:X.K=K)(hu:X.A.units+64<cLine):OpR X (compareOp .NotIn) (zi4 K true):=hK▸Gi hu
end
end L2
namespace G
open PySem PySem.Spec PyProof.Rows L2
def Ot(P:Pg)(x m:P3):#[B]:=whyS (P.over.map Yj) x.1 x.2.1 x.2.2 m.1 m.2.1 m.2.2 #[j,((P.over.length:Int)+1,x.1)∈P.out] P.rest
inductive zan(K:Frag)(vs:#[a])(H:Hp)(Q:VK)(_:XK):Prop where
 | mk(ok:Addr->Prop)(d m t1 t2:Addr)(P:Pg)(kvs:List (List Key×V))(x y:P3)(_:vs=[.ref d,.ref m,.ref t1,.ref t2])(_:PgAt ok H d P)(_:H m=#[c,.dT,kvs])(_:zhg kvs P)(_:H t1=some (.tup (pV x)))(_:H t2=some (.tup (pV y)))(_:∀ l H',H' l=#[T,(Ot P x y).map,V.str]->Same H H'->H l=none->Q (.ref l) H')
def Pn(P:Pg)(ms:List P3):#[E]:=ms.map fun m=>(P.ppl.filter fun x=>(Ot P x m).isEmpty).map (·.1)
theorem ze1(h1:P.ppl=S.ppl)(h2:P.over.map Yj=S.led)(h3:P.out=S.out)(h4:P.rest=S.rest)(h5:((P.over.length:Int)+1)=atV S)(ms:List P3):Pn P ms=mayS S ms:=by
 unfold Pn mayS;refine zya fun m _=>?_;unfold F5 Ot pIn;rw[h1,h2,h3,h4,h5]
inductive zhi(K:Frag)(vs:#[a])(H:Hp)(Q:VK)(_:XK):Prop where
 | mk(ok:Addr->Prop)(d:Addr)(P:Pg)(ms:List P3)(_:vs=[.ref d])(_:PgAt ok H d P)(_:Gg P)(_:P.lis=some ms)(_:ms.length<=100)(_:P.ppl.length<=100)(_:∀ l ls H',H' l=#[T,ls.map,V.ref]->ILs H' ls (Pn P ms)->#[q]->H l=none->(∀ x∈ls,H x=none)->#[M,l])
theorem C7(r:#[B])(ok:∀ w∈r,PyData.strOk w=true):shD (.lst (r.map Dt.str)):=by
 have h:PyData.canLayAll0 (X9 (r.map Dt.str))=true/\PyData.depthAll (X9 (r.map Dt.str))<=1:=by
  induction r with
  | nil=>exact⟨rfl,by decide⟩
  | cons x r ih =>
    obtain⟨h1,h2⟩:=ih fun w hw=>ok w (zxa _ hw);have h0:=ok x (zxl);refine⟨?_,?_⟩
    ·rw[zw3,X9,PyData.canLayAll0,h1];simp[toPy,PyData.canLay0,h0]
    ·rw[zw3,X9,PyData.depthAll];have:PyData.depth (toPy (Dt.str x))<=1:=by simp[toPy,PyData.depth]
     omega
 unfold shD SeqAt.shaped;rw[toPy,PyData.canLay0,h.1,Bool.true_and];refine zwy ?_;rw[PyData.depth];have:=h.2;omega
theorem Qd{K:Frag}{H:Hp}:∀ ws:#[B],Rt K H (ws.map V.str) (ws.map Dt.str)
 | []=>.nil
 | w :: ws=>.cons (.str w) (Qd ws)
theorem zk6(h:x∈bw b w):x=w:=by
 cases b<;>simp[bw] at h;exact h
theorem zi5{Rs:#[ae]}{n g c h gu d:Int}{o:Bool}{rest:Int}:∀ w∈whyS Rs n g c h gu d o rest,PyData.strOk w=true:=fun w hw=>by
 unfold whyS at hw;simp only[zw2] at hw;rcases hw with z|z|z|z<;>rw[zk6 z]<;>decide +kernel
def Xl(H H':Hp):Prop:=(∀ x ys,H x=some (.lst ys)->H' x=some (.lst ys))/\∀ x ys,H x=#[A,ys]->H' x=#[A,ys]
theorem Xl.dict(h:H d=#[c,.dK,kvs]):Xl H (upd H d (.dK kvs')) :=
 ⟨fun x ys e=>by rw[Zi (Yz e h (by intro z;cases z))];exact e,fun x ys e=>by rw[Zi (Yz e h (by intro z;cases z))];exact e⟩
theorem Xl.trans(a:Xl H H')(b:Xl H' H''):Xl H H'':=⟨fun x ys e=>#[N,b.1,a.1,e],fun x ys e=>#[N,b.2,a.2,e]⟩
theorem Xl.of(e:#[q]):Xl H H':=⟨fun x ys z=>e _ _ z,fun x ys z=>e _ _ z⟩
theorem Wl.keepL(k:Xl H H'):∀ {ts:List V} {G:zk5},Wl ok H ts G->Wl ok H' ts G
 | _,_,.nil=>.nil
 | _,_,.cons h hl tl o r=>.cons (k.2 _ _ h) (k.1 _ _ hl) (tl.mono k.2) o (Wl.keepL k r)
theorem ILs.keepL(k:Xl H H'):∀ {ls:List Addr} {R:List (List Int)},ILs H ls R->ILs H' ls R
 | _,_,.nil=>.nil
 | _,_,.cons h n=>.cons (k.1 _ _ h) (ILs.keepL k n)
theorem Mo.keepL(k:Xl H H')(h:Mo ok H v x):Mo ok H' v x:=by
 cases x with
 | none=>exact h
 | some ms=>obtain⟨l,ts,e,a,b,o⟩:=h;exact⟨l,ts,e,k.1 _ _ a,b.mono k.2,o⟩
theorem Xh.keepL(k:Xl H H'):∀ {vs:List V} {ss:List Z2},Xh ok H vs ss->Xh ok H' vs ss
 | _,_,.nil=>.nil
 | _,_,.cons h hl tl hg hm gm hy iy o r=>.cons (k.2 _ _ h) (k.1 _ _ hl) (tl.mono k.2) (k.1 _ _ hg) (k.1 _ _ hm) (gm.keepL k) (k.1 _ _ hy) (ILs.keepL k iy) o (Xh.keepL k r)
structure PgB(ok:Addr->Prop)(H:Hp)(P:Pg)(lp lo lv:Addr)(dv li:V)(lg lm:Addr):Prop where
 pp:∃ pts,H lp=#[w,pts]/\Yf H pts (P.ppl.map pV)/\ok lp
 oo:∃ ots,H lo=#[w,ots]/\Yf H ots (P.out.map oiV)/\ok lo
 vv:∃ vts,H lv=#[w,vts]/\Xh ok H vts P.over/\ok lv
 dd:zak H dv P.deed
 li:Mo ok H li P.lis
 gg:H lg=#[w,P.gv]/\ok lg
 mm:∃ mts,H lm=#[w,mts]/\Wl ok H mts P.mv/\ok lm
theorem PgB.keepL{ok:Addr->Prop}{H H':Hp}{P:Pg}{lp lo lv:Addr}{dv li:V}{lg lm:Addr}(h:PgB ok H P lp lo lv dv li lg lm)(k:Xl H H'):PgB ok H' P lp lo lv dv li lg lm:=by
 obtain⟨⟨p1,p2,p3,p4⟩,⟨o1,o2,o3,o4⟩,⟨v1,v2,v3,v4⟩,dd,li,⟨g1,g2⟩,m1,m2,m3,m4⟩:=h;exact⟨⟨p1,k.1 _ _ p2,p3.mono k.2,p4⟩,⟨o1,k.1 _ _ o2,o3.mono k.2,o4⟩,⟨v1,k.1 _ _ v2,v3.keepL k,v4⟩,dd.keep k.2,li.keepL k,⟨k.1 _ _ g1,g2⟩,m1,k.1 _ _ m2,m3.keepL k,m4⟩
theorem PgB.imp{ok ok':Addr->Prop}{H:Hp}{P:Pg}{lp lo lv:Addr}{dv li:V}{lg lm:Addr}(h:PgB ok H P lp lo lv dv li lg lm)(k:#[ay]):PgB ok' H P lp lo lv dv li lg lm:=by
 obtain⟨⟨p1,p2,p3,p4⟩,⟨o1,o2,o3,o4⟩,⟨v1,v2,v3,v4⟩,dd,li,⟨g1,g2⟩,m1,m2,m3,m4⟩:=h;exact⟨⟨p1,p2,p3,k _ ⟨_,p2⟩ p4⟩,⟨o1,o2,o3,k _ ⟨_,o2⟩ o4⟩,⟨v1,v2,v3.imp k,k _ ⟨_,v2⟩ v4⟩,dd,li.imp k,⟨g1,k _ ⟨_,g1⟩ g2⟩,m1,m2,m3.imp k,k _ ⟨_,m2⟩ m4⟩
theorem PgAt.split(h:PgAt ok H d P):∃ lp lo lv dv li lg lm,H d=#[c,.dK,pgF P.len P.rest lp lo lv dv li lg lm]/\PgB ok H P lp lo lv dv li lg lm/\ok d:=by
 obtain⟨lp,lo,lv,dv,li,lg,lm,pts,ots,vts,mts,a1,a2,a3,a4,a5,a6,a7,a8,a9,b1,b2,b3,o1,o2,o3,o4,o5,o6⟩:=h;exact⟨lp,lo,lv,dv,li,lg,lm,a1,⟨⟨_,a2,a3,o2⟩,⟨_,a4,a5,o3⟩,⟨_,a6,a7,o4⟩,a8,a9,⟨b1,o5⟩,_,b2,b3,o6⟩,o1⟩
theorem PgAt.join{ok:Addr->Prop}{H:Hp}{d:Addr}{P:Pg}{lp lo lv:Addr}{dv li:V}{lg lm:Addr}(hd:H d=#[c,.dK,pgF P.len P.rest lp lo lv dv li lg lm])(h:PgB ok H P lp lo lv dv li lg lm)(o:ok d):PgAt ok H d P:=by
 obtain⟨⟨p1,p2,p3,p4⟩,⟨o1,o2,o3,o4⟩,⟨v1,v2,v3,v4⟩,dd,li',⟨g1,g2⟩,m1,m2,m3,m4⟩:=h;exact⟨lp,lo,lv,dv,li,lg,lm,p1,o1,v1,m1,hd,p2,p3,o2,o3,v2,v3,dd,li',g1,m2,m3,o,p4,o4,v4,g2,m4⟩
theorem PgAt.other(h:PgAt ok H d P)(n:d≠e)(he:H e=#[c,.dK,kvs]):PgAt ok (upd H e (.dK kvs')) d P:=by
 obtain⟨lp,lo,lv,dv,li,lg,lm,a1,a2,a3⟩:=h.split;exact .join (by rw[Zi n];exact a1) (a2.keepL (.dict he)) a3
theorem PgAt.setGoes(h:PgAt ok H d P)(hl:#[y,H,l,xs])(ol:ok l):∃ kvs,H d=#[c,.dK,kvs]/\kvs.length<sizeLine/\PgAt ok (upd H d (.dK (putK kvs (.inr "goes") (.ref l)))) d { P with gv:=xs }:=by
 obtain⟨lp,lo,lv,dv,li,lg,lm,a1,a2,a3⟩:=h.split;refine⟨_,a1,zhf,?_⟩;rw[zal];have b:=a2.keepL (.dict a1 (kvs':=pgF P.len P.rest lp lo lv dv li l lm));exact .join (P:={ P with gv:=xs }) Zc ⟨b.pp,b.oo,b.vv,b.dd,b.li,⟨(Xl.dict a1).1 _ _ hl,ol⟩,b.mm⟩ a3
def Ui(P:Pg):Wj->Pg
 | .enrol n g c=>{ P with ppl:=P.ppl++[(n,g,c)],deed:=some ("enrol",n,(P.over.length:Int)+1) }
 | .away i n=>{ P with out:=P.out++[(i,n)],deed:=some ("away",n,i) }
 | .draw ms=>{ P with lis:=some ms,deed:=some ("draw up",(ms.length:Int),(P.over.length:Int)+1) }
 | .close=>{ P with over:=P.over++[⟨P.lis.getD [],Pn P (P.lis.getD []),P.gv,P.mv⟩],lis:=none,gv:=[],mv:=[] }
 | .back=>P
def zb1(ds:#[z])(d d':Addr):Wj->#[z]
 | .back=>ds
 | .close=>[d']
 | _=>ds++[d]++[d']
inductive C8(K:Frag)(vs:#[a])(H:Hp)(Q:VK)(_:XK):Prop where
 | mk(ok:Addr->Prop)(l t:Addr)(ds:#[z])(d:Addr)(P:Pg)(D:Wj)(_:vs=[.ref l,.ref t])(_:H l=some (.lst ((ds++[d]).map V.ref)))(_:PgAt ok H d P)(_:Uh ok H t D)(_:Gg P)(_:P.ppl.length<=100)(_:P.out.length<=900)(_:ds.length<=900)(_:(D=.close->∃ ms,P.lis=some ms/\ms.length<=100))(_:∀ l' d' H',H' l'=#[T,(zb1 ds d d' D).map,V.ref]->(D≠.back->PgAt (fun x=>ok x\/H x=none) H' d' (Ui P D))->#[q]->H l'=none->H d'=none->#[M,l'])
theorem zhj(xs:#[a])(x:V):Fo (xs++[x]) none (some (-1))=xs:=by
 unfold Fo HT.sIx;simp;rw[show (-1+((xs.length:Int)+1)).toNat=xs.length by omega,List.take_left]
def zb2(ms:List P3):Prop:=(∀ m∈ms,¬ badM m)/\∀ m∈ms,m.1≠m.2.1
inductive K5(K:Frag)(vs:#[a])(H:Hp)(Q:VK)(_:XK):Prop where
 | mk(b:Addr)(ns:#[p])(cell:Int)(most mixed:Nat)(_:vs=[.int cell,.ref b,.int most,.int mixed])(_:H b=some (.lst (ns.map V.int)))(_:2<=ns.length)(_:ns.length<=100)(_:ns.Nodup)(_:(∀ n∈ns,1<=n/\n<=99))(_:most<=20)(_:mixed<=1)(_:∀ l ts ms H',H' l=#[w,ts]->Yf H' ts (ms.map pV)->ms.length<=most->zb2 ms->#[q]->H l=none->#[M,l])
def enV(x:P3):#[a]:=[.str "enrol",.int x.1,.int x.2.1,.int x.2.2]
inductive Gj(K:Frag)(vs:#[a])(H:Hp)(Q:VK)(_:XK):Prop where
 | mk(b t lc ln:Addr)(ns cs nu:#[p])(_:vs=[.ref b,.ref t])(_:SqL K H b (ns.map V.int))(_:Nl H t lc ln cs nu)(_:∀ l ts (es:List P3) H',H' l=#[w,ts]->Yf H' ts (es.map enV)->es.map (·.1)=nu.take es.length->es.length<=nu.length->(∀ x∈es,1<=x.2.1/\x.2.1<=9/\x.2.2∈cs)->#[q]->H l=none->#[M,l])
def zhk(P:Pg)(ds:#[z])(cs nu:#[p])(most:Nat):Wj->Prop
 | .enrol n g c=>P.lis=none/\n∈nu/\n∉P.ppl.map (·.1)/\1<=g/\g<=9/\c∈cs
 | .away i n=>(P.over.length:Int)<i/\i<=P.len/\n∈P.ppl.map (·.1)/\(i,n)∉P.out
 | .draw ms=>P.lis=none/\ms.length<=most/\zb2 ms
 | .close=>P.lis≠none
 | .back=>ds≠[]
inductive zao(K:Frag)(vs:#[a])(H:Hp)(Q:VK)(_:XK):Prop where
 | mk(ok:Addr->Prop)(l t lc ln:Addr)(ds:#[z])(d:Addr)(P:Pg)(cell:Int)(cs nu:#[p])(most mixed:Nat)(_:vs=[.ref l,.int cell,.ref t,.int most,.int mixed])(_:H l=some (.lst ((ds++[d]).map V.ref)))(_:PgAt ok H d P)(_:Nl H t lc ln cs nu)(_:most<=20)(_:mixed<=1)(_:P.over.length<P.len)(_:P.ppl.length<=100)(_:∀ t' D H',Uh (fun x=>H x=none) H' t' D->zhk P ds cs nu most D->#[q]->H t'=none->#[M,t'])
theorem D5(h1:Gr t σ H b)(h2:∀ H1,Same H H1->Gr u σ H1 c):Gr (zh1 t u) σ H (b&&c):=fun Q h=>by
 refine h1 _ fun H1 s1=>?_;cases b with
 | true=>exact h2 H1 s1 _ fun H2 s2=>h H2 (s1.trans s2)
 | false=>exact h H1 s1
theorem K6{K:Frag}{H:Hp}:∀ ns:#[p],Rt K H (ns.map V.int) (ns.map Dt.int)
 | []=>.nil
 | w :: ws=>.cons (.int w) (K6 ws)
theorem K7{K:Frag}{σ:L2.St}{H:Hp}{i:Nat}{l:Addr}{ns:#[p]}(hv:σ[i]?=some #[b,l])(hl:H l=some (.lst (ns.map V.int))):Gr (Ma (tOp (zgj K true) (tVar i) (tLst tNil))) σ H (!ns.isEmpty):=fun Q q=>by
 refine⟨_,hv,zxk _,fun le hle=>?_⟩;have s:=Ze (o:=.lst []) hle;refine⟨_,_,.lst (SqL.of (s _ _ hl)) (K6 _),.lst (SqL.of Zc) .nil,zc6 _,zc7,_,rfl,?_⟩;rw[#[l,rfl],zc8];exact q _ s
theorem Mo.some(h:Mo ok H v x):(!#[j,v=V.non])=x.isSome:=by
 cases x with
 | none=>cases (show v=V.non from h);rfl
 | some ms=>obtain⟨l,ts,rfl,_⟩:=h;rfl
theorem zhl{h y n:Int}(h0:0<=h)(h1:h<n)(y0:1<=y)(y1:y<=n-1):0<=(h+y)%n/\(h+y)%n<n/\(h+y)%n≠h:=by
 have hn:0<n:=by omega
 refine⟨zxw _ ⋯,zxn _ hn,?_⟩;by_cases c:h+y<n
 ·rw[Int.emod_eq_of_lt ⋯ c];omega
 ·have e:(h+y)%n=h+y-n:=by
   rw[<- Int.sub_emod_right,Int.emod_eq_of_lt ⋯ ⋯]
  omega
theorem at2(x y:Int){k:Nat}(h:k<=1):∃ z,atI [V.int x,V.int y] (k:Int)=#[f,z]:=by
 match k,h with
 | 0,_=>exact#[C,x]
 | 1,_=>exact#[C,y]
def C9:#[p]:=[1,2,3,4,5,6,7,8,9,1,1,1,1,2,2,3,3,4]
theorem zb3:∀ k,k<18->1<=C9.getD k 0/\C9.getD k 0<=9:=by decide
def Ba:#[p]:=[1,2,3,4,5,6,7,8,9,9,9,9,9,8,8,7,6,5]
theorem zb4:∀ k,k<18->1<=Ba.getD k 0/\Ba.getD k 0<=9:=by decide
theorem Bb{ns:#[p]}{i:Nat}(hi:i<ns.length):ns.getD i 0=ns[i]:=by
 rw[zxi,zws hi];rfl
theorem zhm{ns:#[p]}(nd:ns.Nodup){i j:Nat}(hi:i<ns.length)(hj:j<ns.length)(h:ns.getD i 0=ns.getD j 0):i=j:=by
 rw[Bb hi,Bb hj] at h;exact(List.getElem_inj nd).mp h
theorem Th{ns:#[p]}{i:Nat}(hi:i<ns.length):ns.getD i 0∈ns:=by
 rw[Bb hi];exact zxp hi
def Rw(mb:Bool)(s:Z2):Z2:=if mb then s else { s with gaps:=[] }
theorem zi6(h:Rw mb s=Rw mb s'):s.ms=s'.ms/\s.may=s'.may/\s.gv=s'.gv/\(mb=true->s=s'):=by
 unfold Rw at h;cases mb with
 | true=>simp at h;subst h;exact⟨rfl,rfl,rfl,fun _=>rfl⟩
 | false=>simp at h;exact⟨h.1,h.2.1,h.2.2,fun z=>nomatch z⟩
theorem ze2(mb:Bool)(s:Z2):Yj (Rw mb s)=Yj s:=by
 unfold Rw;cases mb<;>rfl
structure RelB(mb:Bool)(P:Pg)(S:Sea):Prop where
 len:P.len=S.len
 rest:P.rest=S.rest
 ppl:P.ppl=S.ppl
 out:P.out=S.out
 over:P.over.map (Rw mb)=S.old.map (Rw mb)
 lis:P.lis=S.cur.map (·.ms)
def K8(S:Sea):zk5:=match S.cur with|some s=>s.gaps|none=>[]
theorem zb5(h:S.cur=some s):K8 S=s.gaps:=by unfold K8;rw[h]
theorem Nn(h:S.cur=none):K8 S=[]:=by unfold K8;rw[h]
structure Rel(mb:Bool)(P:Pg)(S:Sea):Prop where
 b:RelB mb P S
 gv:∀ s,S.cur=some s->P.gv=s.gv
 mv:mb=true->P.mv=K8 S
structure SOk(nu:#[p])(n:Nat)(S:Sea):Prop where
 cur:zhc S
 nd:(S.ppl.map (·.1)).Nodup
 ppl:∀ x∈S.ppl,x.1∈nu/\¬ badI x.1 x.2.1 x.2.2
 few:S.ppl.length<=30
 led:S.led=S.old.map Yj
 old:∀ s∈S.old,s.ms.length<=20/\s.gv.length=s.ms.length/\∀ x∈s.gv,oneV x
 len:S.led.length<=S.len/\S.len<=60/\S.rest<=10
 lt:S.cur≠none->S.led.length<S.len
 num:S.out.length<=n/\S.std.length<=n
 gp:∀ s,S.cur=some s\/s∈S.old->s.gaps.length<=n/\∀ x∈s.gaps,x.2.length<=100
theorem SOk.mono(h:SOk nu n S)(e:n<=m):SOk nu m S:=⟨h.cur,h.nd,h.ppl,h.few,h.led,h.old,h.len,h.lt,⟨zw6 h.num.1 e,zw6 h.num.2 e⟩,fun s hs=>⟨zw6 (h.gp s hs).1 e,(h.gp s hs).2⟩⟩
theorem SOk.pok(h:SOk nu n S):Pm S:=⟨fun x hx=>(h.ppl x hx).2,h.few⟩
theorem SOk.olen(h:SOk nu n S):S.old.length=S.led.length:=by rw[h.led,zwq]
theorem zhn:∀ (Rs:List (List Row)),(∀ rs∈Rs,rs.length<=k)->tot Rs<=k*Rs.length
 | [],_=>by simp[tot]
 | rs :: Rs,h=>by
   have h1:=h rs (zxl);have h2:=zhn Rs fun x hx=>h x (zxa _ hx);unfold tot at *;simp only[zw3,List.sum_cons,zxb,Nat.mul_succ];omega
theorem SOk.tot(h:SOk nu n S):G.tot S.led<=1200:=by
 have h1:=zhn (k:=20) S.led fun rs hrs=>by
  rw[h.led] at hrs;obtain⟨s,hs,rfl⟩:=zw0.mp hrs;have:=h.old s hs;unfold Yj;rw[List.length_zipWith];omega
 have:=h.len;omega
theorem RelB.rows(r:RelB mb P S):P.over.map Yj=S.old.map Yj:=by
 have e:∀ l:List Z2,l.map Yj=(l.map (Rw mb)).map Yj:=fun l=>by
  rw[zx1];exact zya fun s _=>(ze2 mb s).symm
 rw[e,r.over,<- e]
theorem RelB.olen(r:RelB mb P S):P.over.length=S.old.length:=by
 have:=congrArg List.length r.over
 simpa using this
theorem RelB.ovok(r:RelB mb P S)(o:SOk nu n S):Gg P:=by
 have h1:=r.olen;have h2:=o.olen;have h3:=o.len;refine⟨by omega,by rw[r.rest];omega,fun s hs=>?_⟩;have:Rw mb s∈S.old.map (Rw mb):=by rw[<- r.over];exact zw0.mpr ⟨s,hs,rfl⟩
 obtain⟨s',hs',e⟩:=zw0.mp this;obtain⟨e1,e2,e3,_⟩:=zi6 e;rw[<- e1,<- e3];exact o.old s' hs'
theorem RelB.may(r:RelB mb P S)(o:SOk nu n S)(ms:List P3):Pn P ms=mayS S ms :=
 ze1 r.ppl (by rw[r.rows,o.led]) r.out r.rest (by unfold atV;rw[r.olen,o.olen]) ms
theorem RelB.at(r:RelB mb P S)(o:SOk nu n S):(P.over.length:Int)+1=atV S:=by unfold atV;rw[r.olen,o.olen]
theorem RelB.undrawn(r:RelB mb P S)(h:P.lis=none):S.cur=none:=by
 have:=r.lis;rw[h] at this;cases e:S.cur with
 | none=>rfl
 | some s=>rw[e] at this;cases this
theorem RelB.drawn(r:RelB mb P S)(h:P.lis=some ms):∃ s,S.cur=some s/\s.ms=ms:=by
 have:=r.lis;rw[h] at this;cases e:S.cur with
 | none=>rw[e] at this;cases this
 | some s=>rw[e] at this;exact#[t,s,(Option.some.inj this).symm]
theorem Bc{l m:#[p]}(nd:l.Nodup)(h:∀ x∈l,x∈m):l.length<=m.length:=by
 induction l generalizing m with
 | nil=>exact zxk _
 | cons x l ih =>
   have hx:=h x (zxl);obtain⟨h1,h2⟩:=zxh.mp nd;have:=ih (m:=m.erase x) h2 fun y hy=>(List.mem_erase_of_ne (fun z=>h1 (by rw[<- z];exact hy))).mpr (h y (zxa _ hy));rw[List.length_erase_of_mem hx] at this;have:=List.length_pos_of_mem hx;simp only[zxb];omega
theorem zi7{mb:Bool}{P:Pg}{S:Sea}{nu cs:#[p]}{n most:Nat}{ds:#[z]}{D:Wj}(r:RelB mb P S)(o:SOk nu n S)(g:zhk P ds cs nu most D)(hlt:P.over.length<P.len)(hm:most<=20)(hnu:nu.length<=30/\∀ n∈nu,1<=n/\n<=999)(hcs:∀ c∈cs,1<=c/\c<=99)(hb:ds≠[]->S.std≠[]):K3 S D:=by
 have h1:=r.olen;have h2:=o.olen;have h3:=r.len;cases D with
 | enrol k gr c =>
   obtain⟨g1,g2,g3,g4,g5,g6⟩:=g;rw[r.ppl] at g3;refine⟨by omega,r.undrawn g1,?_,g3,?_⟩
   ·have:=hnu.2 k g2;have:=hcs c g6;unfold badI;omega
   ·have:=Bc (l:=k :: S.ppl.map (·.1)) (m:=nu) (zxh.mpr ⟨g3,o.nd⟩) fun x hx=>by
     rcases zwu.mp hx with rfl|hx
     ·exact g2
     ·obtain⟨y,hy,rfl⟩:=zw0.mp hx;exact(o.ppl y hy).1
    rw[zxb,zwq] at this;omega
 | away i k =>
   obtain⟨g1,g2,g3,g4⟩:=g;rw[r.ppl] at g3;rw[r.out] at g4;exact⟨by omega,by omega,g3,g4⟩
 | draw ms =>
   obtain⟨g1,g2,g3⟩:=g;exact⟨by omega,r.undrawn g1,by omega,g3.1,g3.2⟩
 | close =>
   refine⟨by omega,fun z=>g ?_⟩;rw[r.lis,z];rfl
 | back=>exact hb g
theorem ze3(F:Yu rows gs)(hn:∀ i:Nat,gs[i]?≠#[c,V.int,n]):Yu (without rows n) gs:=by
 refine⟨by unfold without;rw[zwq];exact F.len,F.one,fun k m h=>?_,F.inj⟩;obtain⟨r,h1,h2⟩:=F.may k m h;refine⟨r.filter fun x=>#[j,x≠n],by unfold without;rw[zwx,h1];rfl,zxu.mpr ⟨h2,?_⟩⟩;refine zwy fun z=>hn k ?_;rw[h,z]
theorem zb6(T:Vs rows gs):Vs (without rows n) gs:=fun p hp=>by
 obtain⟨S,h1,h2⟩:=T p hp;refine⟨S,h1,fun q hq=>⟨by unfold without;rw[zwq];exact(h2 q hq).1,fun r hr m hm=>?_⟩⟩;unfold without at hr;rw[zwx] at hr;obtain⟨r0,e1,rfl⟩:=zyo.mp hr;exact(h2 q hq).2 r0 e1 m (zxu.mp hm).1
theorem ze4(h:atV S<i)(ms:List P3):mayS (Xt S i n) ms=mayS S ms:=by
 unfold mayS;refine zya fun m _=>?_;unfold F5;have:∀ x:P3,pIn (Xt S i n).out (atV (Xt S i n)) x=pIn S.out (atV S) x:=fun x=>by
  show #[j,(atV S,x.1)∈S.out++[(i,n)]]=#[j,(atV S,x.1)∈S.out];have:((atV S,x.1)∈S.out++[(i,n)])↔((atV S,x.1)∈S.out):=by
   simp only[zw2,zwv,Prod.mk.injEq];constructor
   ·rintro(h|⟨h,_⟩)
    ·exact h
    ·omega
   ·exact .inl
  exact decide_eq_decide.mpr this
 simp only[this];rfl
theorem zho(o:SOk nu n S)(g:K3 S D)(af:Sk H' S D S' v)(hb:D≠.back)(hn:∀ k gr c,D=.enrol k gr c->k∈nu):SOk nu (n+1) S'/\((D=.close/\S'.std=[]/\S'.cur=none)\/(D≠.close/\O0 S S')):=by
 obtain⟨n1,n2⟩:=o.num;cases af with
 | enrol k gr c =>
   obtain⟨g1,g2,g3,g4,g5⟩:=g;refine⟨⟨fun s hs=>?_,?_,fun x hx=>?_,?_,o.led,o.old,o.len,fun _=>g1,⟨?_,?_⟩,fun s hs=>⟨zyb (o.gp s hs).1,(o.gp s hs).2⟩⟩,.inr ⟨nofun,(("enrol":Str),k,atV S),rfl,.inl ⟨rfl,⟨gr,c,rfl⟩,rfl⟩,rfl,rfl,rfl,rfl⟩⟩
   ·have hs:S.cur=some s:=hs;rw[g2] at hs;cases hs
   ·show (List.map (·.1) (S.ppl++[(k,gr,c)])).Nodup;rw[zww,List.nodup_append];refine⟨o.nd,by simp,fun x hx y hy=>?_⟩;rw[zw3,List.map_nil,zwv] at hy;subst hy;rintro rfl;exact g4 hx
   ·rcases zw2.mp hx with hx|hx
    ·exact o.ppl x hx
    ·rw[zwv.mp hx];exact⟨hn k gr c rfl,g3⟩
   ·show (S.ppl++[(k,gr,c)]).length<=30;rw[zwt];show S.ppl.length+1<=30;omega
   ·show S.out.length<=n+1;omega
   ·show (S.std++[_]).length<=n+1;rw[zwt];show S.std.length+1<=n+1;omega
 | @awayN i k l h hl =>
   obtain⟨g1,g2,g3,g4⟩:=g;refine⟨⟨fun s hs=>?_,o.nd,o.ppl,o.few,o.led,o.old,o.len,o.lt,⟨?_,?_⟩,fun s hs=>⟨zyb (o.gp s hs).1,(o.gp s hs).2⟩⟩,.inr ⟨nofun,(("away":Str),k,i),rfl,.inr (.inl ⟨rfl,rfl,rfl,g4⟩),rfl,rfl,rfl,rfl⟩⟩
   ·have hs:S.cur=some s:=hs;rcases h with h|h
    ·rw[h] at hs;cases hs
    ·obtain⟨c1,c2,c3,c4,c5⟩:=o.cur s hs;refine⟨c1,c2,c3,by rw[ze4 h];exact c4,?_⟩;show s.gaps.length<=(S.std++[_]).length;rw[zwt];omega
   ·show (S.out++[_]).length<=n+1;rw[zwt];show S.out.length+1<=n+1;omega
   ·show (S.std++[_]).length<=n+1;rw[zwt];show S.std.length+1<=n+1;omega
 | @awayF k s l h hp hl =>
   obtain⟨g1,g2,g3,g4⟩:=g;obtain⟨c1,c2,c3,c4,c5⟩:=o.cur s h;refine⟨⟨fun s' hs=>?_,o.nd,o.ppl,o.few,o.led,o.old,o.len,fun _=>o.lt (by rw[h];exact nofun),⟨?_,?_⟩,fun s' hs=>?_⟩,.inr ⟨nofun,(("away":Str),k,atV S),rfl,.inr (.inl ⟨rfl,rfl,rfl,g4⟩),rfl,rfl,rfl,rfl⟩⟩
   ·have hs:some { s with may:=mayS (Xt S (atV S) k) s.ms }=some s':=hs;cases hs;have hno:∀ i:Nat,s.gv[i]?≠some (V.int k):=by
     rcases Ai s.gv k with z|⟨i,z,_⟩
     ·exact z.2
     ·rw[hp] at z;cases z
    refine#[I,c1,?_,?_,?_]
    ·show Yu (mayS (Xt S (atV S) k) s.ms) s.gv;rw[Tu,<- c4];exact ze3 c2 hno
    ·show Vs (mayS (Xt S (atV S) k) s.ms) s.gv;rw[Tu,<- c4];exact zb6 c3
    ·show s.gaps.length<=(S.std++[_]).length;rw[zwt];omega
   ·show (S.out++[_]).length<=n+1;rw[zwt];show S.out.length+1<=n+1;omega
   ·show (S.std++[_]).length<=n+1;rw[zwt];show S.std.length+1<=n+1;omega
   ·have old:=o.gp s (.inl h);rcases hs with hs|hs
    ·have hs:some { s with may:=mayS (Xt S (atV S) k) s.ms }=some s':=hs;cases hs;exact⟨zyb old.1,old.2⟩
    ·have:=o.gp s' (.inr hs);exact⟨zyb this.1,this.2⟩
 | @awayC k s p e l us st w h hp hl tl CR =>
   obtain⟨g1,g2,g3,g4⟩:=g;obtain⟨c1,c2,c3,c4,c5⟩:=o.cur s h;refine⟨⟨fun s' hs=>?_,o.nd,o.ppl,o.few,o.led,o.old,o.len,fun _=>o.lt (by rw[h];exact nofun),⟨?_,?_⟩,fun s' hs=>?_⟩,.inr ⟨nofun,(("away":Str),k,atV S),rfl,.inr (.inl ⟨rfl,rfl,rfl,g4⟩),rfl,rfl,rfl,rfl⟩⟩
   ·have hs:some (⟨s.ms,mayS (Xt S (atV S) k) s.ms,Yx st (s.gv.set p .non),s.gaps++[(k,st)]⟩:Z2)=some s':=hs;cases hs;have hx:=Nk hp;rw[Tu,<- c4] at CR;have F0:=Tc c2 hx;have hpl:p<(without s.may k).length:=by
     unfold without;rw[zwq,<- c2.len];exact(zwr.mp hx).1
    refine#[I,c1,?_,?_,?_]
    ·show Yu (mayS (Xt S (atV S) k) s.ms) _;rw[Tu,<- c4];exact CR.fill F0 hpl
    ·show Vs (mayS (Xt S (atV S) k) s.ms) _;rw[Tu,<- c4];exact Al c2 c3 hx CR
    ·show (s.gaps++[_]).length<=(S.std++[_]).length;rw[zwt,zwt];show s.gaps.length+1<=S.std.length+1;omega
   ·show (S.out++[_]).length<=n+1;rw[zwt];show S.out.length+1<=n+1;omega
   ·show (S.std++[_]).length<=n+1;rw[zwt];show S.std.length+1<=n+1;omega
   ·have old:=o.gp s (.inl h);rcases hs with hs|hs
    ·have hs:some (⟨s.ms,mayS (Xt S (atV S) k) s.ms,Yx st (s.gv.set p .non),s.gaps++[(k,st)]⟩:Z2)=some s':=hs;cases hs;have hx:=Nk hp;rw[Tu,<- c4] at CR;have hpl:p<(without s.may k).length:=by
      unfold without;rw[zwq,<- c2.len];exact(zwr.mp hx).1
     have hcl:=CR.len (Tc c2 hx) hpl;have hwl:(without s.may k).length=s.may.length:=by unfold without;rw[zwq]
     have hml:s.may.length=s.ms.length:=by rw[c4];unfold mayS;rw[zwq]
     refine⟨by show (s.gaps++[_]).length<=n+1;rw[zwt];show s.gaps.length+1<=n+1;omega,fun x hx'=>?_⟩;rcases zw2.mp hx' with z|z
     ·exact old.2 x z
     ·rw[zwv.mp z];show st.length<=100;omega
    ·have:=o.gp s' (.inr hs);exact⟨zyb this.1,this.2⟩
 | @draw ms gv l hl F T =>
   obtain⟨g1,g2,g3,g4,g5⟩:=g;refine⟨⟨fun s' hs=>?_,o.nd,o.ppl,o.few,o.led,o.old,o.len,fun _=>g1,⟨?_,?_⟩,fun s' hs=>?_⟩,.inr ⟨nofun,(("draw up":Str),(ms.length:Int),atV S),rfl,.inr (.inr #[t,rfl,rfl]),rfl,rfl,rfl,rfl⟩⟩
   ·have hs:some (⟨ms,mayS S ms,gv,[]⟩:Z2)=some s':=hs;cases hs;exact#[I,g3,F,T,zxk _]
   ·show S.out.length<=n+1;omega
   ·show (S.std++[_]).length<=n+1;rw[zwt];show S.std.length+1<=n+1;omega
   ·rcases hs with hs|hs
    ·have hs:some (⟨ms,mayS S ms,gv,[]⟩:Z2)=some s':=hs;cases hs;exact⟨zxk _,nofun⟩
    ·have:=o.gp s' (.inr hs);exact⟨zyb this.1,this.2⟩
 | @close s h =>
   obtain⟨g1,g2⟩:=g;obtain⟨c1,c2,c3,c4,c5⟩:=o.cur s h;refine⟨⟨fun s' hs=>(by cases hs),o.nd,o.ppl,o.few,?_,fun x hx=>?_,⟨?_,o.len.2⟩,fun z=>absurd rfl z,⟨?_,zxk _⟩,fun s' hs=>?_⟩,.inl ⟨rfl,rfl,rfl⟩⟩
   ·show S.led++[Yj s]=List.map Yj (S.old++[s]);rw[zww,o.led];rfl
   ·rcases zw2.mp hx with hx|hx
    ·exact o.old x hx
    ·rw[zwv.mp hx];refine⟨c1,?_,c2.one⟩;rw[c2.len,c4];unfold mayS;rw[zwq]
   ·show (S.led++[_]).length<=S.len;rw[zwt];exact g1
   ·show S.out.length<=n+1;omega
   ·rcases hs with hs|hs
    ·cases hs
    ·have hs:s'∈S.old++[s]:=hs;rcases zw2.mp hs with z|z
     ·have:=o.gp s' (.inr z);exact⟨zyb this.1,this.2⟩
     ·rw[zwv.mp z];have:=o.gp s (.inl h);exact⟨zyb this.1,this.2⟩
 | back h ht hs=>exact absurd rfl hb
theorem ze5(r:Rel mb P S)(o:SOk nu n S)(g:K3 S D)(af:Sk H' S D S' v)(hb:D≠.back):RelB mb (Ui P D) S':=by
 obtain⟨⟨r1,r2,r3,r4,r5,r6⟩,rg,rm⟩:=id r;cases af with
 | enrol k gr c=>exact⟨r1,r2,by show P.ppl++_=S.ppl++_;rw[r3],r4,r5,r6⟩
 | @awayN i k l h hl=>exact⟨r1,r2,r3,by show P.out++_=S.out++_;rw[r4],r5,r6⟩
 | @awayF k s l h hp hl=>exact⟨r1,r2,r3,by show P.out++_=S.out++_;rw[r4],r5,by show P.lis=_;rw[r6,h];rfl⟩
 | @awayC k s p e l us st w h hp hl tl CR=>exact⟨r1,r2,r3,by show P.out++_=S.out++_;rw[r4],r5,by show P.lis=_;rw[r6,h];rfl⟩
 | @draw ms gv l hl F T=>exact⟨r1,r2,r3,r4,r5,rfl⟩
 | @close s h =>
   have hl:P.lis=some s.ms:=by rw[r6,h];rfl
   refine⟨r1,r2,r3,r4,?_,rfl⟩;show List.map (Rw mb) (P.over++[⟨P.lis.getD [],Pn P (P.lis.getD []),P.gv,P.mv⟩])=List.map (Rw mb) (S.old++[s]);rw[zww,zww,r5,hl]
   congr 1
   have e1:=(o.cur s h).2.2.2.1;have e2:=r.b.may o s.ms;have e3:=rg s h;unfold Rw;cases mb with
   | true =>
     have e4:P.mv=s.gaps:=by rw[rm rfl,zb5 h]
     show [(⟨s.ms,Pn P s.ms,P.gv,P.mv⟩:Z2)]=[s];rw[e2,e3,e4,<- e1]
   | false =>
     show [(⟨s.ms,Pn P s.ms,P.gv,[]⟩:Z2)]=[(⟨s.ms,s.may,s.gv,[]⟩:Z2)];rw[e2,e3,<- e1]
 | back h ht hs=>exact absurd rfl hb
theorem ze6(h1:O0 S1 S)(h2:O0 S2 S):S1=S2:=by
 obtain⟨d1,a1,a2,a3,a4,a5,a6⟩:=h1;obtain⟨d2,b1,b2,b3,b4,b5,b6⟩:=h2;have e:=a1.symm.trans b1;obtain⟨e1,e2⟩:=List.append_inj' e rfl;have e3:=List.cons.inj e2;obtain⟨e4,e5⟩:=Prod.mk.inj e3.1;subst e4;have w1:("enrol":Str)≠"away":=by decide +kernel
 have w2:("enrol":Str)≠"draw up":=by decide +kernel
 have w3:("away":Str)≠"draw up":=by decide +kernel
 have e6:S1.ppl=S2.ppl/\S1.out=S2.out:=by
  rcases a2 with ⟨x1,⟨g,c,x2⟩,x3⟩|⟨x1,x2,x3,_⟩|⟨x1,x2,x3⟩<;>rcases b2 with ⟨y1,⟨g',c',y2⟩,y3⟩|⟨y1,y2,y3,_⟩|⟨y1,y2,y3⟩
  ·exact⟨(List.append_inj' (x2.symm.trans y2) rfl).1,x3.trans y3.symm⟩
  ·exact absurd (x1.symm.trans y1) w1
  ·exact absurd (x1.symm.trans y1) w2
  ·exact absurd (y1.symm.trans x1) w1
  ·exact⟨x2.trans y2.symm,(List.append_inj' (x3.symm.trans y3) rfl).1⟩
  ·exact absurd (x1.symm.trans y1) w3
  ·exact absurd (y1.symm.trans x1) w2
  ·exact absurd (y1.symm.trans x1) w3
  ·exact⟨x2.trans y2.symm,x3.trans y3.symm⟩
 obtain⟨l1,q1,p1,d1',o1,ol1,c1,s1⟩:=S1;obtain⟨l2,q2,p2,d2',o2,ol2,c2,s2⟩:=S2;simp only at *;obtain⟨e7,e8⟩:=e6;subst e1 e5 e7 e8;rw[<- a3,<- b3,<- a4,<- b4,<- a5,<- b5,<- a6,<- b6]
structure FrN(A A':SAd)(H H':Hp):Prop where
 p:A'.p=A.p
 k:∀ b o,H b=#[d]->b∉A.fp->H' b=#[d]/\b∉A'.fp
 kt:#[am]
theorem FrN.refl(A:SAd)(H:Hp):FrN A A H H:=⟨rfl,fun b o e n=>⟨e,n⟩,fun _ _ e=>e⟩
theorem FrN.of(e:#[q]):FrN A A H H':=⟨rfl,fun b o z n=>⟨e _ _ z,n⟩,fun _ _ z=>e _ _ z⟩
theorem FrN.trans(h1:FrN A A1 H H1)(h2:FrN A1 A2 H1 H2):FrN A A2 H H2:=⟨h2.p.trans h1.p,fun b o e n=>by
 obtain⟨a1,a2⟩:=h1.k b o e n;exact h2.k b o a1 a2,fun t xs e=>#[N,h2.kt,h1.kt,e]⟩
theorem Gb.out(nx:Gb A A' H)(e:H b=some o)(n:b∉A.fp):b∉A'.fp:=by
 obtain⟨x,rfl,hx⟩:=nx;simp only[SAd.fp,zwu,zxm,or_false] at n ⊢;rcases hx with rfl|hx
 ·exact n
 ·have:b≠x:=Zh e hx;rintro(z|z|z|z|z|z|z)
  ·exact n (.inl z)
  ·exact n (.inr (.inl z))
  ·exact n (.inr (.inr (.inl z)))
  ·exact n (.inr (.inr (.inr (.inl z))))
  ·exact n (.inr (.inr (.inr (.inr (.inl z)))))
  ·exact n (.inr (.inr (.inr (.inr (.inr (.inl z))))))
  ·exact this z
theorem FrN.next(SA:#[K])(nx:Gb A A' H)(f:FrS A H H'):FrN A A' H H':=⟨by obtain⟨x,rfl,_⟩:=nx;rfl,fun b o e n=>⟨f b o e n,nx.out e n⟩,SA.tups f⟩
def Tz(K:Frag)(A:SAd)(H:Hp)(b:Addr)(xs:#[a]):Prop:=(Rd H b (.lst xs)/\b∉A.fp)\/∀ H',SqL K H' b xs
theorem Tz.sq{K:Frag}{A:SAd}{H:Hp}{b:Addr}{xs:#[a]}(h:Tz K A H b xs):SqL K H b xs:=by
 rcases h with h|h
 ·exact .inl h.1
 ·exact h H
theorem Tz.fr{K:Frag}{A A':SAd}{H H':Hp}{b:Addr}{xs:#[a]}(f:FrN A A' H H')(h:Tz K A H b xs):Tz K A' H' b xs:=by
 rcases h with ⟨h,n⟩|h
 ·rcases h with h|⟨o,h⟩
  ·exact .inl ⟨.inl (f.k _ _ h n).1,(f.k _ _ h n).2⟩
  ·exact .inl ⟨.inr ⟨o,(f.k _ _ h n).1⟩,(f.k _ _ h n).2⟩
 ·exact .inr h
theorem Tz.make{K:Frag}{H:Hp}{b:Addr}{xs:#[a]}(h:SqL K H b xs)(A:SAd)(H':Hp)(s:#[q])(hf:∀ x∈A.fp,H x=none):Tz K A H' b xs:=by
 rcases h with h|h
 ·have hn:b∉A.fp:=fun z=>by
   have:=hf b z;rcases h with h|⟨o,h⟩<;>(rw[this] at h;cases h)
  rcases h with h|⟨o,h⟩
  ·exact .inl ⟨.inl (s _ _ h),hn⟩
  ·exact .inl ⟨.inr ⟨o,s _ _ h⟩,hn⟩
 ·exact .inr fun _=>.inr h
structure Po(A:SAd)(H:Hp)(t lc ln:Addr)(cs nu:#[p]):Prop where
 at_:Nl H t lc ln cs nu
 o:t∉A.fp/\lc∉A.fp/\ln∉A.fp
theorem Po.fr{A A':SAd}{H H':Hp}{t lc ln:Addr}{cs nu:#[p]}(f:FrN A A' H H')(h:Po A H t lc ln cs nu):Po A' H' t lc ln cs nu:=by
 obtain⟨⟨a1,a2,a3,a4,a5,a6,a7,a8,a9⟩,o1,o2,o3⟩:=h;exact⟨⟨(f.k _ _ a1 o1).1,(f.k _ _ a2 o2).1,(f.k _ _ a3 o3).1,a4,a5,a6,a7,a8,a9⟩,(f.k _ _ a1 o1).2,(f.k _ _ a2 o2).2,(f.k _ _ a3 o3).2⟩
inductive Bk(mb:Bool)(ok:Addr->Prop)(H:Hp)(nu:#[p])(n:Nat):#[z]->Sea->Prop where
 | one {d:Addr} {P:Pg} {S:Sea} (h:PgAt ok H d P) (r:Rel mb P S) (o:SOk nu n S) (e:S.std=[]):Bk mb ok H nu n [d] S
 | snoc {ds:#[z]} {d:Addr} {P:Pg} {S S':Sea} (b:Bk mb ok H nu n ds S) (nd:d∉ds) (h:PgAt ok H d P) (r:Rel mb P S') (o:SOk nu n S') (st:O0 S S') (hd:∃ x,P.deed=some x/\S'.std=S.std++[(x,S.cur)]):Bk mb ok H nu n (ds++[d]) S'
section
variable{mb:Bool}{ok ok':Addr->Prop}{H H':Hp}{nu:#[p]}{n m:Nat}{ds:#[z]}{d:Addr}{P:Pg}{S S':Sea}
theorem Bk.keep(b:Bk mb ok H nu n ds S)(k:#[aw,x,x])(kt:#[am]):Bk mb ok H' nu n ds S:=by
 induction b with
 | one h r o e=>exact .one (h.keep k kt) r o e
 | snoc b nd h r o st hd ih=>exact .snoc ih nd (h.keep k kt) r o st hd
theorem Bk.imp(b:Bk mb ok H nu n ds S)(k:#[ay]):Bk mb ok' H nu n ds S:=by
 induction b with
 | one h r o e=>exact .one (h.imp k) r o e
 | snoc b nd h r o st hd ih=>exact .snoc ih nd (h.imp k) r o st hd
theorem Bk.mono(b:Bk mb ok H nu n ds S)(e:n<=m):Bk mb ok H nu m ds S:=by
 induction b with
 | one h r o e'=>exact .one h r (o.mono e) e'
 | snoc b nd h r o st hd ih=>exact .snoc ih nd h r (o.mono e) st hd
theorem Bk.there(b:Bk mb ok H nu n ds S):∀ d∈ds,∃ kvs,H d=#[c,.dK,kvs]:=by
 induction b with
 | one h r o e =>
   intro d hd;rw[zwv.mp hd];obtain⟨_,_,_,_,_,_,_,a,_⟩:=h.split;exact⟨_,a⟩
 | snoc b nd h r o st hd ih =>
   intro d' hd';rcases zw2.mp hd' with z|z
   ·exact ih d' z
   ·rw[zwv.mp z];obtain⟨_,_,_,_,_,_,_,a,_⟩:=h.split;exact⟨_,a⟩
theorem Bk.other(b:Bk mb ok H nu n ds S)(he:H e=#[c,.dK,kvs])(hn:e∉ds):Bk mb ok (upd H e (.dK kvs')) nu n ds S:=by
 induction b with
 | one h r o e'=>exact .one (h.other (fun z=>hn (by rw[z];exact zym _)) he) r o e'
 | snoc b nd h r o st hd ih=>exact .snoc (ih fun z=>hn (zxf _ z)) nd (h.other (fun z=>hn (by rw[z];exact zxd _ (zym _))) he) r o st hd
structure zhp(mb:Bool)(ok:Addr->Prop)(H:Hp)(nu:#[p])(n:Nat)(ds:#[z])(d:Addr)(dd:Option Ru)(S:Sea):Prop where
 nd:d∉ds
 ex:(ds=[]/\S.std=[])\/∃ S0,Bk mb ok H nu n ds S0/\O0 S0 S/\∃ x,dd=some x/\S.std=S0.std++[(x,S0.cur)]
structure F7(mb:Bool)(ok:Addr->Prop)(H:Hp)(nu:#[p])(n:Nat)(ds:#[z])(d:Addr)(P:Pg)(S:Sea):Prop where
 pg:PgAt ok H d P
 rb:RelB mb P S
 so:SOk nu n S
 tl:zhp mb ok H nu n ds d P.deed S
structure Full(mb:Bool)(ok:Addr->Prop)(H:Hp)(nu:#[p])(n:Nat)(ds:#[z])(d:Addr)(P:Pg)(S:Sea):Prop where
 pg:PgAt ok H d P
 re:Rel mb P S
 so:SOk nu n S
 tl:zhp mb ok H nu n ds d P.deed S
theorem Full.pend(h:Full mb ok H nu n ds d P S):F7 mb ok H nu n ds d P S:=⟨h.pg,h.re.b,h.so,h.tl⟩
theorem Full.bk(h:Full mb ok H nu n ds d P S):Bk mb ok H nu n (ds++[d]) S:=by
 obtain⟨nd,⟨rfl,e⟩|⟨S0,b,st,hd⟩⟩:=h.tl
 ·exact .one h.pg h.re h.so e
 ·exact .snoc b nd h.pg h.re h.so st hd
theorem Bk.full(b:Bk mb ok H nu n xs S):∃ ds d P,xs=ds++[d]/\Full mb ok H nu n ds d P S:=by
 cases b with
 | one h r o e=>exact⟨[],_,_,rfl,h,r,o,nofun,.inl ⟨rfl,e⟩⟩
 | snoc b nd h r o st hd=>exact⟨_,_,_,rfl,h,r,o,nd,.inr ⟨_,b,st,hd⟩⟩
theorem zhp.keep(h:zhp mb ok H nu n ds d dd S)(k:#[aw,x,x])(kt:#[am]):zhp mb ok H' nu n ds d dd S:=by
 obtain⟨nd,e|⟨S0,b,r⟩⟩:=h
 ·exact⟨nd,.inl e⟩
 ·exact⟨nd,.inr ⟨S0,b.keep k kt,r⟩⟩
theorem F7.same(h:F7 mb ok H nu n ds d P S)(e:#[q]):F7 mb ok H' nu n ds d P S:=⟨h.pg.same e,h.rb,h.so,h.tl.keep (fun _ _ _ q=>e _ _ q) fun _ _ q=>e _ _ q⟩
theorem Full.same(h:Full mb ok H nu n ds d P S)(e:#[q]):Full mb ok H' nu n ds d P S:=⟨h.pg.same e,h.re,h.so,h.tl.keep (fun _ _ _ q=>e _ _ q) fun _ _ q=>e _ _ q⟩
theorem F7.goes(h:F7 mb ok H nu n ds d P S)(hl:#[y,H,l,xs])(ol:ok l)(hg:∀ s,S.cur=some s->xs=s.gv)(hm:mb=true->P.mv=K8 S):∃ kvs,H d=#[c,.dK,kvs]/\kvs.length<sizeLine/\Full mb ok (upd H d (.dK (putK kvs (.inr "goes") (.ref l)))) nu n ds d { P with gv:=xs } S:=by
 obtain⟨kvs,a1,a2,a3⟩:=h.pg.setGoes hl ol;refine⟨kvs,a1,a2,a3,⟨⟨h.rb.len,h.rb.rest,h.rb.ppl,h.rb.out,h.rb.over,h.rb.lis⟩,hg,hm⟩,h.so,?_⟩;obtain⟨nd,e|⟨S0,b,r⟩⟩:=h.tl
 ·exact⟨nd,.inl e⟩
 ·exact⟨nd,.inr ⟨S0,b.other a1 nd,r⟩⟩
theorem F7.full(h:F7 mb ok H nu n ds d P S)(hg:∀ s,S.cur=some s->P.gv=s.gv)(hm:mb=true->P.mv=K8 S):Full mb ok H nu n ds d P S:=⟨h.pg,⟨h.rb,hg,hm⟩,h.so,h.tl⟩
end
theorem zhq(r:RelB mb P S)(o:SOk nu n S)(af:Sk H' S D S' v)(hb:D≠.back)(hc:D≠.close):∃ x,(Ui P D).deed=some x/\S'.std=S.std++[(x,S.cur)]:=by
 have e:=r.at o;cases af with
 | enrol k gr c=>exact#[t,_,by rw[e]]
 | awayN h hl=>exact#[t,_,rfl]
 | awayF h hp hl=>exact#[t,_,rfl]
 | awayC h hp hl tl CR=>exact#[t,_,rfl]
 | draw hl F T=>exact#[t,_,by rw[e];rfl]
 | close h=>exact absurd rfl hc
 | back h ht hs=>exact absurd rfl hb
theorem turn(F:Full mb (·∉A.fp) H nu n ds d P S)(SA:#[K])(af:Sk H1 S D S' v)(SA1:Zw ca H1 A' S')(nx:Gb A A' H)(fr:FrS A H H1)(g:K3 S D)(hn:∀ k gr c,D=.enrol k gr c->k∈nu)
  (pg:D≠.back->PgAt (fun x=>x∉A'.fp\/H1 x=none) H2 d' (Ui P D)) (s2:Same H1 H2) (fd:H1 d'=none) :
  ∃ ds2 d2 P2,zb1 ds d d' D=ds2++[d2]/\F7 mb (·∉A'.fp) H2 nu (n+1) ds2 d2 P2 S'/\(D≠.back->P2=Ui P D)/\(D=.back\/D=.close->(∀ s,S'.cur=some s->P2.gv=s.gv)/\(mb=true->P2.mv=K8 S')):=by
 have mv:∀ {xs:List Addr} {S0:Sea},Bk mb (·∉A.fp) H nu n xs S0->Bk mb (·∉A'.fp) H2 nu (n+1) xs S0:=fun b=>by
  have b1:=b.imp (ok':=fun x=>x∉A.fp/\x∉A'.fp) fun x ⟨o,e⟩ z=>⟨z,nx.out e z⟩
  have b2:=b1.keep (H':=H2) (fun x o z e=>s2 _ _ (fr x o e z.1)) fun t xs e=>s2 _ _ (SA.tups fr t xs e);exact(b2.imp fun x _ z=>z.2).mono (Nat.le_succ n)
 have hd1:∀ x∈ds++[d],x≠d':=fun x hx z=>by
  have b1:=F.bk.imp (ok':=fun x=>x∉A.fp/\x∉A'.fp) fun x ⟨o,e⟩ z=>⟨z,nx.out e z⟩
  have b2:=b1.keep (H':=H1) (fun x o z e=>fr x o e z.1) fun t xs e=>SA.tups fr t xs e;obtain⟨kvs,e⟩:=b2.there x hx;rw[z,fd] at e;cases e
 by_cases hb:D=.back
 ·subst hb;cases af with
  | @back S0' dd t h ht hs =>
    obtain⟨nd,⟨_,e⟩|⟨S0,b,st,_⟩⟩:=F.tl
    ·exact absurd e g
    ·have es:=ze6 hs st;subst es;obtain⟨ds2,d2,P2,e,F2⟩:=(mv b).full;exact⟨ds2,d2,P2,e,F2.pend,fun z=>absurd rfl z,fun _=>⟨F2.re.gv,F2.re.mv⟩⟩
 ·have pg':PgAt (·∉A'.fp) H2 d' (Ui P D):=(pg hb).imp fun x hx z=>by
   rcases z with z|z
   ·exact z
   ·exact SA1.newOk x z
  obtain⟨o',ho⟩:=zho F.so g af hb hn;have rb:=ze5 F.re F.so g af hb;rcases ho with ⟨rfl,e1,e2⟩|⟨hc,st⟩
  ·exact⟨[],d',_,rfl,⟨pg',rb,o',nofun,.inl ⟨rfl,e1⟩⟩,fun _=>rfl,fun _=>⟨fun s hs=>(by rw[e2] at hs;cases hs),fun _=>(by rw[Nn e2];rfl)⟩⟩
  ·have hk:zb1 ds d d' D=(ds++[d])++[d']:=by
    cases D with
    | back=>exact absurd rfl hb
    | close=>exact absurd rfl hc
    | enrol _ _ _=>rfl
    | away _ _=>rfl
    | draw _=>rfl
   refine⟨ds++[d],d',_,hk,⟨pg',rb,o',fun z=>hd1 d' z rfl,.inr ⟨S,mv F.bk,st,zhq F.re.b F.so af hb hc⟩⟩,fun _=>rfl,?_⟩;rintro(z|z)
   ·exact absurd z hb
   ·exact absurd z hc
section
variable{mb:Bool}{ok ok':Addr->Prop}{A A':SAd}{H H':Hp}{nu:#[p]}{n m:Nat}{ds:#[z]}{d:Addr}{P:Pg}{S S':Sea}{D:Wj}
theorem PgAt.fr(f:FrN A A' H H')(h:PgAt (·∉A.fp) H d P):PgAt (·∉A'.fp) H' d P:=by
 have b1:=h.imp (ok':=fun x=>x∉A.fp/\x∉A'.fp) fun x ⟨o,e⟩ z=>⟨z,(f.k x o e z).2⟩
 have b2:=b1.keep (H':=H') (fun x o z e=>(f.k x o e z.1).1) f.kt;exact b2.imp fun x _ z=>z.2
theorem Uh.fr(f:FrN A A' H H')(h:Uh (·∉A.fp) H t D):Uh (·∉A'.fp) H' t D:=by
 cases D with
 | enrol a b c=>exact f.kt _ _ h
 | away a b=>exact f.kt _ _ h
 | draw ms =>
   obtain⟨l,ts,a1,a2,a3,a4⟩:=h;exact⟨l,ts,f.kt _ _ a1,(f.k _ _ a2 a4).1,a3.mono f.kt,(f.k _ _ a2 a4).2⟩
 | close=>exact f.kt _ _ h
 | back=>exact f.kt _ _ h
theorem Uh.imp(k:∀ x,ok x->ok' x)(h:Uh ok H t D):Uh ok' H t D:=by
 cases D with
 | enrol a b c=>exact h
 | away a b=>exact h
 | draw ms =>
   obtain⟨l,ts,a1,a2,a3,a4⟩:=h;exact⟨l,ts,a1,a2,a3,k _ a4⟩
 | close=>exact h
 | back=>exact h
theorem Bk.len(b:Bk mb ok H nu n ds S):ds.length=S.std.length+1:=by
 induction b with
 | one h r o e=>rw[e];rfl
 | snoc b nd h r o st hd ih =>
   obtain⟨x,_,e⟩:=hd;rw[e,zwt,zwt,ih];rfl
theorem Full.len(F:Full mb ok H nu n ds d P S):ds.length=S.std.length:=by
 have:=F.bk.len;rw[zwt] at this;have h1:[d].length=1:=rfl;omega
theorem Full.pre(F:Full mb ok H nu n ds d P S)(g:K3 S D)(hn:n<100):zhc S/\Pm S/\S.std.length<100/\S.out.length<=100000/\2*(tot S.led+1000)<=100000/\S.led.length<=1000/\S.old.length<=1000/\S.len<=1000/\(∀ i k,D=.away i k->Z7 k)/\(D=.back->∃ S0,O0 S0 S):=by
 have h1:=F.so.num;have h2:=F.so.len;have h3:=F.so.olen;have h4:=F.so.tot;refine⟨F.so.cur,F.so.pok,by omega,by omega,by omega,by omega,by omega,by omega,?_,?_⟩
 ·rintro i k rfl;obtain⟨_,_,g3,_⟩:=g;obtain⟨x,hx,rfl⟩:=zw0.mp g3;exact F.so.pok.small x hx
 ·rintro rfl;obtain⟨nd,⟨_,e⟩|⟨S0,b,st,_⟩⟩:=F.tl
  ·exact absurd e g
  ·exact⟨S0,st⟩
theorem Full.pre2(F:Full mb ok H nu n ds d P S)(g:K3 S D)(hn:n<100):Gg P/\P.ppl.length<=100/\P.out.length<=900/\ds.length<=900/\(D=.close->∃ ms,P.lis=some ms/\ms.length<=100):=by
 have h1:=F.so.num;have h2:=F.len;have h3:=F.so.few;refine⟨F.re.b.ovok F.so,by rw[F.re.b.ppl];omega,by rw[F.re.b.out];omega,by omega,?_⟩;rintro rfl;obtain⟨_,g2⟩:=g;cases e:S.cur with
 | none=>exact absurd e g2
 | some s=>exact⟨s.ms,by rw[F.re.b.lis,e];rfl,zw6 (F.so.cur s e).1 ⋯⟩
theorem Full.back(F:Full mb ok H nu n ds d P S)(h:ds≠[]):S.std≠[]:=by
 obtain⟨nd,⟨e,_⟩|⟨S0,b,st,x,_,e⟩⟩:=F.tl
 ·exact absurd e h
 ·rw[e];simp
end
theorem zb7(pg:PgAt ok H d (zb0 r q))(hr:r<=60)(hq:q<=10):Full mb ok H nu n [] d (zb0 r q) (zg8 r q) :=
 ⟨pg,⟨⟨rfl,rfl,rfl,rfl,rfl,rfl⟩,nofun,fun _=>rfl⟩,⟨nofun,.nil,nofun,zxk _,rfl,nofun,⟨zxk _,hr,hq⟩,fun z=>absurd rfl z,⟨zxk _,zxk _⟩,fun s hs=>(by rcases hs with z|z<;>cases z)⟩,nofun,.inl ⟨rfl,rfl⟩⟩
theorem ze7(S:Sea):Y7 S (atV S)=S.cur:=by
 unfold Y7 atV;rw[if_neg ⋯,if_neg ⋯]
theorem zhr(o:SOk nu n S)(h:S.cur=some s)(hk:k s):Sj ca H S (atV S) E k:=by
 have h1:=o.len;have h2:=o.lt (by rw[h];exact nofun);have h3:atV S=(S.led.length:Int)+1:=rfl;refine⟨Z5 ⋯ ⋯,o.olen,?_⟩;rw[if_neg ⋯,ze7];exact⟨fun z=>(by rw[h] at z;cases z),fun s' hs=>(by rw[h] at hs;cases hs;exact hk)⟩
theorem zi8(SA:#[K])(h:Uh (fun x=>H x=none) H' t D):Uh (·∉A.fp) H' t D:=h.imp fun x hx=>SA.newOk x hx
def Gk(H H':Hp):Prop:=Xl H H'/\∀ x c e f,H x=some (.ins c e f)->H' x=some (.ins c e f)
theorem Gk.dict(h:H d=#[c,.dK,kvs]):Gk H (upd H d (.dK kvs')) :=
 ⟨.dict h,fun x c e f z=>by rw[Zi (Yz z h (by intro z;cases z))];exact z⟩
theorem ShAt.keepI(k:Gk H H')(h:ShAt C ok H q s):ShAt C ok H' q s:=by
 obtain⟨dx,l1,l2,l3,l4,ts,ls,gts,a1,a2,a3,a4,a5,a6,a7,a8,o1,o2,o3,o4,o5,o6⟩:=h;exact⟨dx,l1,l2,l3,l4,ts,ls,gts,k.2 _ _ _ _ a1,k.1.1 _ _ a2,a3.mono k.1.2,k.1.1 _ _ a4,ILs.keepL k.1 a5,k.1.1 _ _ a6,k.1.1 _ _ a7,a8.keepL k.1,o1,o2,o3,o4,o5,o6⟩
theorem ShO.keepI(k:Gk H H')(h:ShO C ok H v s):ShO C ok H' v s:=by
 cases s with
 | none=>exact h
 | some s=>obtain⟨q,e,h⟩:=h;exact⟨q,e,h.keepI k⟩
theorem ShL.keepI(k:Gk H H'):∀ {vs:List V} {ss:List Z2},ShL C ok H vs ss->ShL C ok H' vs ss
 | _,_,.nil=>.nil
 | _,_,.cons h r=>.cons (h.keepI k) (ShL.keepI k r)
theorem U2.keepI(k:Gk H H'):∀ {vs:List V} {ss:List (Ru×Option Z2)},U2 C ok H vs ss->U2 C ok H' vs ss
 | _,_,.nil=>.nil
 | _,_,.cons h hu hs r=>.cons (k.1.2 _ _ h) (k.1.2 _ _ hu) (hs.keepI k) (U2.keepI k r)
theorem Zw.dictW(h:#[K])(hd:H d=#[c,.dK,kvs])(n:d∉A.fp):Zw ca (upd H d (.dK kvs')) A S:=by
 have k:=Gk.dict hd (kvs':=kvs');have hn:∀ x∈A.fp,∀ o,H x=#[d]->upd H d (.dK kvs') x=#[d]:=fun x hx o e=>by rw[Zi fun z=>n (by rw[<- z];exact hx)];exact e
 obtain⟨⟨dx,v,a1,a2⟩,b,c,⟨kvs0,d1,d2⟩,⟨vs,f1,f2⟩,⟨us,g1,g2⟩,nd,np⟩:=h;have hp:A.p∈A.fp:=by simp[SAd.fp]
 have hdr:A.dr∈A.fp:=by simp[SAd.fp]
 have hlr:A.lr∈A.fp:=by simp[SAd.fp]
 have hld:A.ld∈A.fp:=by simp[SAd.fp]
 have hda:A.da∈A.fp:=by simp[SAd.fp]
 have hls:A.ls∈A.fp:=by simp[SAd.fp]
 have hlt:A.lt∈A.fp:=by simp[SAd.fp]
 obtain⟨⟨dxr,kvr,r1,r2,r3⟩,ndr⟩:=b;obtain⟨⟨dxl,l1⟩,l2,l3⟩:=id c;refine⟨⟨dx,v,hn _ hp _ a1,a2.keepI k⟩,⟨⟨dxr,kvr,k.2 _ _ _ _ r1,hn _ hdr _ r2,r3.mono k.1.2⟩,ndr⟩,c.keep (fun o e=>?_) (hn _ hlr) (hn _ hld) k.1.2,⟨kvs0,hn _ hda _ d1,d2⟩,⟨vs,hn _ hls _ f1,f2.keepI k⟩,⟨us,hn _ hlt _ g1,g2.keepI k⟩,nd,np⟩;rw[l1] at e;cases e;exact k.2 _ _ _ _ l1
theorem FrN.dictW{A:SAd}{H:Hp}{d:Addr}{kvs kvs':#[X]}(hd:H d=#[c,.dK,kvs]){b:Addr}{o:HO}(e:H b=some o)(h:∀ k,o≠.dK k):upd H d (.dK kvs') b=some o:=by
 rw[Zi (Yz e hd (by intro z;exact h _ z))];exact e
theorem Tz.dictW{K:Frag}{A:SAd}{H:Hp}{d b:Addr}{kvs kvs':#[X]}{xs:#[a]}(h:Tz K A H b xs)(hd:H d=#[c,.dK,kvs]):Tz K A (upd H d (.dK kvs')) b xs:=by
 rcases h with ⟨h|⟨o,h⟩,n⟩|h
 ·exact .inl ⟨.inl (FrN.dictW (A:=A) hd h (by intro k z;cases z)),n⟩
 ·exact .inl ⟨.inr ⟨o,FrN.dictW (A:=A) hd h (by intro k z;cases z)⟩,n⟩
 ·exact .inr h
theorem Po.dictW{A:SAd}{H:Hp}{d t lc ln:Addr}{cs nu:#[p]}{kvs kvs':#[X]}(h:Po A H t lc ln cs nu)(hd:H d=#[c,.dK,kvs]):Po A (upd H d (.dK kvs')) t lc ln cs nu:=by
 have k:=Xl.dict hd (kvs':=kvs');obtain⟨⟨a1,a2,a3,a4,a5,a6,a7,a8,a9⟩,o⟩:=h;exact⟨⟨k.2 _ _ a1,k.1 _ _ a2,k.1 _ _ a3,a4,a5,a6,a7,a8,a9⟩,o⟩
theorem zap(FP:Yu rows gs)(T:Vs rows gs):Dv rows gs:=fun p hp q k hw hf=>by
 obtain⟨S,h1,h2⟩:=T p hp;have hS:S q:=by
  clear hf
  induction hw with
  | nil=>exact h1
  | snoc w a ih =>
    obtain⟨⟨r,e1,e2⟩,e3⟩:=a;obtain⟨q',_,e4,e5⟩:=(h2 _ ih).2 r e1 _ e2;rw[FP.inj _ _ _ e3 e4];exact e5
 obtain⟨n,⟨r,e1,e2⟩,e3⟩:=hf;obtain⟨q',_,e4,_⟩:=(h2 q hS).2 r e1 n e2;exact e3 q' e4
end G
namespace L2
open PySem PySem.Spec PyProof.Rows
theorem fnS(a:sc.kind=.function:=by rfl)(b:sc.isCoroutine=false:=by rfl)(c:sc.isGenerator=false:=by rfl)(d:N.Nodup:=by decide +kernel)(e:N.take P.length=P:=by rfl)(f:∀ x∈P,sc.names.lookup x=some .local\/sc.names.lookup x=some .cell:=by decide +kernel)(g:∀ y∈sc.names,y.2≠.free:=by decide +kernel):Zm N P sc:=⟨a,b,c,d,e,f,g⟩
section
variable{X:Cx}{k j:Nat}{C:Addr}{ps:#[B]}{sp:Sp}{E:XK}{x m:Str}{p pos pos' apos:Pos}{e o a b:Expr}{es:List Expr}{ta tb te:TE}{t:TA}{r:R2}
theorem pS(i:Nat)(hN:X.N.Nodup)(he:PE X e te)(hi:X.N[i]?=some x:=by rfl)(hx:Loc X.env.scope x:=by first|exact Or.inl rfl|exact Or.inr rfl)(hs:swapsWith e (some (.Name x pos')) pos.line X.env=pure false:=by rfl)(hf:za5 X i x:=by first|exact⟨.inl rfl,Wb⟩|exact⟨.inr rfl,Wb⟩|assumption|exact⟨.inl rfl,by assumption⟩|exact⟨.inr rfl,by assumption⟩) :
  PS X (.Assign [.Name x pos'] e pos) (Bt te (X3 i)):=zjy hN hi hx he hs hf
theorem pN(i:Nat)(hN:X.N.Nodup)(hi:X.N[i]?=some x:=by rfl)(hx:Loc X.env.scope x:=by first|exact Or.inl rfl|exact Or.inr rfl)(hf:za5 X i x:=by first|exact⟨.inl rfl,Wb⟩|exact⟨.inr rfl,Wb⟩|assumption|exact⟨.inl rfl,by assumption⟩|exact⟨.inr rfl,by assumption⟩):PG X (.Name x pos) (X3 i):=Ta hN hi hx hf
theorem pI(hr:IxR X r)(ha:PE X a ta)(hb:PE X b tb)(hs:zcw b:=by exact fun _ _=>rfl):PE X (.Subscript a b pos) (tOp r ta tb):=zl3 hr ha hb hs
theorem pD(hu:X.A.units+1<cLine)(ho:PE X a ta)(hi:PE X b tb)(hs:zj3 b:=by exact fun _ _=>rfl):PE X (.Subscript a b pos) (zcp ta tb):=zid hu ho hi hs
theorem pF(D:Ya X.prog X.w X.K X.mg X.base x k ps sp)(hr:W9 j X.A)(ha:PA X (e :: es) t)(hk:k<=j:=by decide)(hx:W0 (CX1 X.prog X.w) X E:=by exact Zj)(hg:Gl X x:=by rfl)(hdb:(x == ("__debug__":Str))=false:=by decide)
  (he:starEach (e :: es) X.env=(false,#[D,e]) :: starEach es X.env:=by rfl) (hpl:#[ax]=false:=by rfl):PE X (.Call (.Name x p) (e :: es) [] pos) (zfx sp [] E t):=Dg D (hr.mono hk) hx hg ha hdb he hpl
theorem iL(K:Frag)(h:X.K=K:=by rfl):IxR X (Cc K):=zgk h
theorem iU(K:Frag)(h:X.K=K:=by rfl):IxR X (Je K):=zio h
theorem cL(K:Frag)(h:X.K=K:=by rfl):W8 X (.builtin "len") (fun xs H Q=>∃ p ys,xs=[.ref p]/\(SqL K H p ys\/SqT K H p ys)/\Q (.int ys.length) H):=Fv h
end
theorem cT(ys:#[B])(js:List Nat)(a:closureFor scope X.env=pure cl:=by rfl)(b:scope.kind=.function:=by rfl)(c:∀ y∈scope.names,y.2=.local->scope.names.lookup y.1=some .local:=by decide +kernel)(d:∀ y∈scope.names,y.2≠.cell:=by decide +kernel)(e:scope.names.lookup x=some .local:=by rfl)(f:(x :: ys).Nodup:=by decide +kernel)(g:js.map (X.N[·]?)=ys.map some:=by rfl)
  (h:Fu (fun y=>X.env.kindOf y=some .cell/\(relabel scope X.env).names.lookup y=some .cell/\cl.lookup y=#[W,y]) ys:=by repeat' (first|exact True.intro|apply And.intro|rfl)) (i:Fu (fun p=>#[W,p.1]=some p.2) cl:=by repeat' (first|exact True.intro|apply And.intro|rfl)) (j:∀ y∈scope.names,y.2=.free->y.1∈ys:=by decide +kernel):zcy X x scope cl ys js:=⟨a,b,c,d,e,f,g,h,i,j⟩
abbrev LkF(K:Frag)(f:Addr)(x q:Str)(st:Stmt)(oc kV dc pm cd ct:Value)(od an:Option Addr)(sl:Array (Option Value)):Prop:=K.lookup f=some ⟨oc,od,.func (PySem.W.fnOf x q (Sf st) (Zv st) (Zk st) .none kV dc pm an cd ct),sl⟩
abbrev NsB(K:Frag)(x:Str)(f:Addr):Prop:=PySem.W.nsIn K mainGlobals x=some #[b,f]
abbrev FdB(K:Frag)(c:Addr)(x:Str)(f:Addr):Prop:=PySem.W.findIn K (.ref c) x=some #[b,f]
abbrev BnA(x q:Str)(st:Stmt)(ps:#[B]):Prop:=∀ (kV doc pm:Value) (an:Option Addr) (cdv ct:Value) (us:List Value),us.length=ps.length->bindArgs (PySem.W.fnOf x q (Sf st) (Zv st) (Zk st) .none kV doc pm an cdv ct) ⟨us,[]⟩=pure (ps.zip us)
abbrev BnE(x q:Str)(st:Stmt)(ps:#[B])(us:#[U]):Prop:=∀ (kV doc pm:Value) (an:Option Addr) (cdv ct:Value),bindArgs (PySem.W.fnOf x q (Sf st) (Zv st) (Zk st) .none kV doc pm an cdv ct) ⟨us,[]⟩=pure (ps.zip us)
section
variable{x q a b c d e g:Str}{st:Stmt}
theorem bnS{us:#[U]}{n:Nat}(h:us.length=n+1):∃ u vs,us=u :: vs/\vs.length=n:=by
 cases us with
 | nil=>cases h
 | cons u vs=>exact⟨u,vs,rfl,Nat.succ.inj h⟩
theorem bn1(h:∀ u,BnE x q st [a] [u]:=by intros _ _ _ _ _ _ _;rfl):BnA x q st [a]:=fun _ _ _ _ _ _ us hl=>by obtain⟨_,us,rfl,l0⟩:=bnS hl;cases us with|nil=>exact h _ _ _ _ _ _ _|cons _ _=>cases l0
theorem bn2(h:∀ u v,BnE x q st [a,b] [u,v]:=by intros _ _ _ _ _ _ _ _;rfl):BnA x q st [a,b]:=fun _ _ _ _ _ _ us hl=>by obtain⟨_,us,rfl,l0⟩:=bnS hl;obtain⟨_,us,rfl,l1⟩:=bnS l0;cases us with|nil=>exact h _ _ _ _ _ _ _ _|cons _ _=>cases l1
theorem bn3(h:∀ u v w,BnE x q st [a,b,c] [u,v,w]:=by intros _ _ _ _ _ _ _ _ _;rfl):BnA x q st [a,b,c]:=fun _ _ _ _ _ _ us hl=>by obtain⟨_,us,rfl,l0⟩:=bnS hl;obtain⟨_,us,rfl,l1⟩:=bnS l0;obtain⟨_,us,rfl,l2⟩:=bnS l1;cases us with|nil=>exact h _ _ _ _ _ _ _ _ _|cons _ _=>cases l2
theorem bn4(h:∀ u v w y,BnE x q st [a,b,c,d] [u,v,w,y]:=by intros _ _ _ _ _ _ _ _ _ _;rfl):BnA x q st [a,b,c,d]:=fun _ _ _ _ _ _ us hl=>by obtain⟨_,us,rfl,l0⟩:=bnS hl;obtain⟨_,us,rfl,l1⟩:=bnS l0;obtain⟨_,us,rfl,l2⟩:=bnS l1;obtain⟨_,us,rfl,l3⟩:=bnS l2;cases us with|nil=>exact h _ _ _ _ _ _ _ _ _ _|cons _ _=>cases l3
theorem bn5(h:∀ u v w y z,BnE x q st [a,b,c,d,e] [u,v,w,y,z]:=by intros _ _ _ _ _ _ _ _ _ _ _;rfl):BnA x q st [a,b,c,d,e]:=fun _ _ _ _ _ _ us hl=>by obtain⟨_,us,rfl,l0⟩:=bnS hl;obtain⟨_,us,rfl,l1⟩:=bnS l0;obtain⟨_,us,rfl,l2⟩:=bnS l1;obtain⟨_,us,rfl,l3⟩:=bnS l2;obtain⟨_,us,rfl,l4⟩:=bnS l3;cases us with|nil=>exact h _ _ _ _ _ _ _ _ _ _ _|cons _ _=>cases l4
end
section
variable{K:Frag}{mg:#[V]}{x y q m:Str}{k:Nat}{ps:#[B]}{sp:Sp}{C:Addr}{st:Stmt}{f:Addr}{fd:FuncData}
theorem dMk(P:Program)(w:World)(base:Heap)(F:#[k,x,q,st])(ok:FnOk P w K mg base #[i] k f fd ps sp)(b:#[ag,y,f])(hb:BnA x q st ps:=by first|exact bn1|exact bn2|exact bn3|exact bn4|exact bn5):Ya P w K mg base y k ps sp:=⟨f,fd,ok,b,F.kp,F.binds hb⟩
theorem mMk(P:Program)(w:World)(base:Heap)(F:#[k,x,q,st])(ok:FnOk P w K mg base #[i] k f fd ps sp)(b:zfw K C m f)(hb:BnA x q st ps:=by first|exact bn1|exact bn2|exact bn3|exact bn4|exact bn5):Zp P w K mg base C m k ps sp:=⟨f,fd,ok,b,F.binds hb⟩
theorem nMk(P:Program)(w:World)(base:Heap)(F:#[k,x,q,st])(ok:FnOk P w K mg base #[i] k f fd ps sp)(b:Mk K C f)(c:#[ag,y,C])(hb:BnA x q st ps:=by first|exact bn1|exact bn2|exact bn3|exact bn4|exact bn5):To P w K mg base y C k ps sp:=⟨f,fd,ok,b,c,F.binds hb⟩
end
structure LN(K:Frag)(x q:Str)(st:Stmt)(f:Addr)(oc kV dc pm cd ct:Value)(od an:Option Addr)(sl:Array (Option Value)):Prop where
 b:NsB K x f
 l:LkF K f x q st oc kV dc pm cd ct od an sl
 c:PySem.W.codeIn K cd q=true
 k:PySem.W.keepIn K (.ref f)=true
structure LM(K:Frag)(C:Addr)(x q:Str)(st:Stmt)(f:Addr)(oc kV dc pm cd ct:Value)(od an:Option Addr)(sl:Array (Option Value)):Prop where
 b:FdB K C x f
 l:LkF K f x q st oc kV dc pm cd ct od an sl
 c:PySem.W.codeIn K cd q=true
 k:PySem.W.keepIn K (.ref f)=true
 i:PySem.W.isFn K (.ref f)=true
abbrev XcB(K:Frag)(c:Addr):Prop:=PySem.W.excIn K c [.type "ValueError",.type "Exception",.type "BaseException",.type "object"] "ValueError.__new__"=true
abbrev NzB(K:Frag)(x:Str):Prop:=PySem.W.nsIn K mainGlobals x=some none
structure XG(P:Program)(w:World)(base:Heap)(K:Frag)(mg:#[V])(h:Heap):Prop where
 X:K.In h
 G:h.Ns mainGlobals mg
section
variable{P:Program}{w:World}{base h:Heap}{K:Frag}{mg:#[V]}{x y q:Str}{k:Nat}{ps:#[B]}{sp:Sp}{C:Addr}{st:Stmt}{f:Addr}{oc kV dc pm cd ct:Value}{od an:Option Addr}{sl:Array (Option Value)}
theorem dN(Z:XG P w base K mg h)(l:LN K x q st f oc kV dc pm cd ct od an sl)(ok:∀ {fd},#[k,x,q,st]->FnOk P w K mg base #[i] k f fd ps sp)(hb:BnA x q st ps:=by first|exact bn1|exact bn2|exact bn3|exact bn4|exact bn5):Ya P w K mg base x k ps sp :=
 dMk P w base (R7 l.l l.c l.k) (ok (R7 l.l l.c l.k)) (PySem.W.mg_of Z.X Z.G l.b) hb
theorem dA(Z:XG P w base K mg h)(l:LN K x q st f oc kV dc pm cd ct od an sl)(b:PySem.W.nsIn K mainGlobals y=some #[b,f])(ok:∀ {fd},#[k,x,q,st]->FnOk P w K mg base #[i] k f fd ps sp)(hb:BnA x q st ps:=by first|exact bn1|exact bn2|exact bn3|exact bn4|exact bn5):Ya P w K mg base y k ps sp :=
 dMk P w base (R7 l.l l.c l.k) (ok (R7 l.l l.c l.k)) (PySem.W.mg_of Z.X Z.G b) hb
theorem mM(_:XG P w base K mg h)(l:LM K C x q st f oc kV dc pm cd ct od an sl)(ok:∀ {fd},#[k,x,q,st]->FnOk P w K mg base #[i] k f fd ps sp)(hb:BnA x q st ps:=by first|exact bn1|exact bn2|exact bn3|exact bn4|exact bn5):Zp P w K mg base C x k ps sp :=
 mMk P w base (R7 l.l l.c l.k) (ok (R7 l.l l.c l.k)) ⟨l.b,l.i,l.k⟩ hb
theorem nM(Z:XG P w base K mg h)(l:LM K C "__init__" q st f oc kV dc pm cd ct od an sl)(m:PySem.W.makesIn K C=true)(kc:PySem.W.keepIn K (.ref C)=true)(c:PySem.W.nsIn K mainGlobals y=some #[b,C])(ok:∀ {fd},#[k,"__init__",q,st]->FnOk P w K mg base #[i] k f fd ps sp)(hb:BnA "__init__" q st ps:=by first|exact bn1|exact bn2|exact bn3|exact bn4|exact bn5):To P w K mg base y C k ps sp :=
 nMk P w base (R7 l.l l.c l.k) (ok (R7 l.l l.c l.k)) ⟨m,l.b,l.i,kc⟩ (PySem.W.mg_of Z.X Z.G c) hb
end
section
variable{X:Cx}{elt iter:Expr}{x:Str}{px pos:Pos}{ifs:List Expr}{scope:Scope}{cl:List (Str×Addr)}{ys:#[B]}{js:List Nat}
theorem Gm{pins:#[x]}{σ:St}{H:Hp}{s:Shared}{tt:TT}{te:TE}{it:Addr}{fp:#[z]}{tn:Nat->Heap->Prop}{J:It}{W:Nat->Nat->#[a]->Hp->Prop}{m0:Nat}{Q:VK}{E:Value->Shared->Prop}{RR:Value->Addr->Result->Shared->Prop}
  (hcm:X.calm=true) (c:zcy X x scope cl ys js) (ht:∀ pn s₀ H₀ fp C,PTs (Y3 X pn (x :: ys) scope cl s₀ H₀ fp C) ifs tt) (hgt:∀ pn s₀ H₀ fp C,PG (Y3 X pn (x :: ys) scope cl s₀ H₀ fp C) (.Name x px) (X3 0)) (he:∀ pn s₀ H₀ fp C,PE (Y3 X pn (x :: ys) scope cl s₀ H₀ fp C) elt te)
  (I:#[h]) (T:Bv X.prog X.w X.K (.Name x px) J fp it tn) (st0:tn 0 s.heap) (hf:∀ b∈fp,FpOk X pins H b) (w0:W 0 m0 [] H)
  (turn:∀ i m ys H,W i m ys H->(J.stop i H/\ys.length<=sizeLine/\∀ p,H p=none->Q (.ref p) (upd H p (.lst ys))) \/
   (J.go i H/\ys.length<sizeLine/\∃ N:#[a]->Hp->Prop,(∀ ys' H',N ys' H'->∃ m',m' < m/\W (i+1) m' ys' H')/\∀ x H',J.yld i H x H'->tt (cs js σ x) H' fun b H2=>if b=true then te (cs js σ x) H2 fun y H3=>N (ys++[y]) H3 else N ys H2))
  (hRR:∀ D C s' m,s'.heap.Ns C m->(∀ h',Heap.SameBut C s'.heap h'->∃ H',Inv X pins σ H' { s' with heap:=h' }/\Q (.ref D) H')->(∃ H',Inv X pins σ H' s'/\Q (.ref D) H'/\H' C=none)->s.heap.objs.size<=C->RR (.ref D) C (.ok .next) s') :
  wpAny (model X.prog X.w) X.A (newList []) (fun acc s₃=>#[ab,X.A,newFunctionEnv scope X.env.globals cl [] X.env.qual none .none (some X.env),(fun cenv s₄ =>
   codeAny (model X.prog X.w) X.A (.compStart (.ListComp elt [⟨.Name x px,iter,ifs,0⟩] scope pos) 0 (.ref it) acc { cenv with scope:=relabel scope X.env }) (RR acc cenv.locals) s₄),E,s₃]) E s :=
 Hk (xo:=[x]) (g:=X3 0) hcm ⟨c.clos,c.kind,c.names,c.nocell,c.at_,c.free,c.only,c.vis⟩ ht hgt he I T st0 hf w0 (fun i m ys H w=>(turn i m ys H w).imp id fun ⟨a,b,N,n1,n2⟩=>⟨a,b,N,n1,fun y H' hy=>⟨#[t,[some y],rfl],n2 y H' hy⟩⟩) hRR
variable{wi:TI}{tt:TT}{te:TE}
theorem Vb(hcm:X.calm=true)(c:zcy X x scope cl ys js)(hi:PI X (.Name x px) iter wi)(ht:∀ pn s₀ H₀ fp C,PTs (Y3 X pn (x :: ys) scope cl s₀ H₀ fp C) ifs tt)(he:∀ pn s₀ H₀ fp C,PE (Y3 X pn (x :: ys) scope cl s₀ H₀ fp C) elt te)
  (hx:∀ C,(compEnvC scope cl C X.env).scope.names.lookup x=some .local:=by intro _;rfl) (hs:∀ x,foldedSetIterable iter X.env x=pure x:=by intro _;rfl):PE X (.ListComp elt [⟨.Name x px,iter,ifs,0⟩] scope pos) (zcx wi js tt te):=by
 intro pins s σ H Q I h;rw[eval_ListComp];refine wpAny_comprehension_free (use:=none) rfl hs c.clos c.kind c.names (thn (hi pins s σ H _ I h) fun v s1 h1=>thn h1 fun itv s2 h2=>?_);obtain⟨it,fp,tn,J,H2,e,I2,T,st2,f2,W,⟨m0,w0⟩,turn⟩:=h2;subst e;exact Gm (RR:=fun acc C=>compPost (model X.prog X.w) X.A X.xe none (EP X pins σ Q) acc C) hcm c ht (fun _ _ _ _ C=>Ta (X:=Y3 X _ (x :: ys) scope cl _ _ _ C) c.nd rfl (.inl (hx C)) ⟨.inr (hx C),Wb⟩) he I2 T st2 f2 w0 turn fun D C s' m hn hS _ _=>⟨m,hn,fun h' hs'=>let ⟨H',I',q⟩:=hS h' hs';⟨.ref D,H',I',rfl,q⟩⟩
theorem Vp{y:Str}{py spos:Pos}{i:Nat}(hN:X.N.Nodup)(hy:X.N[i]?=some y)(hk:X.env.scope.names.lookup y=some .local)(hcm:X.calm=true)(c:zcy X x scope cl ys js)(hi:PI X (.Name x px) iter wi)(ht:∀ pn s₀ H₀ fp C,PTs (Y3 X pn (x :: ys) scope cl s₀ H₀ fp C) ifs tt)
  (he:∀ pn s₀ H₀ fp C,PE (Y3 X pn (x :: ys) scope cl s₀ H₀ fp C) elt te)
  (hx:∀ C,(compEnvC scope cl C X.env).scope.names.lookup x=some .local:=by intro _;rfl) (hsw:swapsWith (.ListComp elt [⟨.Name x px,iter,ifs,0⟩] scope pos) (some (.Name y py)) spos.line X.env=pure true:=by rfl) (hs:∀ x,foldedSetIterable iter X.env x=pure x:=by intro _;rfl)
  (hf:za5 X i y:=by first|exact⟨.inr rfl,Wb⟩|assumption|exact⟨.inr rfl,by assumption⟩) :
  PS X (.Assign [.Name y py] (.ListComp elt [⟨.Name x px,iter,ifs,0⟩] scope pos) spos) (Bt (zcx wi js tt te) (X3 i)):=by
 intro pins s σ H D0 I h;rw[exec_Assign_Name_used _ _ _ _ hsw];refine wpAny_bind (wpAny_standAt (wpAny_bind ?_));show wpAny _ X.A (do let _ <- comprehension (.ListComp elt [⟨.Name x px,iter,ifs,0⟩] scope pos) scope X.env _ (newList []) false #[D,iter] (some (assign (.Name y py) X.env))) _ _ s;refine wpAny_bind (wpAny_mono (wpAny_comprehension_free (use:=some (assign (.Name y py) X.env)) (Q:=fun _ s'=>SP X pins D0 .next s') rfl hs c.clos c.kind c.names
  (thn (hi pins s σ H _ I h) fun v s1 h1=>thn h1 fun itv s2 h2=>?_)) (fun _ s' hq=>wpAny_pure (wpAny_pure hq)) fun _ _ e=>e)
 obtain⟨it,fp,tn,J,H2,e,I2,T,st2,f2,W,⟨m0,w0⟩,turn⟩:=h2;subst e;refine Gm (Q:=fun x H1=>D0.nx (σ.set i (some x)) H1) (RR:=fun acc C=>compPost (model X.prog X.w) X.A X.xe (some (assign (.Name y py) X.env)) (fun _ s'=>SP X pins D0 .next s') acc C) hcm c ht (fun _ _ _ _ C=>Ta (X:=Y3 X _ (x :: ys) scope cl _ _ _ C) c.nd rfl (.inl (hx C)) ⟨.inr (hx C),Wb⟩) he I2 T st2 f2 w0 turn fun D C s' m hn _ hS hC=>?_;obtain⟨H',I',q,fC⟩:=hS;show wpAny _ X.A (assign (.Name y py) X.env (.ref D)) _ _ _;have ltC:∀ b o,s2.heap.get? b=#[d]->b≠C:=fun b o e=>zxj (zw7 (Heap.lt_size e) hC);have neL:C≠X.env.locals:=by
  obtain⟨_,⟨o,_,_,ho,_⟩,_⟩:=I2.loc;exact Ne.symm (ltC _ o ho)
 have neK:∀ z a,#[W,z]=some a->a≠C:=fun z a e=>by
  obtain⟨_,o,ho,_⟩:=I2.cell z a e;exact ltC a o ho
 refine wpAny_assign_Name (E2 I' hN hy (.inl hk) (v:=.ref D) (show RelV (.ref D) (.ref D) from rfl) (fun s4 I4 ⟨a,hs4,ha⟩=>?_) hf);have naC:C≠a:=by
  rcases ha with ha|ha
  ·rw[ha];exact neL
  ·exact Ne.symm (neK _ _ ha)
 refine⟨m,hn.sameBut hs4 naC,fun h5 hs5=>⟨_,H',?_,q⟩⟩;refine I4.turned (t':=s4.toks) (it:=C) (fun b o hb e=>hs5.extBut b o hb e) fC neL (.inr (zw6 I2.sz hC)) neK fun p hp=>?_;obtain⟨e,_⟩:=I2.pin p hp;exact ltC _ _ e
end
end L2
namespace L2
open PySem PySem.Spec PyProof.Rows PySem.Builtin PySem.Builtin.Str
theorem D6:OpR X (binaryOp .Add) (fun x y H Q=>∃ a b:Str,x=.str a/\y=.str b/\a.length+b.length<=sizeLine/\Q (.str (a++b)) H):=by
 intro pins s σ H x y v u Q I rx ry h;obtain⟨a,b,rfl,rfl,hz,q⟩:=h;obtain⟨t,rfl⟩:=rx;obtain⟨t',rfl⟩:=ry;exact P.add_str (PySem.SB.post_add hz fun t' k=>⟨.str (a++b),H,I.tok _,#[C,_],q⟩)
def zi9(a b:Str):#[B]:=partsBetween a (occurrences a b 0 a.length (a.length+1)) b.length
inductive zk7(x:V)(xs:#[a])(H:Hp)(Q:VK):Prop where
 | mk(a b:Str)(_:x=.str a)(_:xs=[.str b])(_:(#[j,a.length<b.length]||#[j,strKind a<strKind b])=false)(_:(b.length == 0)=false)(_:(occurrences a b 0 a.length (a.length+1)).isEmpty=false)(_:a.length<=sizeLine)(_:(zi9 a b).length<=sizeLine)(_:∀ l,H l=none->Q (.ref l) (upd H l (.lst ((zi9 a b).map V.str))))
theorem zaq:∀ (k:Nat) (ws:List Str),Vals (ws.map V.str) (strsFrom k ws)
 | _,[]=>.nil
 | k,w :: ws=>.cons #[C,_] (zaq (k+1) ws)
theorem zhs:MtR X "str.split" zk7:=by
 intro pins s σ H x xs v us Q I rx rv h;obtain⟨a,b,rfl,rfl,h1,h2,h3,h4,h5,q⟩:=h;obtain⟨t,rfl⟩:=rx;obtain⟨u,rfl,ru⟩:=rv.one;obtain⟨t',rfl⟩:=ru;have hf:H s.heap.objs.size=none:=I.hok.fresh (zwz _);refine call_meets F.slot_str_split (typeIs_str _ _ _) F.entry_str_split (F.args_str_split_2 _ _) (meets_str_split_sep a b t t' h1 h2 h3 h4 h5) ?_;refine#[I,.ref s.heap.objs.size,upd H s.heap.objs.size (.lst ((zi9 a b).map V.str)),I.laid (fun _ _ q=>#[ah,_,q]) (zwz _) ?_,q _ hf];exact⟨by rw[zwq];exact h5,_,_,zaq s.toks _,Heap.get?_push_size _ rfl⟩
end L2
namespace G
open PySem PySem.Spec PyProof.Rows L2
inductive Ref where
 | out|known|many|unk|manyM|same|noMatch|noRound|over|seaOver|away|drawn|notDrawn|nothing|manyD
 deriving DecidableEq
def Ref.cls(ca:CA):Ref->Addr
 | .out=>ca.out|.known=>ca.known|.many=>ca.many|.unk=>ca.unk|.manyM=>ca.manyM|.same=>ca.same|.noMatch=>ca.noMatch|.noRound=>ca.noRound
 | .over=>ca.over|.seaOver=>ca.seaOver|.away=>ca.away|.drawn=>ca.drawn|.notDrawn=>ca.notDrawn|.nothing=>ca.nothing|.manyD=>ca.manyD
def Ref.name:Ref->Str
 | .out=>"OutOfRange" | .known=>"KnownReferee" | .many=>"TooManyReferees" | .unk=>"UnknownReferee" | .manyM=>"TooManyMatches" | .same=>"SameClub" | .noMatch=>"NoSuchMatch" | .noRound=>"NoSuchRound"
 | .over=>"RoundOver" | .seaOver=>"SeasonOver" | .away=>"AwayAlready" | .drawn=>"DrawnUp" | .notDrawn=>"NotDrawn" | .nothing=>"NothingToTakeBack" | .manyD=>"TooManyDeeds"
open Classical in
def zb8:Wj->Prop
 | .enrol n g c=>Cy n g c
 | .away i n=>Z7 i/\Z7 n
 | .draw ms=>(∀ m∈ms,Hs m)/\ms.length<=1000
 | _=>True
end G
namespace G
open PySem PySem.Spec PyProof.Rows L2
def refB(r:Ref):#[a]:=[.out,.known,.many,.unk,.manyM,.same,.noMatch,.noRound,.over,.seaOver,.away,.drawn,.notDrawn,.nothing,.manyD].map (fun t=>V.bl (decide (r=t)))++[V.bl true]
def refW:#[B]:=["OutOfRange","KnownReferee","TooManyReferees","UnknownReferee","TooManyMatches","SameClub","NoSuchMatch","NoSuchRound","RoundOver","SeasonOver","AwayAlready","DrawnUp","NotDrawn","NothingToTakeBack","TooManyDeeds","ValueError"]
def refP(r:Ref)(i:Nat):Bool:=#[j,(refB r)[i]?=#[c,V.bl,true]]
theorem ze8(r:Ref):((List.range 16).filter (refP r)).map (fun i=>V.str (refW.getD i ""))=[.str r.name,.str "ValueError"]:=by cases r<;>decide +kernel
theorem zht(r:Ref)(h:i<16):(refB r)[i]?=#[c,V.bl,refP r i]:=by
 have hl:i<(refB r).length:=h;have e:=zws hl;obtain⟨b,hb⟩:∃ b,(refB r)[i]=V.bl b:=by
  rcases zw2.mp (show (refB r)[i]∈_++_ from zxp hl) with z|z
  ·obtain⟨t,_,e⟩:=zw0.mp z;exact⟨_,e.symm⟩
  ·exact⟨true,zwv.mp z⟩
 rw[hb] at e;unfold refP;rw[e];cases b
 ·rw[zw1 fun z=>by cases z]
 ·rw[zwy rfl]
theorem zhu(h:i<16):(refW.map V.str)[i]?=#[c,V.str,refW.getD i ""]:=by
 rw[zwx,zxi];have:i<refW.length:=h;rw[zws this];rfl
theorem ze9:zi9 (("OutOfRange KnownReferee TooManyReferees UnknownReferee TooManyMatches SameClub":Str)++(" NoSuchMatch NoSuchRound RoundOver SeasonOver AwayAlready DrawnUp":Str)++(" NotDrawn NothingToTakeBack TooManyDeeds ValueError":Str)) (" ":Str)=refW:=by decide +kernel
end G
namespace G
open PySem PySem.Spec PyProof.Rows L2
structure I21(r i:Nat)(noted:#[p])(S:Sea):Prop where
 len:S.len=r
 led:S.led=[]
 cur:S.cur=none
 old:S.old=[]
 std:∀ x∈S.std,x.2=none
 sl:S.std.length<=i
 ol:S.out.length<=i
 z:(noted=[]/\S.ppl=[]/\S.std=[]/\S.out=[])\/∃ ds,noted=0 :: ds/\S.ppl=[(5,5,5)]/\S.out=ds.map fun i=>(i,5)
 e:i<=10->noted=[]
end G
namespace G
open PySem PySem.Spec PyProof.Rows L2
structure ShOk(n:Nat)(s:Z2):Prop where
 ms:s.ms.length<=20
 ml:s.may.length=s.ms.length
 fi:Yu s.may s.gv
 st:Vs s.may s.gv
 mo:∃ nu,Pj s.may nu
 gp:s.gaps.length<=n/\∀ x∈s.gaps,x.2.length<=100
theorem ShOk.mono(h:ShOk n s)(e:n<=m):ShOk m s:=⟨h.ms,h.ml,h.fi,h.st,h.mo,zw6 h.gp.1 e,h.gp.2⟩
theorem SOk.shOk(o:SOk nu n S)(h:S.cur=some s):ShOk n s:=by
 obtain⟨k1,k2,k3,k4,k5⟩:=o.cur s h;exact⟨k1,by rw[k4];unfold mayS;rw[zwq],k2,k3,⟨_,by rw[k4];exact o.pok.may o.nd k1⟩,o.gp s (.inl h)⟩
def Sl(n:Nat)(S:Sea):Prop:=∀ s∈S.old,ShOk n s
theorem Sl.mono(h:Sl n S)(e:n<=m):Sl m S:=fun s hs=>(h s hs).mono e
theorem zfa(o:SOk nu n S)(h:Sl n S)(af:Sk H S D S' v):Sl n S':=by
 cases af with
 | enrol k g c=>exact h
 | awayN hh hl=>exact h
 | awayF hh hp hl=>exact h
 | awayC hh hp hl tl CR=>exact h
 | draw hl F T=>exact h
 | close hc =>
   intro s hs;rcases zw2.mp hs with z|z
   ·exact h s z
   ·rw[zwv.mp z];exact o.shOk hc
 | back hh ht hs =>
   obtain⟨d,a1,a2,a3,a4,a5,a6⟩:=hs;intro s hs';rw[<- a6] at hs';exact h s hs'
theorem zfb(af:Sk H S D S' v):S'.len=S.len:=by
 cases af with
 | back h ht hs =>
   obtain⟨d,a1,a2,a3,a4⟩:=hs;exact a3.symm
 | _=>rfl
end G
namespace G
open PySem PySem.Spec PyProof.Rows L2
section
variable{rows:#[E]}{gs0 hs:#[a]}{p:Nat}{n0:Int}
structure znl(rows:#[E])(gs0 hs:#[a])(p:Nat)(i:Nat)(L:List Nat)(q:Nat):Prop where
 len:L.length=i+1
 nd:L.Nodup
 mem:q∈L
 walk:Walk rows (gs0.set p .non) p q i
 df:∀ k∈L,k<gs0.length/\gs0[k]?≠hs[k]?
 back:∀ y∈L,y≠p->∃ x∈L,x≠q/\∃ n,hs[x]?=#[f,n]/\(gs0.set p .non)[y]?=#[f,n]
 full:∀ y∈L,gs0[y]?≠some .non
end
open Classical in
noncomputable def eq1(x y:V):Nat:=if x=y then 1 else 0
inductive StK(N:#[p]):#[E]->#[a]->Nat->Nat->Nat->Prop where
 | nil:StK N [] [] 0 0 0
 | skip {rows:#[E]} {r:#[p]} {ah:#[a]} {v:V} {f u k:Nat} (h:StK N rows ah f u k):StK N (rows++[r]) (ah++[v]) (2*f) u (k+eq1 .non v)
 | take {rows:#[E]} {r:#[p]} {ah:#[a]} {v:V} {f u k b:Nat} {n:Int} (h:StK N rows ah f u k) (hb:N[b]?=some n) (hn:n∈r) (hu:u/2 ^ b%2=0):StK N (rows++[r]) (ah++[v]) (2*f+1) (u+2 ^ b) (k+eq1 (.int n) v)
structure znm(N:#[p])(rows:#[E])(ah:#[a])(best kept:Nat):Prop where
 at_:∃ u,StK N rows ah best u kept
 top:∀ f u k,StK N rows ah f u k->f<=best
 most:∀ u k,StK N rows ah best u k->k<=kept
open Classical in
structure znr(R:Nat×Nat->Nat->Prop)(ps:List (Nat×Nat))(g:Nat×Nat->Nat):Prop where
 mem:∀ q,q∈ps↔∃ k,R q k
 at_:∀ q∈ps,R q (g q)
 top:∀ q k,R q k->k<=g q
section
variable{mb:Bool}{ok ok':Addr->Prop}{A A':SAd}{H H':Hp}{nu:#[p]}{n m:Nat}{ds:#[z]}{d:Addr}{P:Pg}{S S':Sea}{D:Wj}
structure znd(ok:Addr->Prop)(H:Hp)(ts:#[a])(Ds:List Wj):Prop where
 len:ts.length=Ds.length
 at_:∀ (i:Nat) x,ts[i]?=some x->∃ t D,x=.ref t/\Ds[i]?=some D/\Uh ok H t D
end
structure PgR(mb:Bool)(ok:Addr->Prop)(H:Hp)(nu:#[p])(n:Nat)(d:Addr)(P:Pg)(S:Sea):Prop where
 pg:PgAt ok H d P
 rb:RelB mb P S
 so:SOk nu n S
open Classical in
theorem zfc{K:Frag}{ok:Addr->Prop}{te:TE}{σ:L2.St}{H:Hp}{Q:VK}{d:Addr}{P:Pg}(hi:∀ {Q':VK},Q' (.ref d) H->te σ H Q')(PA:PgAt ok H d P)(hz:P.ppl.length<=100)(h:∀ l H',H' l=#[T,(P.ppl.map (·.1)).map,V.int]->Same H H'->H l=none->Q (.ref l) H'):zcx (zci K (zcp te (tC (V.str "people")))) [] tYes (tOp (Je K) (tVar 0) (tC (V.int 0))) σ H Q:=by
 obtain⟨lp,lo,lv,dv,li,lg,lm,a1,PB,okd⟩:=id PA.split;obtain⟨pts,p1,p2,p3⟩:=PB.pp;have hpl:pts.length=P.ppl.length:=by rw[p2.length,zwq]
 refine hi ⟨d,_,rfl,DGet.k (k:=.inr "people") a1,lp,rfl,⟨_,SqL.of p1⟩,Xp (K:=K) (a:=lp) (xs:=pts) (fun i ys H'=>H'=H/\ys=((P.ppl.take i).map (·.1)).map V.int) #[C,rfl] (fun i ys H' _ z=>by rw[z.1];exact SqL.of p1) (szN ⋯) (fun i ys H' z=>by rw[z.2,zwq,zwq];exact zx5 _ _) ?_ ?_⟩
 ·rintro i x ys H' hx ⟨rfl,rfl⟩;obtain⟨tp,pp,rfl,hpp,htp⟩:=Jg p2 hx;unfold tYes;dsimp only;rw[#[l,rfl]];exact⟨_,rfl,tp,_,_,_,rfl,rfl,SqT.of htp,show atI (pV pp) 0=some _ from rfl,rfl,by rw[X6 hpp,zww,zww];rfl⟩
 rintro ys H' ⟨rfl,rfl⟩ lq flq;rw[hpl,zw9];exact h lq _ Zc (Ze flq) flq
theorem zar{K:Frag}{ok:Addr->Prop}{σ:L2.St}{H:Hp}{Q:VK}{i:Nat}{d:Addr}{P:Pg}(hi:σ[i]?=some #[b,d])(PA:PgAt ok H d P)(hz:P.ppl.length<=100)(h:∀ l H',H' l=#[T,(P.ppl.map (·.1)).map,V.int]->Same H H'->H l=none->Q (.ref l) H'):zcx (zci K (zcp (tVar i) (tC (V.str "people")))) [] tYes (tOp (Je K) (tVar 0) (tC (V.int 0))) σ H Q:=zfc (fun q=>⟨_,hi,q⟩) PA hz h
theorem D7(ns:#[p]):(ns.map V.int).all Rq=true:=zyx.mpr fun x hx=>by obtain⟨_,_,rfl⟩:=zw0.mp hx;rfl
theorem Bd(b:Bool):atI [x,y] (if b=true then 1 else 0)=some (if b=true then y else x):=by cases b<;>rfl
def zmk(r o:Int)(dr:Bool)(lp ll:Addr):#[X]:=[(.inr "rounds",.int r),(.inr "over",.int o),(.inr "drawn",.bl dr),(.inr "people",.ref lp),(.inr "log",.ref ll)]
structure zne(H:Hp)(d lp ll:Addr)(S:Sea):Prop where
 dd:H d=#[c,.dK,zmk S.len S.led.length S.cur.isSome lp ll]
 pp:∃ pts,H lp=#[w,pts]/\Yf H pts (S.ppl.map pV)
 gg:∃ lts,H ll=#[w,lts]/\Yf H lts (S.std.map fun x=>Qt x.1)
 ne:lp≠ll
structure I22(S:Sea):Prop where
 out:S.out=[]
 std:∀ x∈S.std,x.2=none/\(x.1.1=("enrol":Str)\/x.1.1=("draw up":Str))
 last:∀ std0 x,S.std=std0++[x]->x.1.1=("enrol":Str)->S.cur=none
def dxs:HO->#[z]
 | .ins _ dx _=>[dx]
 | .frz _ u=>dxs u
 | _=>[]
open Classical in
noncomputable def zja(B:Addr->Prop)(H:Hp):Hp:=fun b=>if B b then none else H b
open Classical in
structure znf(B:Addr->Prop)(H:Hp):Prop where
 th:∀ b,B b->H b≠none
 cl:∀ a o,H a=#[d]->B a->∀ dx∈dxs o,B dx
 own:∀ a b,H b=#[c,.own,a]->B b->B a
 tup:∀ t xs,B t->H t≠#[A,xs]
inductive zjb(nu:#[p])(n:Nat):Sea->Prop where
 | nil {S:Sea} (e:S.std=[]) (o:SOk nu n S):zjb nu n S
 | snoc {S0 S:Sea} (h:zjb nu n S0) (st:O0 S0 S) (o:SOk nu n S):zjb nu n S
structure D22(nu:#[p])(D:Wj):Prop where
 aw:∀ i n,D≠.away i n
 dr:∀ ms,D=.draw ms->ms=[]
 sm:zb8 D
 en:∀ k g c,D=.enrol k g c->k∈nu\/badI k g c
def B22(d lp ll ln le:Addr):Addr->Prop:=fun x=>x=d\/x=lp\/x=ll\/x=ln\/x=le
structure zns(ca:CA)(nu:#[p])(d lp ll ln le:Addr)(A:SAd)(S:Sea)(n:Nat)(H:Hp):Prop where
 sea:Zw ca (zja (B22 d lp ll ln le) H) A S
 st:zne H d lp ll S
 i:I22 S
 hi:zjb nu n S
 lv:H ln=some (.lst (nu.map V.int))
 lw:∃ ys,H le=#[w,ys]
 nl:lp≠ln/\ll≠ln
 ne:lp≠le/\ll≠le
end G
namespace L2
open PySem PySem.Spec PyProof.Rows G
def rngV(lo:Int)(n:Nat):#[a]:=(List.range n).map fun i=>V.int (lo+(i:Nat))
theorem zas:∀ {n k:Nat} {us:List Value},us.length=n->(∀ (j:Nat) v,us[j]?=some v->RelV (f (k+j)) v)->Vals ((List.range' k n).map f) us
 | 0,k,[],_,_=>.nil
 | n+1,k,u :: us,hl,h=>by
   rw[List.range'_succ,zw3];refine .cons (h 0 u rfl) (zas (by simpa using hl) fun j v e=>?_);have:=h (j+1) v e;rw[show k+(j+1)=k+1+j by omega] at this;exact this
theorem F8(hc:X.calm=true):W8 X (.type "list") (fun xs H Q=>∃ (p:Addr) (lo hi:Int),xs=[.ref p]/\H p=some (.rng lo hi)/\(-(2 ^ 62)<=lo/\lo<2 ^ 62/\-(2 ^ 62)<=hi/\hi<2 ^ 62)/\(hi-lo).toNat<=2 ^ 24/\(hi-lo).toNat<=sizeLine/\∀ l,H l=none->Q (.ref l) (upd H l (.lst (rngV lo (hi-lo).toNat)))):=by
 intro pins s σ H xs us Q I r h;obtain⟨p,lo,hi,rfl,hp,⟨h1,h2,h3,h4⟩,h5,h6,q⟩:=h;obtain⟨u,rfl,rx⟩:=Rm r;cases rx;obtain⟨t,u,v,e⟩:=I.hok p _ hp;have e2:Builtin.Range.rangeSize lo hi 1=(((hi-lo).toNat:Nat):Int):=by rw[rangeSize_one];split<;>omega
 refine call_list_range (I.ok.hd hc) (show IsRange s.heap p lo hi 1 t u v from e) (small_one h1 h2 h3 h4) e2 h5 fun h' tk acc' c' hk hS' hacc=>?_;have hv:Vals (rngV lo (hi-lo).toNat) acc'.toList:=by
  unfold rngV;rw[List.range_eq_range'];refine zas (by rw[Array.length_toList];exact hacc.1) fun j v hj=>?_;obtain⟨tk,rfl⟩:=hacc.2 j v (by simpa using hj);rw[Nat.zero_add,Int.mul_one];exact#[C,tk]
 have hz:(rngV lo (hi-lo).toNat).length<=sizeLine:=by unfold rngV;rw[zwq,zxs];exact h6
 exact#[I,.ref s.heap.objs.size,_,I.laid (t':=tk) hk (zwz _) (show Y0 X.prog X.w _ h' _ (.lst (rngV lo (hi-lo).toNat)) from⟨hz,acc'.toList,c',hv,by simpa using hS'⟩),q _ (I.hok.fresh (zwz _))]
end L2
namespace G
open PySem PySem.Spec PyProof.Rows L2
def DrX(S0 S:Sea):Prop:=∀ d y,S.std=S0.std++[(d,y)]->(d.1=("draw up":Str)/\S0.cur=none)\/(d.1≠("draw up":Str)/\S0.cur.isSome=S.cur.isSome)
inductive zdr(E:Sea->Prop)(nu:#[p])(n:Nat):Sea->Prop where
 | nil {S:Sea} (e:S.std=[]) (o:SOk nu n S) (x:E S):zdr E nu n S
 | snoc {S0 S:Sea} (h:zdr E nu n S0) (st:O0 S0 S) (dr:DrX S0 S) (o:SOk nu n S) (x:E S):zdr E nu n S
def zml(r o:Int)(dr:Bool)(lp lo ll:Addr):#[X]:=[(.inr "rounds",.int r),(.inr "over",.int o),(.inr "drawn",.bl dr),(.inr "people",.ref lp),(.inr "out",.ref lo),(.inr "log",.ref ll)]
structure zng(H:Hp)(d lp lo ll:Addr)(S:Sea):Prop where
 dd:H d=#[c,.dK,zml S.len S.led.length S.cur.isSome lp lo ll]
 pp:H lp=some (.lst ((S.ppl.map (·.1)).map V.int))
 oo:∃ ots,H lo=#[w,ots]/\Yf H ots (S.out.map oiV)
 gg:∃ lts,H ll=#[w,lts]/\Yf H lts (S.std.map fun x=>Qt x.1)
 n1:lp≠lo
 n2:lp≠ll
 n3:lo≠ll
def B23(d lp lo ll:Addr)(X:Addr->Prop):Addr->Prop:=fun x=>x=d\/x=lp\/x=lo\/x=ll\/X x
structure znt(ca:CA)(E:Sea->Prop)(nu:#[p])(d lp lo ll:Addr)(X:Addr->Prop)(A:SAd)(S:Sea)(n:Nat)(H:Hp):Prop where
 sea:Zw ca (zja (B23 d lp lo ll X) H) A S
 st:zng H d lp lo ll S
 hi:zdr E nu n S
 xs:∀ x,X x->∃ ys,H x=#[w,ys]
 nx:∀ x,X x->x≠lp/\x≠lo/\x≠ll
structure D23(nu:#[p])(j:Nat)(D:Wj):Prop where
 dr:∀ ms,D=.draw ms->ms=[]
 sm:zb8 D
 en:∀ k g c,D=.enrol k g c->nu[j]?=some k/\1<=g/\g<=9/\1<=c/\c<=99
structure E24(S:Sea):Prop where
 ppl:S.ppl=[]
 out:S.out=[]
 st:(S.cur=none/\S.std=[])\/∃ s,S.cur=some s/\S.std=[((("draw up":Str),(s.ms.length:Int),atV S),none)]
 gv:∀ s,S.cur=some s\/s∈S.old->s.gv=List.replicate s.ms.length V.non
inductive zjc(ok:Addr->Prop)(H:Hp):#[a]->List Z2->Prop where
 | nil:zjc ok H [] []
 | cons {l:Addr} {ts:#[a]} {ls:#[a]} {s:Z2} {ss:List Z2} (h:#[y,H,l,ts]) (q:Yf H ts (s.ms.map pV)) (o:ok l) (r:zjc ok H ls ss):zjc ok H (.ref l :: ls) (s :: ss)
def zmm(r:Int)(lv:Addr)(v:V):#[X]:=[(.inr "rounds",.int r),(.inr "over",.ref lv),(.inr "listed",v)]
structure znh(ok:Addr->Prop)(H:Hp)(d lv:Addr)(v:V)(S:Sea):Prop where
 dd:H d=#[c,.dK,zmm S.len lv v]
 vv:∃ ls,H lv=#[w,ls]/\zjc ok H ls S.old
 li:Mo ok H v (S.cur.map (·.ms))
def B24(d lv lc:Addr):Addr->Prop:=fun x=>x=d\/x=lv\/x=lc
structure znu(K:Frag)(ca:CA)(d lv lc b:Addr)(cs ns:#[p])(v:V)(A:SAd)(S:Sea)(n:Nat)(H:Hp):Prop where
 sea:Zw ca (zja (B24 d lv lc) H) A S
 st:znh (fun x=>x∉A.fp/\¬ B24 d lv lc x) H d lv v S
 e:E24 S
 so:SOk [] n S
 cl:H lc=some (.lst (cs.map V.int))
 sc:Tz K A (zja (B24 d lv lc) H) b (ns.map V.int)
section
variable{S S' S1:Sea}{D:Wj}{Ds Es:List Wj}{v:V}{H H':Hp}{nu:#[p]}{n:Nat}
structure znv(S S':Sea):Prop where
 len:S'.len=S.len
 led:S'.led=S.led
 ppl:S'.ppl=S.ppl
end
structure D25(nu:#[p])(D:Wj):Prop where
 sm:zb8 D
 dr:∀ ms,D=.draw ms->ms.length<=100
 en:∀ n g c,D=.enrol n g c->1<=n/\1<=g/\1<=c/\c<=99/\(¬ badI n g c->n∈nu)
structure znn(S S1:Sea)(es:List P3)(k:Nat)(ps:List (Int×Int)):Prop where
 std:∃ std0 w1 w2,S1.std.map (·.1)=std0++[w1]++[w2]/\std0.length=98/\w1.1≠("enrol":Str)/\w2.1≠("enrol":Str)
 led:S1.led=S.led
 len:S1.len=S.len
 ppl:S1.ppl=es
 out:∀ p∈S1.out,p∈ps.take (k+1)
structure Sm(S:Sea):Prop where
 std:∀ x∈S.std,Z7 x.1.2.1/\Z7 x.1.2.2
 led:S.led.length<=S.len
 len:S.len<=60
end G
namespace L2
open PySem PySem.Spec PyProof.Rows G
theorem zfd:W8 X (.type "range") (fun xs H Q=>∃ i j:Int,xs=#[Q,i,j]/\∀ r,H r=none->Q (.ref r) (upd H r (.rng i j))):=by
 intro pins s σ H xs us Q I r h;obtain⟨i,j,rfl,q⟩:=h;obtain⟨u,v,rfl,rx,ry⟩:=zcm r;obtain⟨t,rfl⟩:=rx;obtain⟨t',rfl⟩:=ry;refine call_range_2 ?_;exact#[I,.ref s.heap.objs.size,_,I.laid (t':=s.toks+1) (fun b o e=>#[ah,_,e]) (zwz _) (show Y0 X.prog X.w _ _ _ (.rng i j) from⟨_,_,_,Heap.get?_push_size _ rfl⟩),q _ (I.hok.fresh (zwz _))]
inductive zmn(K:Frag)(tb:TE)(σ:L2.St)(Q:VK)(x:V)(H1:Hp):Prop where
 | mk(k)(_:TruV K x H1 k)(_:if k=true then Q x H1 else tb σ H1 Q)
def zni(K:Frag)(ta tb:TE):TE:=fun σ H Q=>ta σ H fun x H1=>zmn K tb σ Q x H1
theorem zk8{X:Cx}{K:Frag}{a b:Expr}{rest:List Expr}{pos:Pos}{ta tb:TE}(hK:X.K=K)(ha:PE X a ta)(hb:PE X (.BoolOp .Or (b :: rest) pos) tb):PE X (.BoolOp .Or (a :: b :: rest) pos) (zni K ta tb):=by
 subst hK;intro pins s σ H Q I h;refine BoolOp_or (thn (ha pins s σ H _ I h) fun v s1 ⟨x,H1,I1,r1,q1⟩=>?_);obtain⟨k0,t0,q0⟩:=q1;refine thn (zfs pins s1 σ H1 x v (fun k H2=>if k=true then Q x H2 else tb σ H2 Q) I1 r1 ⟨k0,t0,q0⟩) fun k s2 ⟨H2,I2,q2⟩=>?_;cases k with
 | false=>exact hb pins s2 σ H2 Q I2 q2
 | true=>exact⟨x,H2,I2,r1,q2⟩
end L2
namespace G
open PySem PySem.Spec PyProof.Rows L2
inductive Qu where
 | mat (i:Int)|go (i:Int)|lef (i:Int)|wh (i:Int)|cha (i:Int)|whe (i n:Int)|awa (i n:Int)|ref_ (n:Int)|mayQ (k:Int)|rea (n k:Int)
def Qu.row:Qu->#[a]
 | .mat i=>[.str "matches",.int i]|.go i=>[.str "goes",.int i]|.lef i=>[.str "left",.int i]|.wh i=>[.str "why",.int i]|.cha i=>[.str "chains",.int i]
 | .whe i n=>#[S,.str "where",i,n]|.awa i n=>#[S,.str "is away",i,n]|.ref_ n=>[.str "referee",.int n]|.mayQ k=>[.str "may",.int k]|.rea n k=>#[S,.str "reasons",n,k]
def Qu.small:Qu->Prop
 | .mat i|.go i|.lef i|.wh i|.cha i|.ref_ i|.mayQ i=>Z7 i
 | .whe i n|.awa i n|.rea i n=>Z7 i/\Z7 n
def dueR(S:Sea)(i:Int)(r:Option Ref):Option Ref:=if i<1\/(S.len:Int)<i then some .noRound else if (Y7 S i).isSome=true then r else some .notDrawn
def dueN(S:Sea)(n:Int)(r:Option Ref):Option Ref:=if n∈S.ppl.map (·.1) then r else some .unk
def dueK(S:Sea)(k:Int):Option Ref:=match S.cur with|none=>some .notDrawn|some s=>if k<0\/(s.ms.length:Int)<=k then some .noMatch else none
def Qu.due(S:Sea):Qu->Option Ref
 | .mat i|.go i|.lef i|.wh i|.cha i=>dueR S i none
 | .whe i n=>dueR S i (dueN S n none)
 | .awa i n=>if i<1\/(S.len:Int)<i then some .noRound else dueN S n none
 | .ref_ n=>dueN S n none
 | .mayQ k=>dueK S k
 | .rea n k=>if S.cur.isSome=true then dueN S n (dueK S k) else some .notDrawn
inductive K9(ca:CA)(vs:#[a])(H:Hp)(Q:VK)(E:XK):Prop where
 | mk(A:SAd)(S:Sea)(n i:Int)(_:vs=#[S,.ref A.p,n,i])(_:#[K])(_:Z7 n)(_:Z7 i)(_:(∀ s,S.cur=some s->S.led.length<S.len))(_:S.led.length<=1000)(_:(S.cur=none->E (.ref ca.notDrawn) none H))(_:∀ s,S.cur=some s->(n∉S.ppl.map (·.1)->∀ H',Same H H'->E (.ref ca.unk) none H')/\(n∈S.ppl.map (·.1)->(i<0\/(s.ms.length:Int)<=i->∀ H',Same H H'->E (.ref ca.noMatch) none H')/\∀ (k:Nat) m g c,i=(k:Int)->s.ms[k]?=some m->(n,g,c)∈S.ppl->∀ l H',H' l=some (.lst ((whyS S.led n g c m.1 m.2.1 m.2.2 (pIn S.out (atV S) (n,g,c)) S.rest).map V.str))->Same H H'->H l=none->Q (.ref l) H'))
inductive Gn(K:Frag)(ca:CA)(vs:#[a])(H:Hp)(Q:VK)(E:XK):Prop where
 | mk(A:SAd)(S:Sea)(t:Addr)(q:Qu)(nu:#[p])(n:Nat)(_:vs=[.ref A.p,.ref t])(_:#[K])(_:#[R,H,t,q.row])(_:q.small)(_:SOk nu n S)(_:Sl n S)(_:n<=500)(_:(∀ r,q.due S=some r->∀ H',#[q]->E (.ref (r.cls ca)) none H'))(_:(q.due S=none->∀ v H',#[q]->Q v H'))
inductive D8(K:Frag)(ca:CA)(vs:#[a])(H:Hp)(Q:VK)(_:XK):Prop where
 | mk(A:SAd)(S:Sea)(t:Addr)(q:Qu)(nu:#[p])(n:Nat)(_:vs=[.ref A.p,.ref t])(_:#[K])(_:#[R,H,t,q.row])(_:q.small)(_:SOk nu n S)(_:Sl n S)(_:n<=500)(_:(∀ r,q.due S=some r->∀ u l H',H' u=#[A,[.str "refused",.ref l]]->H' l=#[w,[.str r.name,.str "ValueError"]]->#[q]->H u=none->#[M,u]))(_:(q.due S=none->∀ u v H',H' u=#[A,[.str "told",v]]->#[q]->#[M,u]))
def rW:Option Ref->Str|some r=>r.name|none=>""
inductive zhv(K:Frag)(vs:#[a])(H:Hp)(Q:VK)(_:XK):Prop where
 | mk(ok:Addr->Prop)(mb:Bool)(l t:Addr)(ds:#[z])(d:Addr)(P:Pg)(S:Sea)(q:Qu)(nu:#[p])(n:Nat)(_:vs=[.ref l,.ref t])(_:H l=some (.lst ((ds++[d]).map V.ref)))(_:PgAt ok H d P)(_:#[R,H,t,q.row])(_:q.small)(_:RelB mb P S)(_:SOk nu n S)(_:nu.length<=100)(_:∀ H',Same H H'->Q (.str (rW (q.due S))) H')
inductive Ja(K:Frag)(ca:CA)(vs:#[a])(H:Hp)(Q:VK)(_:XK):Prop where
 | mk(mb:Bool)(A:SAd)(l le:Addr)(ts:#[a])(es:List P3)(ds:#[z])(d:Addr)(P:Pg)(S:Sea)(nu:#[p])(n:Nat)(_:vs=[.ref A.p,.ref l,.ref le])(_:#[K])(_:H l=some (.lst ((ds++[d]).map V.ref)))(_:l∉A.fp)(_:Full mb (·∉A.fp) H nu n ds d P S)(_:#[y,H,le,ts])(_:le∉A.fp)(_:Yf H ts (es.map enV))(_:(es.map (·.1)).Nodup)(_:(∀ x∈es,x.1∈nu/\¬ badI x.1 x.2.1 x.2.2/\x.1∉S.ppl.map (·.1)))(_:S.ppl.length+es.length<=30)(_:n+es.length<=90)(_:S.cur=none)(_:(es≠[]->S.led.length<S.len))(_:∀ A' l' ds' d' P' S' H',Zw ca H' A' S'->H' l'=#[T,(ds'++[d']).map,V.ref]->l'∉A'.fp->Full mb (·∉A'.fp) H' nu (n+es.length) ds' d' P' S'->FrN A A' H H'->S'.cur=none->S'.led=S.led->S'.len=S.len->#[M,l'])
inductive zb9(K:Frag)(ca:CA)(vs:#[a])(H:Hp)(Q:VK)(_:XK):Prop where
 | mk(A:SAd)(S:Sea)(mb:Bool)(l ln:Addr)(ds:#[z])(d:Addr)(P:Pg)(c:Int)(ns nu:#[p])(n:Nat)(_:vs=[.ref A.p,.ref l,.int c,.ref ln])(_:#[K])(_:H l=some (.lst ((ds++[d]).map V.ref)))(_:Full mb (·∉A.fp) H nu n ds d P S)(_:Sl n S)(_:n<=500)(_:H ln=some (.lst (ns.map V.int)))(_:ns.length<=100)(_:nu.length<=100)(_:(∀ x∈ns,Z7 x))(_:∀ H',Same H H'->Q (.bl true) H')
inductive Gp(K:Frag)(ca:CA)(vs:#[a])(H:Hp)(Q:VK)(_:XK):Prop where
 | mk(A:SAd)(S:Sea)(mb:Bool)(ds:#[z])(d:Addr)(P:Pg)(nu:#[p])(n:Nat)(_:vs=[.ref A.p,.ref d])(_:#[K])(_:Full mb (·∉A.fp) H nu n ds d P S)(_:n<=500)(_:∀ H',Same H H'->Q (.bl true) H')
theorem ShOk.q(h:ShOk n s):(∀ x∈s.gv,oneV x)/\s.gv.length<=100/\Dv s.may s.gv:=⟨h.fi.one,by have h1:=h.fi.len;have h2:=h.ml;have h3:=h.ms;omega,zap h.fi h.st⟩
theorem Wr(o:SOk nu n S)(h:Sl n S)(e:Y7 S i=some s):ShOk n s:=by
 unfold Y7 at e;split at e
 ·exact h s (zw4 e)
 ·split at e
  ·cases e
  ·exact o.shOk e
theorem Vq(si:Z7 i)(o:S.old.length=S.led.length)(hE:∀ x,dueR S i r=some x->E (.ref (x.cls ca)) none H)(hk:∀ s,Y7 S i=some s->dueR S i r=r->k s):Sj ca H S i E k:=by
 refine⟨si,o,?_⟩;unfold dueR at hE hk;by_cases c:i<1\/(S.len:Int)<i
 ·rw[#[l,c]] at hE ⊢;exact hE _ rfl
 rw[#[g,c]] at hE hk ⊢;refine⟨fun z=>?_,fun s hs=>hk s hs ?_⟩
 ·rw[z,if_neg ⋯] at hE;exact hE _ rfl
 ·rw[hs,#[l,show (some s).isSome=true from rfl]]
section
variable{K:Frag}{σ:L2.St}{H:Hp}{t:Addr}{w w':Str}{rw:#[a]}{A y:TS}{D:Q7}
theorem Yb(hs:σ[1]?=some #[b,t])(ht:#[R,H,t,(.str w :: rw)])(hw:#[j,w=w']=false)(h:y D σ H):Zx (Ip (Ma (tOp rEq (tOp (Je K) (tVar 1) (tC (V.int 0))) (tC (V.str w')))) A E3) y D σ H :=
 Xi (X0 (b:=false) (fun Q q=>⟨_,hs,t,_,_,_,rfl,rfl,#[P],Zz (j:=0) rfl,rfl,_,by rw[Tw hw],q⟩) (iteF (Zy h)))
theorem Sy(hs:σ[1]?=some #[b,t])(ht:#[R,H,t,(.str w :: rw)])(h:te σ H D.rt):Zx (Ip (Ma (tOp rEq (tOp (Je K) (tVar 1) (tC (V.int 0))) (tC (V.str w)))) (zjv te) E3) y D σ H :=
 Xi (X0 (b:=true) (fun Q q=>⟨_,hs,t,_,_,_,rfl,rfl,#[P],Zz (j:=0) rfl,rfl,_,by rw[C5],q⟩) (iteT h))
def Gq:#[a]:=[.str "enrol",.str "away",.str "draw up",.str "close",.str "take back"]
theorem zk9(hs:σ[1]?=some #[b,t])(ht:#[R,H,t,(.str w :: rw)])(hw:inV (.str w) Gq=false)(h:∀ H',Same H H'->y D σ H'):Zx (Ip (Ma (tOp (rIn K false) (tOp (Je K) (tVar 1) (tC (V.int 0))) (tLst (Va (tC (V.str "enrol")) (Va (tC (V.str "away")) (Va (tC (V.str "draw up")) (Va (tC (V.str "close")) (Va (tC (V.str "take back")) tNil)))))))) A E3) y D σ H:=by
 refine Xi ⟨_,hs,t,_,_,_,rfl,rfl,#[P],Zz (j:=0) rfl,(by show 5<=sizeLine;rw[sizeLine_eq];decide),fun l fl=>⟨l,Gq,rfl,#[L,Zc],rfl,rfl,?_⟩⟩;rw[show (if false=true then !inV (V.str w) Gq else inV (V.str w) Gq)=false from hw];exact#[t,false,iteF (Zy (h _ (Ze fl)))]
theorem Qu.word(q:Qu):∃ w rw,q.row=.str w :: rw/\inV (.str w) Gq=false:=by
 cases q<;>exact⟨_,_,rfl,by decide +kernel⟩
theorem L8(h:Gr u σ H b)(h2:b=true->∀ H',#[q]->Gr v σ H' c)(e:b=false->c=false):Gr (zh1 u v) σ H c:=fun Q q=>h _ fun H1 s1=>by
 cases b with
 | true=>exact h2 rfl H1 s1 _ fun H2 s2=>q H2 (s1.trans s2)
 | false=>rw[if_neg ⋯];have:=q H1 s1;rwa [e rfl] at this
theorem L9(hs:σ[1]?=some #[b,t])(ht:#[R,H,t,(.str w :: rw)])(hw:inV (.str w) [.str x,.str z]=b):Gr (Ma (tOp (rIn K false) (tOp (Je K) (tVar 1) (tC (V.int 0))) (tLst (Va (tC (V.str x)) (Va (tC (V.str z)) tNil))))) σ H b:=fun Q q=>by
 refine⟨_,hs,t,_,_,_,rfl,rfl,#[P],Zz (j:=0) rfl,sz2,fun l fl=>⟨l,[.str x,.str z],rfl,#[L,Zc],rfl,rfl,?_⟩⟩;rw[show (if false=true then !inV (V.str w) [.str x,.str z] else inV (V.str w) [.str x,.str z])=b from hw];exact#[t,b,q _ (Ze fl)]
theorem zds(hs:σ[1]?=some #[b,t])(ht:#[R,H,t,(.str w :: rw)])(hw:#[j,w=x]=b):Gr (Ma (tOp rEq (tOp (Je K) (tVar 1) (tC (V.int 0))) (tC (V.str x)))) σ H b:=Wz fun Q q=>⟨_,hs,t,_,_,_,rfl,rfl,#[P],Zz (j:=0) rfl,rfl,_,by rw[show #[j,V.str w=V.str x]=decide (w=x) by by_cases c:w=x<;>simp[c],hw],q⟩
theorem zhw(hs:σ[1]?=some #[b,t])(ht:#[R,H,t,(.str w :: rw)])(hw:(!#[j,w=x])=b):Gr (Ma (tOp rNe (tOp (Je K) (tVar 1) (tC (V.int 0))) (tC (V.str x)))) σ H b:=Wz fun Q q=>⟨_,hs,t,_,_,_,rfl,rfl,#[P],Zz (j:=0) rfl,rfl,_,by rw[show #[j,V.str w=V.str x]=decide (w=x) by by_cases c:w=x<;>simp[c],hw],q⟩
theorem zhx{j k:Nat}{m:Int}{lk:Addr}{ns:#[p]}(hs:σ[1]?=some #[b,t])(ht:H t=some (.tup rw))(hj:rw[j]?=some (.int m))(hk:σ[k]?=some #[b,lk])(hl:H lk=some (.lst (ns.map V.int))):Gr (Ma (tOp (rIn K true) (tOp (Je K) (tVar 1) (tC (V.int j))) (tVar k))) σ H (!#[j,m∈ns]):=Wz fun Q q=>⟨_,hs,t,_,_,_,rfl,rfl,#[P],Zz (j:=j) hj,_,hk,lk,_,rfl,#[L,hl],rfl,D7 _,_,rfl,by rw[#[l,rfl],Ig];exact q⟩
end
theorem zca(o:S.old.length=S.led.length)(h:1<=i):(Y7 S i).isSome=!#[j,(S.led.length:Int)+(if S.cur.isSome=true then 1 else 0)<i]:=by
 unfold Y7;by_cases c:i<=(S.led.length:Int)
 ·rw[#[l,c],zws ⋯];rw[zw1 (by split<;>omega)];rfl
 ·rw[#[g,c]];by_cases c2:(S.led.length:Int)+1<i
  ·rw[#[l,c2],zwy (by split<;>omega)];rfl
  ·rw[#[g,c2]];cases S.cur with
   | none=>rw[zwy (by rw[if_neg ⋯];omega)];rfl
   | some s=>rw[zw1 (by rw[#[l,show (some s).isSome=true from rfl]];omega)];rfl
end G
namespace L2
open PySem PySem.Spec PyProof.Rows G
inductive LNe(K:Frag)(x:Str)(st:Stmt):Prop where
 | mk {f:Addr} {oc kV dc pm cd ct:Value} {od an:Option Addr} {sl:Array (Option Value)} (b:NsB K x f) (l:LkF K f x x st oc kV dc pm cd ct od an sl) (c:PySem.W.codeIn K cd x=true) (k:PySem.W.keepIn K (.ref f)=true)
inductive LMe(K:Frag)(C:Addr)(x q:Str)(st:Stmt):Prop where
 | mk {f:Addr} {oc kV dc pm cd ct:Value} {od an:Option Addr} {sl:Array (Option Value)} (b:FdB K C x f) (l:LkF K f x q st oc kV dc pm cd ct od an sl) (c:PySem.W.codeIn K cd q=true) (k:PySem.W.keepIn K (.ref f)=true) (i:PySem.W.isFn K (.ref f)=true)
structure zhy(K:Frag)(C:Addr):Prop where
 pg:PySem.W.plainGet K C Str.empty=true
 hd:PySem.W.hasDictIn K C=true
 po:PySem.W.plainOver K C=true
 sa:PySem.W.findIn K (.ref C) "__setattr__"=some #[c,.builtin,"object.__setattr__"]
 mk_:PySem.W.makesIn K C=true
 kc:PySem.W.keepIn K (.ref C)=true
structure znj(K:Frag)(c:CA)(e:Addr)(N:Ref->Prop):Prop where
 ga:∀ r:Ref,N r->PySem.W.findIn K (.ref (r.cls c)) "__getattribute__"=some #[c,.builtin,"BaseException.__getattribute__"]
 gk:∀ r:Ref,N r->PySem.W.findIn K (.ref (r.cls c)) "__getattr__"=some none
 at_:∀ r:Ref,N r->PySem.W.findIn K (.ref (r.cls c)) "__class__"=some #[c,.builtin,"object.__class__"]
 mx:∀ r:Ref,N r->PySem.W.mroIn K (r.cls c) (.type "BaseException")=some true
 mo:∀ r:Ref,N r->PySem.W.mroIn K (r.cls c) (.type "object")=some true
 mB:∀ r:Ref,N r->PySem.W.mroIn K (r.cls c) (.ref e)=some true
 kit:∀ r t:Ref,N r->PySem.W.kitOne K (.ref (r.cls c)) (.ref (t.cls c))=some #[j,r=t]
 kitV:∀ r:Ref,N r->PySem.W.kitOne K (.ref (r.cls c)) (.type "ValueError")=some true
section
variable{P:Program}{w:World}{base h:Heap}{K:Frag}{mg:#[V]}{x y q:Str}{k:Nat}{ps:#[B]}{sp:Sp}{C:Addr}{st:Stmt}
theorem dE(Z:XG P w base K mg h)(l:LNe K x st)(ok:∀ {f fd},#[k,x,x,st]->FnOk P w K mg base #[i] k f fd ps sp)(hb:BnA x x st ps:=by first|exact bn1|exact bn2|exact bn3|exact bn4|exact bn5):Ya P w K mg base x k ps sp:=by
 cases l with
 | mk b l c k=>exact dN Z ⟨b,l,c,k⟩ ok hb
theorem mE(Z:XG P w base K mg h)(l:LMe K C x q st)(ok:∀ {f fd},#[k,x,q,st]->FnOk P w K mg base #[i] k f fd ps sp)(hb:BnA x q st ps:=by first|exact bn1|exact bn2|exact bn3|exact bn4|exact bn5):Zp P w K mg base C x k ps sp:=by
 cases l with
 | mk b l c k i=>exact mM Z ⟨b,l,c,k,i⟩ ok hb
theorem nE(Z:XG P w base K mg h)(l:LMe K C "__init__" q st)(o:zhy K C)(c:PySem.W.nsIn K mainGlobals y=some #[b,C])(ok:∀ {f fd},#[k,"__init__",q,st]->FnOk P w K mg base #[i] k f fd ps sp)(hb:BnA "__init__" q st ps:=by first|exact bn1|exact bn2|exact bn3|exact bn4|exact bn5):To P w K mg base y C k ps sp:=by
 cases l with
 | mk b l c' k i=>exact nM Z ⟨b,l,c',k,i⟩ o.mk_ o.kc c ok hb
end
end L2
namespace K26
open PySem PySem.Spec PyProof.Rows L2 G
def top(i:Nat):Stmt:=PySem.Challenge.pw_whistlebook_k26_questions_refused.main.body.getD i (.Pass ⟨0,0,0,0⟩)
structure Ad where
 zo9:Addr
 zog:Addr
 zou:Addr
 zoh:Addr
 zok:Addr
 zol:Addr
 zpp:Addr
 zo2:Addr
 zo0:Addr
 zpc:Addr
 zo8:Addr
 zo1:Addr
 zqa:Addr
 zpq:Addr
 zod:Addr
 zot:Addr
 zn1:Addr
 zn3:Addr
 znz:Addr
 znw:Addr
abbrev ca(a:Ad):CA:=⟨a.znw,a.znz,a.zn3,a.zn1,a.zog,a.zou,a.zoh,a.zok,a.zol,a.zpp,a.zo2,a.zo0,a.zpc,a.zo8,a.zo1,a.zqa,a.zpq,a.zod,a.zot⟩
structure Tx(K:Frag)(mg:#[V])(a:Ad):Prop where
 zox:Cls K a.zn1
 zrc:Xv K a.zn1 "rounds"
 zp7:Xv K a.zn1 "meetings"
 zoc:Cls K a.zn3
 zpa:Xv K a.zn3 "entries"
 zn6:Cls K a.znz
 zpw:Xv K a.znz "listed"
 zso:Xv K a.znz "lists"
 zp8:Xv K a.znz "given"
 zsu:Xv K a.znz "gaps"
 znx:Cls K a.znw
 zrs:Xv K a.znw "length"
 ztb:Xv K a.znw "rest"
 zow:Xv K a.znw "roster"
 zpj:Xv K a.znw "ledger"
 zqb:Xv K a.znw "absent"
 zrq:Xv K a.znw "sheets"
 zos:Xv K a.znw "sheet"
 zpb:Xv K a.znw "standing"
 zts:Qy K mg "OutOfRange" a.zog
 zsq:Qy K mg "TooManyMatches" a.zol
 zt5:Qy K mg "SameClub" a.zpp
 zs5:Qy K mg "KnownReferee" a.zou
 zsg:Qy K mg "TooManyReferees" a.zoh
 zst:Qy K mg "UnknownReferee" a.zok
 ztl:Qy K mg "NoSuchMatch" a.zo2
 ztv:Qy K mg "SeasonOver" a.zo8
 zt9:Qy K mg "DrawnUp" a.zqa
 ztk:Qy K mg "NoSuchRound" a.zo0
 zte:Qy K mg "TooManyDeeds" a.zot
 zs7:Qy K mg "NotDrawn" a.zpq
 zt2:Qy K mg "RoundOver" a.zpc
 ztj:Qy K mg "AwayAlready" a.zo1
 zr2:Qy K mg "NothingToTakeBack" a.zod
 zt1:mg "max"=none
 zoi:mg "len"=none
 ztr:mg "tuple"=none
 zpx:mg "list"=none
 zqw:mg "enumerate"=none
 zpf:mg "range"=none
 zsl:mg "sorted"=none
 zua:mg "zip"=none
 zn5:mg "isinstance"=none
 zsv:mg "int"=none
 zt3:mg "bool"=none
 zt7:mg "dict"=none
 zt8:mg "min"=none
 zrm:mg "ValueError"=none
 ztt:#[ag,"BookError",a.zo9]
 zth:#[ag,"OutOfRange",a.zog]
 zs0:#[ag,"KnownReferee",a.zou]
 zse:#[ag,"TooManyReferees",a.zoh]
 zsm:#[ag,"UnknownReferee",a.zok]
 zsk:#[ag,"TooManyMatches",a.zol]
 zt0:#[ag,"SameClub",a.zpp]
 ztg:#[ag,"NoSuchMatch",a.zo2]
 zs6:#[ag,"NoSuchRound",a.zo0]
 ztx:#[ag,"RoundOver",a.zpc]
 zti:#[ag,"SeasonOver",a.zo8]
 zta:#[ag,"AwayAlready",a.zo1]
 zt6:#[ag,"DrawnUp",a.zqa]
 ztz:#[ag,"NotDrawn",a.zpq]
 zrr:#[ag,"NothingToTakeBack",a.zod]
 zsz:#[ag,"TooManyDeeds",a.zot]
 gc_Ledger:#[ag,"Ledger",a.zn1]
 gc_Roster:#[ag,"Roster",a.zn3]
 gc_Sheet:#[ag,"Sheet",a.znz]
 gc_Season:#[ag,"Season",a.znw]
 ztq:zgd K a.zo9
 ei:∀ r:Ref,r=r->Cj K #[e,r.cls]
 mB:∀ r:Ref,r=r->PySem.W.mroIn K #[e,r.cls] (.ref a.zo9)=some true
 kit:∀ r t:Ref,r=r->PySem.W.kitOne K (.ref #[e,r.cls]) (.ref #[e,t.cls])=some #[j,r=t]
 kitV:∀ r:Ref,r=r->PySem.W.kitOne K (.ref #[e,r.cls]) (.type "ValueError")=some true
 zqz:∃ t,mg "MOST_NUMBER"=some (.int 999 t)
 zqj:∃ t,mg "MOST_GRADE"=some (.int 9 t)
 zqc:∃ t,mg "MOST_CLUB"=some (.int 99 t)
 zpk:∃ t,mg "MOST_REFEREES"=some (.int 30 t)
 zps:∃ t,mg "MOST_MATCHES"=some (.int 20 t)
 zq0:∃ t,mg "MOST_ROUNDS"=some (.int 60 t)
 zr0:∃ t,mg "MOST_REST"=some (.int 10 t)
 zqg:∃ t,mg "MOST_DEEDS"=some (.int 100 t)
end K26
set_option maxHeartbeats 64000000
namespace K26
open PySem PySem.Spec PyProof.Rows L2 G
local macro_rules | `(tactic| walk_at "rd")=>`(tactic| repeat (first|(refine⟨_,rfl,?_⟩)|(refine⟨_,_,rfl,rfl,?_⟩)|(refine And.intro (show CMul _ _ from Or.inr (And.intro (by decide) (by decide))) ?_)|(refine And.intro (show CMul _ _ from Or.inl (And.intro (by decide) (by decide))) ?_)|(refine And.intro (show CDiv _ _ from(And.intro (by decide) (by decide))) ?_)|(refine And.intro (show CPow _ _ from(And.intro (by decide) (And.intro (by decide) (by decide)))) ?_)|(refine And.intro (show (0:Int)<_ from(by decide)) ?_)))
local macro_rules | `(tactic| walk_at "if")=>`(tactic| dsimp only[X3,List.set])
local macro_rules | `(tactic| walk_at "ar")=>`(tactic| (intro _ _ _ _ h;first|(cases h;subst_vars;rfl)|repeat (first|(obtain⟨h1,_⟩:=h;subst h1;rfl)|(obtain⟨_,h⟩:=h))))
section
variable{P:Program}{w:World}{K:Frag}{mg:#[V]}{base:Heap}{a:Ad}{f:Addr}{fd:FuncData}
abbrev Qe:Stmt:=top 2
theorem O1:#[r,["number","club","ledger","rest","rested"],["number","club","ledger","rest"],Qe]:=fnS
theorem F9(F:#[k,"met_lately","met_lately",Qe])(T:#[n])(zn8:Zp P w K mg base a.zn1 "over" 1 ["self"] (Lp a.zn1))(zrj:Zp P w K mg base a.zn1 "met" 1 ["self","number","club"] (zji a.zn1)):FnOk P w K mg base #[i] 2 f fd ["number","club","ledger","rest"] (Ag a.zn1):=by
 refine #[o,O1];obtain⟨p,lr,ld,Rs,n,c,rest,rfl,LA,h⟩:=h;refine⟨_,(Zb (pS 4 O1.nd (Zq (E4 rfl) (by rfl) T.zt1 PyProof.Rows.boot_max (Za (Zs Q9 (Yi (pv 2) T.zox zn8 (hr.mono ⋯) Zj) (pv 3)) (Za Zg Zd))))
 (Zf (Zn (Vr Ti (Yg (pv 2) T.zox zrj (hr.mono ⋯) Zj (Za (pv 0) (Za (pv 1) Zd))) (pv 4) (Zu _))))),?_⟩
 obtain⟨⟨dx,hp⟩,_,_⟩:=id LA;refine⟨_,rfl,p,dx,_,rfl,hp,Hi ⋯ ⋯,p,lr,ld,Rs,rfl,LA,_,rfl,_,_,rfl,rfl,_,_,rfl,?_⟩;refine⟨_,rfl,p,dx,_,rfl,hp,Hi ⋯ ⋯,_,rfl,_,rfl,p,lr,ld,Rs,n,c,rfl,LA,fun H' s'=>#[ac,_,_,_,rfl,h H' s']⟩
abbrev Ka:Stmt:=top 3
theorem Ws:#[r,["referee","match","out","ledger","rest","number","grade","club","home","guest","asked","told"],["referee","match","out","ledger","rest"],Ka]:=fnS
theorem Gs(F:#[k,"reasons","reasons",Ka])(T:#[n])(zpv:Ya P w K mg base "met_lately" 2 ["number","club","ledger","rest"] (Ag a.zn1)):FnOk P w K mg base #[i] 3 f fd ["referee","match","out","ledger","rest"] (Lr K a.zn1):=by
 refine #[o,Ws];obtain⟨t1,t2,p,lr,ld,Rs,n,g,c,h,gu,d,rest,o,rfl,h1,h2,LA,hq⟩:=h;refine⟨_,(Zb (pS 5 Ws.nd (pI (iU K) (pv 0) Zg))
 (Zb (pS 6 Ws.nd (pI (iU K) (pv 0) Zg))
 (Zb (pS 7 Ws.nd (pI (iU K) (pv 0) Zg))
 (Zb (pS 8 Ws.nd (pI (iU K) (pv 1) Zg))
 (Zb (pS 9 Ws.nd (pI (iU K) (pv 1) Zg))
 (Zb (pS 10 Ws.nd (pI (iU K) (pv 1) Zg))
 (Zb (pS 11 Ws.nd (Z1 Zd))
 (Zb (Z3 (Ss (pv 2))
  (Zf (Y5 (pv 11) Zl))
  Zt)
 (Zb (Z3 (Zo Ti (pv 10) (pv 6) (Zu _))
  (Zf (Y5 (pv 11) Zl))
  Zt)
 (Zb (Z3 (PW.pt (Rk (Zo Xd (pv 7) (pv 8) (Zu _)) (V9 (Zo Xd (pv 7) (pv 9) (Zu _)))))
  (Zf (Y5 (pv 11) Zl))
  Zt)
 (Zb (Z3 (PW.pt (Rk (Ss (pF zpv hr (Za (pv 5) (Za (pv 8) (Za (pv 3) (Za (pv 4) Zd)))))) (V9 (Ss (pF zpv hr (Za (pv 5) (Za (pv 9) (Za (pv 3) (Za (pv 4) Zd)))))))))
  (Zf (Y5 (pv 11) Zl))
  Zt)
 (Zf (Zn (pv 11)))))))))))))),?_⟩
 show let y1:TS:=_;let y2:TS:=Zx _ y1;let y3:TS:=Zx _ y2;let y4:TS:=Zx _ y3;let y5:TS:=Zx _ y4;let y6:TS:=Zx _ y5;let y7:TS:=Zx _ y6;let y8:TS:=Zx _ y7;let y9:TS:=Zx _ y8;let y10:TS:=Zx _ y9;let y11:TS:=Zx _ y10;Zx _ y11 _ _ _;intro y1 y2 y3 y4 y5 y6 y7 y8 y9 y10 y11;refine⟨_,rfl,t1,_,_,_,rfl,rfl,SqT.of h1,show atI [V.int n,V.int g,V.int c] 0=some _ from rfl,_,rfl,t1,_,_,_,rfl,rfl,SqT.of h1,show atI [V.int n,V.int g,V.int c] 1=some _ from rfl,_,rfl,t1,_,_,_,rfl,rfl,SqT.of h1,show atI [V.int n,V.int g,V.int c] 2=some _ from rfl,?_⟩;refine⟨_,rfl,t2,_,_,_,rfl,rfl,SqT.of h2,show atI [V.int h,V.int gu,V.int d] 0=some _ from rfl,_,rfl,t2,_,_,_,rfl,rfl,SqT.of h2,show atI [V.int h,V.int gu,V.int d] 1=some _ from rfl,_,rfl,t2,_,_,_,rfl,rfl,SqT.of h2,show atI [V.int h,V.int gu,V.int d] 2=some _ from rfl,?_⟩;refine#[ap,fun l hl=>?_];have s1:=Ze (o:=.lst []) hl;have q1:upd H l (.lst []) l=some (.lst (([]:List Str).map V.str)):=Zc;generalize upd H l (.lst [])=H1 at s1 q1;walk_at "if";have b1:=Ls o "away";have b2:=Ls (decide (g<d)) "grade";have b3:=Ls (#[j,c=h]||#[j,c=gu]) "club";refine Sg (b:=o) (H0:=H) (Wz fun Q q=>#[I,_,rfl,_,q]) hl s1 q1 ⋯ rfl fun H2 s2 q2 _=>?_;rw[List.nil_append] at q2;refine Sg (b:=decide (g<d)) (H0:=H) (Wz fun Q q=>⟨_,rfl,_,rfl,_,_,rfl,rfl,_,rfl,q⟩) hl s2 q2 ⋯ rfl fun H3 s3 q3 _=>?_;refine Sg (b:=decide (c=h)||decide (c=gu)) (H0:=H) (Wz (Mf (fun Q q=>⟨_,rfl,_,rfl,rfl,_,rfl,Pb▸q⟩) fun Q q=>⟨_,rfl,_,rfl,rfl,_,rfl,Pb▸q⟩)) hl s3 q3 (by rw[zwt];omega) rfl fun H4 s4 q4 _=>?_;refine Sg (b:=Qs Rs n h rest||Qs Rs n gu rest) (H0:=H) (Hj (fun Q q=>⟨_,rfl,_,rfl,_,rfl,_,rfl,p,lr,ld,Rs,n,h,rest,rfl,LA.same s4,fun H5 s5=>#[t,_,q H5 s5]⟩) fun H5 s5 Q q=>⟨_,rfl,_,rfl,_,rfl,_,rfl,p,lr,ld,Rs,n,gu,rest,rfl,LA.same (s4.trans s5),fun H6 s6=>#[t,_,q H6 s6]⟩) hl s4 q4 (by rw[zwt,zwt];omega) rfl fun H5 s5 q5 _=>?_;refine#[t,_,hq l H5 ?_ s5 hl];unfold whyS;rw[q5,zyf,zyf]
abbrev Vx:Stmt:=Z0 (top 24) 0
theorem Np:#[an,Vx]:=fnS
theorem Nq(F:#[k,"__init__","Ledger.__init__",Vx])(T:#[n]):FnOk P w K mg base #[i] 1 f fd ["self"] (zc5 a.zn1):=by
 refine #[o,Np];obtain⟨p,dx,rfl,hp,h⟩:=h;refine⟨_,(Zb (Y9 (K:=K) rfl (pv 0) (Z1 Zd) rfl)
 (Zf (Y9 (K:=K) rfl (pv 0) Iy rfl))),?_⟩
 refine#[ap,fun lr hlr=>?_];have np:p≠lr:=Zh hp hlr;refine⟨_,rfl,p,a.zn1,dx,[],rfl,(by rw[Zi np];exact hp),T.zox,T.zrc,⋯,?_⟩;intro ld hld;have n1:ld≠p:=fun z=>by rw[z,Zc] at hld;cases hld
 have n2:ld≠lr:=fun z=>by rw[z,Zi (Ne.symm np),Zc] at hld;cases hld
 have hld0:H ld=none:=by rw[Zi n1,Zi n2] at hld;exact hld
 refine⟨_,rfl,p,a.zn1,dx,[("rounds",.ref lr)],rfl,(by rw[Zi (Ne.symm n1),Zc];rfl),T.zox,T.zp7,(by show 1<1000;decide),?_⟩;rw[zme];refine h lr ld _ ⟨⟨dx,Zc⟩,⟨[],?_,.nil⟩,⟨[],?_,fun n c=>rfl,zxk _⟩⟩ (fun b o e hb=>?_) hlr hld0 (Ne.symm n2)
 ·rw[Zi (Ne.symm np),Zi (Ne.symm n2),Zi (Ne.symm np),Zc]
 ·rw[Zi n1,Zc]
 ·rw[Zi hb,Zi (Zh e hld0),Zi hb,Zi (Zh e hlr)];exact e
abbrev T1:Stmt:=Z0 (top 24) 1
theorem Xr:#[r,["self","rows","at","home","guest","grade","referee"],#[v,"rows"],T1]:=fnS
theorem Jj(F:#[k,"write","Ledger.write",T1])(T:#[n]):FnOk P w K mg base #[i] 1 f fd #[v,"rows"] (As a.zn1):=by
 refine #[o,Xr];obtain⟨p,lr,ld,Rs,b,ts,rs,rfl,LA,hb,nb,tl,hl,hl2,h⟩:=h;have hu:=X8 hr;refine⟨_,(Zb (Y5 #[af,Zr,0] (Yq (Hf (K:=K) rfl) (by rfl) T.ztr PyProof.Rows.boot_tuple (Za (pv 1) Zd)))
 (Zb (pS 2 Xr.nd (Zq (cL K) (by rfl) T.zoi PySem.boot_len (Za (Zr (K:=K) rfl (pv 0) rfl) Zd)))
 (Zf (Xo PassesOwn.leaving rfl (Yh (K:=K) rfl (pv 1)) (Wy (K:=K) (n:=4) rfl rfl (Z9 (pN 3 Xr.nd) (Z9 (pN 4 Xr.nd) (Z9 (pN 5 Xr.nd) (Z9 (pN 6 Xr.nd) Ww)))))
  (Zf (Z3 (Zo Uv (pv 6) Y1 (Zu _))
   (Zb (Y2 hu (Zr (K:=K) rfl (pv 0) rfl) (Yc (Za (pv 6) (Za (pv 3) Zd))) (pv 2) rfl)
   (Zf (Y2 hu (Zr (K:=K) rfl (pv 0) rfl) (Yc (Za (pv 6) (Za (pv 4) Zd))) (pv 2) rfl)))
   Zt)))))),?_⟩
 obtain⟨⟨dx,hp⟩,⟨rr,hlr,rl⟩,⟨kvs,hd,mt,kl⟩⟩:=LA;have hlen:ts.length=rs.length:=by rw[tl.length,zwq]
 have nrd:lr≠ld:=#[aq,Yz,hlr,hd];have nrp:p≠lr:=#[aq,Yz,hp,hlr];have npd:p≠ld:=#[aq,Yz,hp,hd];have nbd:b≠ld:=#[aq,Yz,hb,hd];refine⟨_,rfl,p,a.zn1,dx,_,_,rfl,hp,T.zox,T.zrc,Lo,lr,rr,rfl,hlr,_,rfl,b,ts,rfl,.inl ⟨SqL.of hb,fun t ht=>⟨rr,(by rw[Zi (Zh hlr ht)];exact hlr),Tf (by rw[rl.length];omega),?_⟩⟩⟩;have ntr:t≠lr:=Ne.symm (Zh hlr ht);have k1:∀ x o,H x=#[d]->x≠lr->upd (upd H t (.tup ts)) lr (.lst (rr++[.ref t])) x=#[d]:=fun x o e n=>by rw[Zi n,Zi (Zh e ht)];exact e
 have t1:∀ x xs,H x=#[A,xs]->upd (upd H t (.tup ts)) lr (.lst (rr++[.ref t])) x=#[A,xs]:=fun x xs e=>k1 x _ e #[aq,Yz,e,hlr];have r1:upd (upd H t (.tup ts)) lr (.lst (rr++[.ref t])) lr=#[c,.lst,rr++[.ref t]]:=Zc;have rl1:Oo (upd (upd H t (.tup ts)) lr (.lst (rr++[.ref t]))) (rr++[.ref t]) (Rs++[rs]):=(rl.mono t1).snoc (by rw[Zi ntr,Zc]) (tl.mono t1);have tl1:=tl.mono t1;generalize upd (upd H t (.tup ts)) lr (.lst (rr++[.ref t]))=H1 at k1 t1 r1 rl1 tl1;have hp1:=k1 _ _ hp nrp;have hb1:=k1 _ _ hb nb;have hd1:=k1 _ _ hd (Ne.symm nrd);refine⟨_,rfl,p,a.zn1,dx,_,_,rfl,hp1,T.zox,T.zrc,Lo,lr,_,rfl,#[L,r1],?_⟩;have hN:(((rr++[V.ref t]).length:Nat):Int)=((Rs.length+1:Nat):Int):=by rw[zwt,rl.length];rfl
 rw[hN];refine⟨_,rfl,b,rfl,⟨_,SqL.of hb1⟩,Wh (K:=K) (a:=b) (xs:=ts) (fun i σ H'=>(∃ v1 v2 v3 v4,σ=[#[b,p],#[b,b],#[f,((Rs.length+1:Nat):Int)],v1,v2,v3,v4])/\(∀ x o,H1 x=#[d]->x≠ld->H' x=#[d]) /\
  ∃ kvs',H' ld=#[c,.dT,kvs']/\Af kvs' (Lq Rs rs i)/\kvs'.length<=2*(tot Rs+i)) ⟨⟨_,_,_,_,rfl⟩,fun _ _ e _=>e,kvs,hd1,by rw[zef];exact mt,by omega⟩ (fun i σ H' _ ⟨_,k,_⟩=>SqL.of (k _ _ hb1 nbd)) ?_ ?_⟩
 ·rintro i x σ H' hx ⟨⟨v1,v2,v3,v4,rfl⟩,k2,kvs',hd2,mt2,kl2⟩;obtain⟨tr,r,rfl,hr3,htr⟩:=zkt tl1 hx;have hi:i<rs.length:=(zwr.mp hr3).1;have htr2:=k2 _ _ htr #[aq,Yz,htr,hd1];refine⟨tr,_,rfl,SqT.of htr2,rfl,_,_,rfl,_,_,rfl,_,_,rfl,_,_,rfl,rfl,?_⟩;refine⟨_,rfl,rfl,_,rfl,?_⟩;cases hw:r.w with
  | none =>
    refine iteF ?_;exact⟨⟨_,_,_,_,rfl⟩,k2,kvs',hd2,by rw[zeg hr3 hw];exact mt2,by omega⟩
  | some w =>
    refine iteT ?_;have hp2:=k2 _ _ hp1 npd;refine⟨_,rfl,_,rfl,p,a.zn1,dx,_,_,rfl,hp2,T.zox,T.zp7,Pf,_,rfl,_,rfl,sz2,fun t2 ht2=>⟨ld,_,rfl,DPut.t (k:=[inl w,inl r.h]) (by rw[Zi (Zh hd2 ht2)];exact hd2) Zc ((Nat.lt_trans (zyc (show _<=200000 by omega) ⋯) Tr)),?_⟩⟩;have k3:∀ x o,H1 x=#[d]->x≠ld->upd (upd H' t2 (.tup [oV (some w),.int r.h])) ld (.dT (putK kvs' [inl w,inl r.h] (.int ((Rs.length+1:Nat):Int)))) x=#[d]:=fun x o e n=>by
     have:=k2 x o e n;rw[Zi n,Zi (Zh this ht2)];exact this
    have hd3:upd (upd H' t2 (.tup [oV (some w),.int r.h])) ld (.dT (putK kvs' [inl w,inl r.h] (.int ((Rs.length+1:Nat):Int)))) ld=#[c,.dT,putK kvs' [inl w,inl r.h] (.int ((Rs.length+1:Nat):Int))]:=Zc;have l3:=Xs kvs' ([inl w,inl r.h]:List Key) (.int ((Rs.length+1:Nat):Int));generalize upd (upd H' t2 (.tup [oV (some w),.int r.h])) ld (.dT (putK kvs' [inl w,inl r.h] (.int ((Rs.length+1:Nat):Int))))=H3 at k3 hd3;have hp3:=k3 _ _ hp1 npd;refine⟨_,rfl,_,rfl,p,a.zn1,dx,_,_,rfl,hp3,T.zox,T.zp7,Pf,_,rfl,_,rfl,sz2,fun t4 ht4=>⟨ld,_,rfl,DPut.t (k:=[inl w,inl r.g]) (by rw[Zi (Zh hd3 ht4)];exact hd3) Zc ((Nat.lt_trans (zyc (show _<=200000 by omega) ⋯) Tr)),?_⟩⟩;refine⟨⟨_,_,_,_,rfl⟩,fun x o e n=>?_,_,Zc,?_,?_⟩
    ·have:=k3 x o e n;rw[Zi n,Zi (Zh this ht4)];exact this
    ·rw[<- zeh hr3 hw];exact(mt2.put w r.h _ (Nat.succ_pos _)).put w r.g _ (Nat.succ_pos _)
    ·have:=Xs (putK kvs' ([inl w,inl r.h]:List Key) (.int ((Rs.length+1:Nat):Int))) ([inl w,inl r.g]:List Key) (.int ((Rs.length+1:Nat):Int));omega
 ·rintro σ H' ⟨⟨v1,v2,v3,v4,rfl⟩,k2,kvs',hd2,mt2,kl2⟩;rw[hlen] at mt2 kl2;rw[zgn] at mt2;refine h H' ⟨⟨dx,k2 _ _ hp1 npd⟩,⟨_,k2 _ _ r1 nrd,rl1.mono fun x xs e=>k2 _ _ e #[aq,Yz,e,hd1]⟩,kvs',hd2,mt2,by rw[zgm];exact kl2⟩ fun x o e n1 n2=>k2 x o (k1 x o e n1) n2
abbrev Sz:Stmt:=Z0 (top 24) 2
theorem Gu:#[an,Sz]:=fnS
theorem Gv(F:#[k,"over","Ledger.over",Sz])(T:#[n]):FnOk P w K mg base #[i] 1 f fd ["self"] (Lp a.zn1):=by
 refine #[o,Gu];obtain⟨p,lr,ld,Rs,rfl,LA,h⟩:=h;refine#[al,_,Zq (cL K) (by rfl) T.zoi PySem.boot_len (Za (Zr (K:=K) rfl (pv 0) rfl) Zd)];obtain⟨⟨dx,hp⟩,⟨rr,hlr,rl⟩,_⟩:=LA;refine⟨_,rfl,p,a.zn1,dx,_,_,rfl,hp,T.zox,T.zrc,Lo,lr,_,rfl,#[L,hlr],?_⟩;rw[rl.length];exact h
abbrev Qf:Stmt:=Z0 (top 24) 4
theorem Ea:#[r,["self","number","club"],["self","number","club"],Qf]:=fnS
theorem Eb(F:#[k,"met","Ledger.met",Qf])(T:#[n]):FnOk P w K mg base #[i] 1 f fd ["self","number","club"] (zji a.zn1):=by
 refine #[o,Ea];obtain⟨p,lr,ld,Rs,n,c,rfl,LA,h⟩:=h;have hu:=X8 hr;refine#[al,_,zf4 hu #[af,Zr,0] (Yc (Za (pv 1) (Za (pv 2) Zd))) Zg ⟨rfl,rfl,rfl,rfl⟩];obtain⟨⟨dx,hp⟩,_,⟨kvs,hd,mt,kl⟩⟩:=LA;refine⟨_,rfl,p,a.zn1,dx,_,_,rfl,hp,T.zox,T.zp7,Pf,ld,rfl,.inr ⟨kvs,.inl hd⟩,_,rfl,_,rfl,sz2,fun t ht=>⟨_,DGet.t (k:=[inl n,inl c]) (by rw[Zi (Zh hd ht)];exact hd) Zc,?_⟩⟩;have e:((valV kvs ([inl n,inl c]:List Key)).getD (.int 0))=.int (metS Rs n c:Nat):=by
  rw[mt n c];split
  ·rename_i z;rw[z];rfl
  ·rfl
 rw[e];exact h _ (Ze ht)
abbrev S4:Stmt:=top 26
theorem Gw:#[r,["value","least","most"],["value","least","most"],S4]:=fnS
theorem Gx(F:#[k,"check_range","check_range",S4])(T:#[n]):FnOk P w K mg base #[i] 1 f fd ["value","least","most"] (Mm a.zog):=by
 refine #[o,Gw];obtain⟨v,lo,m,rfl,s1,s2,s3,h⟩:=h;refine⟨_,(Zf (Z3 (PW.pt (Rk (Zo Kr (pv 0) (pv 1) (Zu _)) (V9 (Zo Ti (pv 0) (pv 2) (Zu _)))))
  (Zf (Xg Xf rfl T.zts rfl (Za (Ve (Z4 (W3 (pv 0)) (Z4 (Xw ⋯) (Z4 (W3 (pv 1)) (Z4 (Xw ⋯) (Z4 (W3 (pv 2)) Vd))))) ⋯) Zd)))
  Zt)),?_⟩
 walk_at "rd";refine itD (fun h1=>?_) fun h1=>?_
 ·rw[if_pos (Or.inl h1)] at h;refine iteT ?_;walk_at "rd";refine⟨.inl ⟨_,rfl,s1⟩,_,rfl,.inl ⟨_,rfl,s2⟩,_,rfl,.inl ⟨_,rfl,s3⟩,fun z=>⟨sz1,h⟩⟩
 ·walk_at "rd";refine itD (fun h2=>?_) fun h2=>?_
  ·rw[if_pos (Or.inr h2)] at h;walk_at "rd";refine⟨.inl ⟨_,rfl,s1⟩,_,rfl,.inl ⟨_,rfl,s2⟩,_,rfl,.inl ⟨_,rfl,s3⟩,fun z=>⟨sz1,h⟩⟩
  ·rw[#[g,fun z=>z.elim h1 h2]] at h;exact h
abbrev S5:Stmt:=top 36
theorem Pp:#[r,["matches","count"],["matches"],S5]:=fnS
theorem Gy(F:#[k,"check_count","check_count",S5])(T:#[n]):FnOk P w K mg base #[i] 1 f fd ["matches"] (A5 K (ca a)):=by
 refine #[o,Pp];obtain⟨b,ts,rfl,hs,hl,h1,h2⟩:=h;refine⟨_,(Zb (pS 1 Pp.nd (Zq (cL K) (by rfl) T.zoi PySem.boot_len (Za (pv 0) Zd)))
 (Zf (Z3 (Zo Ti (pv 1) (Wn rfl T.zps) (Zu _))
  (Zf (Xg Xf rfl T.zsq rfl (Za (Ve (Z4 (W3 (pv 1)) (Z4 (Xw ⋯) (Z4 (W3 (Wn rfl T.zps)) Vd))) ⋯) Zd)))
  Zt))),?_⟩
 refine#[ac,_,b,_,.inl hs,?_];walk_at "rd";refine itD (fun hc=>?_) fun hc=>?_
 ·walk_at "rd";exact⟨.inl ⟨_,rfl,Z5 ⋯ ⋯⟩,.inl ⟨_,rfl,Yl ⋯⟩,fun z=>⟨sz1,h1 ⋯⟩⟩
 ·exact h2 ⋯
abbrev T2:Stmt:=top 37
theorem Vf:#[r,["matches","home","guest","grade"],["matches"],T2]:=fnS
theorem Jk(F:#[k,"check_ranges","check_ranges",T2])(T:#[n])(zoa:Ya P w K mg base "check_range" 1 ["value","least","most"] (Mm a.zog)):FnOk P w K mg base #[i] 2 f fd ["matches"] (D1 K (ca a)):=by
 refine #[o,Vf];obtain⟨b,ts,Ms,rfl,hs,tl,sm,h1,h2⟩:=h;refine⟨_,(Zf (Xo PassesOwn.leaving rfl (Yh (K:=K) rfl (pv 0)) (Wy (K:=K) (n:=3) rfl rfl (Z9 (pN 1 Vf.nd) (Z9 (pN 2 Vf.nd) (Z9 (pN 3 Vf.nd) Ww))))
  (Zb (Z8 (pF zoa hr (Za (pv 1) (Za Zg (Za (Wn rfl T.zqc) Zd)))))
  (Zb (Z8 (pF zoa hr (Za (pv 2) (Za Zg (Za (Wn rfl T.zqc) Zd)))))
  (Zf (Z8 (pF zoa hr (Za (pv 3) (Za Zg (Za (Wn rfl T.zqj) Zd)))))))))),?_⟩
 have hlen:ts.length=Ms.length:=by rw[tl.length,zwq]
 let jv1:Nat->L2.St->Hp->Prop:=fun i σ H'=>H'=H/\(∃ v1 v2 v3,σ=[some (.ref b),v1,v2,v3])/\∀ m∈Ms.take i,¬ badM m
 refine⟨_,rfl,b,rfl,⟨_,hs⟩,Wh (K:=K) (a:=b) (xs:=ts) jv1 ⟨rfl,⟨_,_,_,rfl⟩,by simp⟩ (fun i σ H' _ ⟨e,_⟩=>e▸hs) ?_ ?_⟩
 ·rintro i x σ H' hx ⟨rfl,⟨v1,v2,v3,rfl⟩,hi⟩;obtain⟨t,m,rfl,hm,ht⟩:=Jg tl hx;have hmem:=zw4 hm;obtain⟨s1,s2,s3⟩:=sm m hmem;have bad:badM m->E (.ref a.zog) none H':=fun hb=>h1 ⟨m,hmem,hb⟩;refine⟨t,_,rfl,#[P],rfl,_,_,rfl,_,_,rfl,_,_,rfl,rfl,?_⟩;refine⟨_,rfl,_,1,99,rfl,s1,Yl ⋯,Yl ⋯,?_⟩;refine Fs (fun b1=>bad (by unfold badM;omega)) fun b1=>?_;refine⟨_,rfl,_,1,99,rfl,s2,Yl ⋯,Yl ⋯,?_⟩;refine Fs (fun b2=>bad (by unfold badM;omega)) fun b2=>?_;refine⟨_,rfl,_,1,9,rfl,s3,Yl ⋯,Yl ⋯,?_⟩;refine Fs (fun b3=>bad (by unfold badM;omega)) fun b3=>?_;exact⟨rfl,⟨_,_,_,rfl⟩,Dz hm hi (by unfold badM;omega)⟩
 ·rintro σ H' ⟨rfl,⟨v1,v2,v3,rfl⟩,hi⟩;rw[hlen,zw9] at hi;exact h2 fun ⟨m,hm,hb⟩=>hi m hm hb
abbrev S6:Stmt:=top 38
theorem Vy:#[r,["matches","home","guest","grade"],["matches"],S6]:=fnS
theorem Gz(F:#[k,"check_clubs","check_clubs",S6])(T:#[n]):FnOk P w K mg base #[i] 1 f fd ["matches"] (A6 K (ca a)):=by
 refine #[o,Vy];obtain⟨b,ts,Ms,rfl,hs,tl,sm,h1,h2⟩:=h;refine⟨_,(Zf (Xo PassesOwn.leaving rfl (Yh (K:=K) rfl (pv 0)) (Wy (K:=K) (n:=3) rfl rfl (Z9 (pN 1 Vy.nd) (Z9 (pN 2 Vy.nd) (Z9 (pN 3 Vy.nd) Ww))))
  (Zf (Z3 (Zo Xd (pv 1) (pv 2) (Zu _))
   (Zf (Xg Xf rfl T.zt5 rfl (Za (Ve (Z4 (Xw ⋯) (Z4 (W3 (pv 1)) (Z4 (Xw ⋯) Vd))) ⋯) Zd)))
   Zt)))),?_⟩
 have hlen:ts.length=Ms.length:=by rw[tl.length,zwq]
 let jv2:Nat->L2.St->Hp->Prop:=fun i σ H'=>H'=H/\(∃ v1 v2 v3,σ=[some (.ref b),v1,v2,v3])/\∀ m∈Ms.take i,¬ (m.1=m.2.1)
 refine⟨_,rfl,b,rfl,⟨_,hs⟩,Wh (K:=K) (a:=b) (xs:=ts) jv2 ⟨rfl,⟨_,_,_,rfl⟩,by simp⟩ (fun i σ H' _ ⟨e,_⟩=>e▸hs) ?_ ?_⟩
 ·rintro i x σ H' hx ⟨rfl,⟨v1,v2,v3,rfl⟩,hi⟩;obtain⟨t,m,rfl,hm,ht⟩:=Jg tl hx;have hmem:=zw4 hm;obtain⟨s1,s2,s3⟩:=sm m hmem;refine⟨t,_,rfl,#[P],rfl,_,_,rfl,_,_,rfl,_,_,rfl,rfl,?_⟩;refine⟨_,rfl,_,rfl,rfl,_,rfl,?_⟩;refine itV (fun he=>?_) fun he=>?_
  ·exact#[az,_,_,s1,h1 ⟨m,hmem,he⟩]
  ·exact⟨rfl,⟨_,_,_,rfl⟩,Dz (p:=fun m=>m.1=m.2.1) hm hi he⟩
 ·rintro σ H' ⟨rfl,⟨v1,v2,v3,rfl⟩,hi⟩;rw[hlen,zw9] at hi;exact h2 fun ⟨m,hm,hb⟩=>hi m hm hb
abbrev Kb:Stmt:=top 39
theorem zcb:#[r,["matches"],["matches"],Kb]:=fnS
theorem zcc(F:#[k,"checked","checked",Kb])(T:#[n])(zq6:Ya P w K mg base "check_count" 1 ["matches"] (A5 K (ca a)))(zqp:Ya P w K mg base "check_ranges" 2 ["matches"] (D1 K (ca a)))(zqy:Ya P w K mg base "check_clubs" 1 ["matches"] (A6 K (ca a))):FnOk P w K mg base #[i] 3 f fd ["matches"] (Hu K (ca a)):=by
 refine #[o,zcb];obtain⟨b,ts,Ms,rfl,hs,tl,sm,hl,h1,h2,h3,h4⟩:=h;refine⟨_,(Zb (Z8 (pF zq6 hr (Za (pv 0) Zd)))
 (Zb (Z8 (pF zqp hr (Za (pv 0) Zd)))
 (Zb (Z8 (pF zqy hr (Za (pv 0) Zd)))
 (Zf (Zn (Yq (Xj (K:=K) rfl) (by rfl) T.zpx PyProof.Rows.boot_list (Za (pv 0) Zd))))))),?_⟩
 have hlen:ts.length=Ms.length:=by rw[tl.length,zwq]
 refine⟨_,rfl,b,ts,rfl,hs,by omega,fun hc=>h1 ⋯,fun hc=>?_⟩;refine⟨_,rfl,b,ts,Ms,rfl,hs,tl,sm,fun hb=>h2 ⋯ hb,fun hb=>?_⟩;refine⟨_,rfl,b,ts,Ms,rfl,hs,tl,sm,fun hb2=>h3 ⋯ hb hb2,fun hb2=>?_⟩;exact#[ac,_,b,ts,.inl hs,h4 ⋯ hb hb2]
abbrev Vz:Stmt:=Z0 (top 41) 0
theorem Nr:#[an,Vz]:=fnS
theorem Nt(F:#[k,"__init__","Roster.__init__",Vz])(T:#[n]):FnOk P w K mg base #[i] 1 f fd ["self"] #[e,zde]:=by
 refine #[o,Nr];obtain⟨p,dx,rfl,hp,h⟩:=h;refine⟨_,Zf (Y9 (K:=K) rfl (pv 0) Mb rfl),?_⟩;intro d hd;exact⟨_,rfl,p,a.zn3,dx,[],rfl,(by rw[Zi (Zh hp hd)];exact hp),T.zoc,T.zpa,⋯,h d hd⟩
abbrev Vj:Stmt:=Z0 (top 41) 1
theorem Ou:#[r,#[ar],#[ar],Vj]:=fnS
theorem Ov(F:#[k,"check_new","Roster.check_new",Vj])(T:#[n])(zoa:Ya P w K mg base "check_range" 1 ["value","least","most"] (Mm a.zog)):FnOk P w K mg base #[i] 2 f fd #[ar] #[e,Nd]:=by
 refine #[o,Ou];obtain⟨p,d,R,n,g,c,rfl,RA,sm,h⟩:=h;have hu:=X8 hr;refine⟨_,(Zb (Z8 (pF zoa hr (Za (pv 1) (Za Zg (Za (Wn rfl T.zqz) Zd)))))
 (Zb (Z8 (pF zoa hr (Za (pv 2) (Za Zg (Za (Wn rfl T.zqj) Zd)))))
 (Zb (Z8 (pF zoa hr (Za (pv 3) (Za Zg (Za (Wn rfl T.zqc) Zd)))))
 (Zb (Z3 (R4 (O7 hu (pv 1) (Zr (K:=K) rfl (pv 0) rfl)))
  (Zf (Xg Xf rfl T.zs5 rfl (Za (Ve (Z4 (Xw ⋯) (Z4 (W3 (pv 1)) (Z4 (Xw ⋯) Vd))) ⋯) Zd)))
  Zt)
 (Zf (Z3 (Zo zfr (Zq zd9 (by rfl) T.zoi PySem.boot_len (Za (Zr (K:=K) rfl (pv 0) rfl) Zd)) (Wn rfl T.zpk) (Zu _))
  (Zf (Xg Xf rfl T.zsg rfl (Za (Ve (Z4 (Xw ⋯) (Z4 (W3 (Wn rfl T.zpk)) (Z4 (Xw ⋯) Vd))) ⋯) Zd)))
  Zt)))))),?_⟩
 obtain⟨sn,sg,sc⟩:=sm;obtain⟨⟨dx,kvs,hp,hd,en⟩,nd⟩:=id RA;have bad:∀ {A B:Prop},(badI n g c->(if badI n g c then A else B)->A):=fun hb z=>by rw[#[l,hb]] at z;exact z
 refine⟨_,rfl,n,1,999,rfl,sn,Yl ⋯,Yl ⋯,?_⟩;refine Fs (fun b1=>bad (by unfold badI;omega) h) fun b1=>?_;refine⟨_,rfl,g,1,9,rfl,sg,Yl ⋯,Yl ⋯,?_⟩;refine Fs (fun b2=>bad (by unfold badI;omega) h) fun b2=>?_;refine⟨_,rfl,c,1,99,rfl,sc,Yl ⋯,Yl ⋯,?_⟩;refine Fs (fun b3=>bad (by unfold badI;omega) h) fun b3=>?_;rw[#[g,(by unfold badI;omega)]] at h;refine⟨_,rfl,_,rfl,p,a.zn3,dx,_,_,rfl,hp,T.zoc,T.zpa,Vi,d,_,rfl,DGet.k (k:=inl n) hd,_,rfl,?_⟩;rw[en.isSome nd];refine itD (fun hn=>?_) fun hn=>?_
 ·rw[#[l,hn]] at h;exact#[az,_,_,sn,h]
 rw[#[g,hn]] at h;refine⟨_,rfl,p,a.zn3,dx,_,_,rfl,hp,T.zoc,T.zpa,Vi,d,_,rfl,hd,_,_,rfl,rfl,_,rfl,?_⟩;rw[en.length];refine itD (fun hz=>?_) fun hz=>?_
 ·rw[if_pos ⋯] at h;exact⟨.inl ⟨_,rfl,Yl ⋯⟩,fun z=>⟨sz1,h⟩⟩
 rw[if_neg ⋯] at h;exact h
abbrev Wt:Stmt:=Z0 (top 41) 2
theorem Qz:#[r,#[Z],#[Z],Wt]:=fnS
theorem Q4(F:#[k,"check_known","Roster.check_known",Wt])(T:#[n]):FnOk P w K mg base #[i] 1 f fd #[Z] #[e,Vu]:=by
 refine #[o,Qz];obtain⟨p,d,R,n,rfl,RA,sn,h⟩:=h;have hu:=X8 hr;refine⟨_,(Zf (Z3 (R4 (Li hu (pv 1) #[af,Zr,0]))
  (Zf (Xg Xf rfl T.zst rfl (Za (Ve (Z4 (Xw ⋯) (Z4 (W3 (pv 1)) (Z4 (Xw ⋯) Vd))) ⋯) Zd)))
  Zt)),?_⟩
 obtain⟨⟨dx,kvs,hp,hd,en⟩,nd⟩:=id RA;refine⟨_,rfl,_,rfl,p,a.zn3,dx,_,_,rfl,hp,T.zoc,T.zpa,Vi,d,_,rfl,DGet.k (k:=inl n) hd,_,rfl,?_⟩;rw[en.isSome nd];by_cases hn:n∈R.map (·.1)
 ·rw[zwy hn];rw[#[l,hn]] at h;exact iteF h
 ·rw[zw1 hn];rw[#[g,hn]] at h;exact iteT #[az,_,_,sn,h]
abbrev Qg:Stmt:=Z0 (top 41) 3
theorem Ec:#[r,#[ar],#[ar],Qg]:=fnS
theorem Ed(F:#[k,"add","Roster.add",Qg])(T:#[n])(zom:Zp P w K mg base a.zn3 "check_new" 2 #[ar] #[e,Nd]):FnOk P w K mg base #[i] 3 f fd #[ar] #[e,zg6]:=by
 refine #[o,Ec];obtain⟨p,d,R,n,g,c,rfl,RA,sm,hl,h⟩:=h;have hu:=X8 hr;refine⟨_,(Zb (Z8 (Yg (pv 0) T.zoc zom (hr.mono ⋯) Zj (Za (pv 1) (Za (pv 2) (Za (pv 3) Zd)))))
 (Zf (Y2 hu (Zr (K:=K) rfl (pv 0) rfl) (pv 1) (Yc (Za (pv 2) (Za (pv 3) Zd))) rfl))),?_⟩
 obtain⟨⟨dx,kvs,hp,hd,en⟩,nd⟩:=id RA;refine⟨_,rfl,p,dx,_,rfl,hp,Y8.no ⋯,_,rfl,_,rfl,_,rfl,p,d,R,n,g,c,rfl,RA,sm,?_⟩;refine it2 h (fun _ z=>z) fun hb h=>it2 h (fun _ z=>z) fun hn h=>it2 h (fun _ z=>z) fun hz h=>?_;refine⟨_,rfl,_,rfl,sz2,fun t ht=>?_⟩;have ntp:p≠t:=Zh hp ht;have ntd:d≠t:=Zh hd ht;have npd:p≠d:=#[aq,Yz,hp,hd];refine⟨_,rfl,p,a.zn3,dx,_,_,rfl,(by rw[Zi ntp];exact hp),T.zoc,T.zpa,Vi,_,rfl,d,_,rfl,DPut.k (k:=inl n) (by rw[Zi ntd];exact hd) (Tf (by rw[en.length];exact hl)),?_⟩;rw[zer (en.val_none hn)];refine h _ ⟨⟨dx,_,(by rw[Zi npd,Zi ntp];exact hp),Zc,?_⟩,?_⟩ fun b o e hb=>(by rw[Zi hb,Zi (Zh e ht)];exact e)
 ·refine Vh.snoc (by rw[Zi (Ne.symm ntd)];exact Zc) (en.mono fun b xs e=>?_);rw[Zi (Yz e hd (by intro z;cases z)),Zi (Zh e ht)];exact e
 ·rw[zww];exact Ci nd hn
abbrev U3:Stmt:=Z0 (top 41) 4
theorem Kc:#[r,#[Z],#[Z],U3]:=fnS
theorem Kd(F:#[k,"strike","Roster.strike",U3])(T:#[n]):FnOk P w K mg base #[i] 1 f fd #[Z] #[e,Aq]:=by
 refine #[o,Kc];obtain⟨p,d,R,n,g,c,rfl,RA,h⟩:=h;refine⟨_,Zf (Z8 (zf5 #[af,Zr,0] (pv 1) ⟨rfl,rfl,rfl,rfl⟩)),?_⟩;obtain⟨⟨dx,kvs,hp,hd,en⟩,nd⟩:=id RA;have npd:p≠d:=#[aq,Yz,hp,hd];obtain⟨t,e1,e2⟩:=en.val_some nd (show (n,g,c)∈R++[(n,g,c)] by simp);have hn:n∉R.map (·.1):=by
  rw[zww,List.nodup_append] at nd;exact fun z=>nd.2.2 n z n (by simp) rfl
 refine⟨_,rfl,p,a.zn3,dx,_,_,rfl,hp,T.zoc,T.zpa,Vi,d,rfl,.inl ⟨kvs,.inl hd⟩,_,rfl,kvs,inl n,_,hd,rfl,e1,?_⟩;refine h _ ⟨⟨dx,_,(by rw[Zi npd];exact hp),Zc,(en.unsnoc hn).mono fun b xs e=>?_⟩,?_⟩ fun b o e hb=>(by rw[Zi hb];exact e)
 ·rw[Zi (Yz e hd (by intro z;cases z))];exact e
 ·rw[zww,List.nodup_append] at nd;exact nd.1
abbrev Uj:Stmt:=Z0 (top 41) 6
theorem Mp:#[an,Uj]:=fnS
theorem Mq(F:#[k,"numbers","Roster.numbers",Uj])(T:#[n]):FnOk P w K mg base #[i] 1 f fd ["self"] #[e,Nf]:=by
 refine #[o,Mp];obtain⟨p,d,R,rfl,RA,h⟩:=h;refine⟨_,Zf (Zn (Yq (zbn rfl) (by rfl) T.zpx PyProof.Rows.boot_list (Za (Zr (K:=K) rfl (pv 0) rfl) Zd))),?_⟩;obtain⟨⟨dx,kvs,hp,hd,en⟩,nd⟩:=id RA;refine⟨_,rfl,p,a.zn3,dx,_,_,rfl,hp,T.zoc,T.zpa,Vi,d,kvs,rfl,.inl hd,fun l hl=>?_⟩;rw[en.keys];exact h l hl
abbrev T3:Stmt:=Z0 (top 41) 7
theorem Jl:#[r,#[Z],#[Z],T3]:=fnS
theorem Jm(F:#[k,"entry","Roster.entry",T3])(T:#[n])(zn4:Zp P w K mg base a.zn3 "check_known" 1 #[Z] #[e,Vu]):FnOk P w K mg base #[i] 2 f fd #[Z] #[e,Ho]:=by
 refine #[o,Jl];obtain⟨p,d,R,n,rfl,RA,sn,h1,h2⟩:=h;have hu:=X8 hr;refine⟨_,(Zb (Z8 (Yg (pv 0) T.zoc zn4 (hr.mono ⋯) Zj (Za (pv 1) Zd)))
 (Zf (Zn (pD hu (Zr (K:=K) rfl (pv 0) rfl) (pv 1))))),?_⟩
 obtain⟨⟨dx,kvs,hp,hd,en⟩,nd⟩:=id RA;refine⟨_,rfl,p,dx,_,rfl,hp,Y8.no ⋯,_,rfl,p,d,R,n,rfl,RA,sn,?_⟩;refine Fs (fun hn=>?_) fun hn=>h1 hn;obtain⟨⟨m,g,c⟩,q,rfl⟩:=zw0.mp hn;obtain⟨t,e1,e2⟩:=en.val_some nd q;exact⟨_,rfl,p,a.zn3,dx,_,_,rfl,hp,T.zoc,T.zpa,Vi,_,rfl,d,_,rfl,(by rw[<- e1];exact DGet.k (k:=inl m) hd),h2 g c t q e2⟩
abbrev U4:Stmt:=Z0 (top 41) 10
theorem Ke:#[r,#[Z],#[Z],U4]:=fnS
theorem Kf(F:#[k,"person","Roster.person",U4])(T:#[n])(zo3:Zp P w K mg base a.zn3 "entry" 2 #[Z] #[e,Ho]):FnOk P w K mg base #[i] 3 f fd #[Z] #[e,Hq]:=by
 refine #[o,Ke];obtain⟨p,d,R,n,rfl,RA,sn,h1,h2⟩:=h;refine#[al,_,Zs (Ar (K:=K) rfl) (Yc (Za (pv 1) Zd)) (Yg (pv 0) T.zoc zo3 (hr.mono ⋯) Zj (Za (pv 1) Zd))];obtain⟨⟨dx,kvs,hp,hd,en⟩,nd⟩:=id RA;refine⟨_,rfl,sz1,fun t1 ht1=>?_⟩;have s1:=Ze (o:=.tup [.int n]) ht1;have q1:upd H t1 (.tup [.int n]) t1=#[c,.tup,[.int n]]:=Zc;generalize upd H t1 (.tup [.int n])=H1 at s1 q1;refine⟨_,rfl,p,dx,_,rfl,s1 _ _ hp,Y8.no ⋯,_,rfl,p,d,R,n,rfl,RA.same s1,sn,fun hn=>h1 hn H1 s1,fun g c t q ht=>?_⟩;refine⟨t1,t,_,_,rfl,rfl,SqT.of q1,#[P],by simp,by show 1+2<=sizeLine;exact sz3,fun z=>absurd z (by simp),fun _ t2 ht2=>?_⟩;exact h2 g c t2 _ q Zc (s1.trans (Ze ht2)) (s1.free ht2)
abbrev G0:Stmt:=top 5
theorem zfe:#[r,["people","match","out","ledger","rest"],["people","match","out","ledger","rest"],G0]:=fnS
theorem zff(F:#[k,"takers","takers",G0])(T:#[n])(zo5:Ya P w K mg base "reasons_bars" 3 ["referee","match","out","ledger","rest"] (Lr K a.zn1)):FnOk P w K mg base #[i] 4 f fd ["people","match","out","ledger","rest"] (Ah K a.zn1):=by
 refine #[o,zfe];obtain⟨lp,lo,tm,p,lr,ld,Rs,ts,Ms,os,h,gu,d,rest,rfl,hp,tl,ho,hoo,ht,LA,hl,hq⟩:=h;refine#[al,_,Vb rfl (cT ["match","ledger","rest","out"] [1,3,4,2]) (Yh (K:=K) rfl (pv 0)) (fun _ _ _ _ _=>R8 (Q8 (Dh (K:=K) rfl (Dg zo5 (hr.mono ⋯) zcz rfl (Za (pv 0) (Za (pv 1) (Za (Vr (Ud (K:=K) rfl) (pI (iU K) (pv 0) Zg) (pv 4) (by with_unfolding_all rfl)) (Za (pv 2) (Za (pv 3) Zd)))))) fun _=>rfl))) fun _ _ _ _ _=>(pI (iU K) (pv 0) Zg)];have hlen:ts.length=Ms.length:=by rw[tl.length,zwq]
 refine⟨_,rfl,lp,rfl,⟨_,SqL.of hp⟩,?_⟩;refine Xp (K:=K) (a:=lp) (xs:=ts) (fun i ys H'=>#[q]/\ys=((Ms.take i).filter (Ph Rs h gu d os rest)).map fun m=>V.int m.1) #[C,Same.refl _] (fun i ys H' _ ⟨s,_⟩=>SqL.of (s _ _ hp)) (by rw[hlen];exact szN hl) (fun i ys H' ⟨_,e⟩=>by rw[e,zwq];exact zw6 (zxo _ _) (zx5 _ _)) ?_ ?_
 ·rintro i x ys H' hx ⟨sm,rfl⟩;obtain⟨t,m,rfl,hm,htt⟩:=Jg tl hx;have htt':=sm _ _ htt;refine⟨_,rfl,_,rfl,_,rfl,t,_,_,_,rfl,rfl,SqT.of htt',show atI (pV m) 0=some _ from rfl,_,rfl,lo,os,rfl,#[L,sm _ _ ho],rfl,zyx.mpr fun y hy=>zgp (hoo y hy),_,rfl,_,rfl,t,tm,p,lr,ld,Rs,m.1,m.2.1,m.2.2,h,gu,d,rest,inV (.int m.1) os,rfl,htt',sm _ _ ht,LA.same sm,fun l H2 hl2 s2 _=>?_⟩;refine⟨_,.inl ⟨_,SqL.of hl2,rfl⟩,?_⟩;have e:((whyS Rs m.1 m.2.1 m.2.2 h gu d (inV (.int m.1) os) rest).map V.str).isEmpty=Ph Rs h gu d os rest m:=by unfold Ph;rw[List.isEmpty_map]
  have hys:∀ ys',((Ms.take (i+1)).filter (Ph Rs h gu d os rest)).map (fun m=>V.int m.1)=((Ms.take i).filter (Ph Rs h gu d os rest)).map (fun m=>V.int m.1)++ys'↔ys'=if Ph Rs h gu d os rest m then [V.int m.1] else []:=fun ys'=>by
   rw[zx9,hm,zyd,zww,List.append_cancel_left_eq];cases q:Ph Rs h gu d os rest m<;>simp[q,eq_comm]
  dsimp only;rw[e];refine itB (fun hb=>?_) fun hb=>?_
  ·rw[Bool.not_not] at hb;refine⟨_,rfl,t,_,_,_,rfl,rfl,SqT.of (s2 _ _ htt'),show atI (pV m) 0=some _ from rfl,sm.trans s2,?_⟩;exact((hys [V.int m.1]).mpr (by rw[hb];rfl)).symm
  ·rw[Bool.not_not] at hb;refine⟨sm.trans s2,?_⟩;have:=(hys []).mpr (by rw[hb];rfl);rw[zy0] at this;exact this.symm
 ·rintro ys H' ⟨sm,rfl⟩ l hl';rw[hlen,zw9];exact hq l _ Zc (sm.trans (Ze hl')) (sm.free hl')
abbrev T4:Stmt:=top 43
theorem Vg:#[r,["given","taken","place","number"],["given"],T4]:=fnS
theorem Jn(F:#[k,"places_taken","places_taken",T4])(T:#[n]):FnOk P w K mg base #[i] 1 f fd ["given"] (Cv K):=by
 refine #[o,Vg];obtain⟨b,gs,rfl,hb,ho,hinj,hl,h⟩:=h;have hu:=X8 hr;refine⟨_,(Zb (pS 1 Vg.nd Mb)
 (Zb (Xo PassesOwn.leaving rfl (zc9 (K:=K) rfl rfl T.zqw (Za (pv 0) Zd)) (Wy (K:=K) (n:=2) rfl rfl (Z9 (pN 2 Vg.nd) (Z9 (pN 3 Vg.nd) Ww)))
  (Zf (Z3 (Zo Uv (pv 3) Y1 (Zu _))
   (Zf (Y2 hu (pv 1) (pv 3) (pv 2) rfl))
   Zt)))
 (Zf (Zn (pv 1))))),?_⟩
 have line:100<sizeLine:=by rw[sizeLine_eq];decide
 intro d hd
 let jv1:Nat->L2.St->Hp->Prop:=fun i σ' H'=>(∃ u v,σ'=[some (.ref b),some (.ref d),u,v])/\#[q]/\∃ kvs,H' d=#[c,.dK,kvs]/\kvs.length<=i/\(∀ (n:Int) (j:Nat),j<i->gs[j]?=some (.int n)->valV kvs (inl n:Key)=some (.int (j:Nat)))/\(∀ n:Int,(∀ j:Nat,j<i->gs[j]?≠some (.int n))->valV kvs (inl n:Key)=none)
 refine⟨_,rfl,b,rfl,⟨gs,SqL.of (Ze hd _ _ hb)⟩,zgw (xs:=gs) jv1
  ⟨⟨none,none,rfl⟩,Ze hd,[],Zc,zwz _,fun n j hj=>absurd hj (zy2 _),fun n _=>rfl⟩ (fun i σ' H' hi p=>SqL.of (p.2.1 _ _ hb)) (fun i x t σ' H' hx p htn=>?_) (fun σ' H' p=>?_)⟩
 ·obtain⟨⟨u,v,rfl⟩,hs,kvs,hk,hkl,h1,h2⟩:=p;have s2:=hs.trans (Ze (o:=.tup [.int (i:Nat),x]) htn);have hk2:=Ze (o:=.tup [.int (i:Nat),x]) htn _ _ hk;refine⟨t,_,rfl,SqT.of Zc,rfl,_,_,rfl,_,_,rfl,rfl,?_⟩;generalize upd H' t (.tup [.int (i:Nat),x])=H2 at s2 hk2;have hi:i<gs.length:=(zwr.mp hx).1;refine X0 (b:=!decide (x=.non)) (fun Q k=>⟨_,rfl,rfl,_,rfl,k⟩) ?_;rcases ho x (zw4 hx) with rfl|⟨n,rfl⟩
  ·refine iteF (Zy ⟨⟨_,_,rfl⟩,s2,kvs,hk2,by omega,fun n j hj hg=>?_,fun n hn=>h2 n fun j hj=>hn j ⋯⟩);by_cases e:j=i
   ·subst e;rw[hx] at hg;cases hg
   ·exact h1 n j ⋯ hg
  ·refine iteT ⟨_,rfl,_,rfl,_,rfl,d,_,rfl,DPut.k (k:=inl n) hk2 ⋯,⟨_,_,rfl⟩,?_,_,Zc,?_,fun m j hj hg=>?_,fun m hm=>?_⟩
   ·exact Yd hd s2
   ·exact zw6 (Xs kvs _ _) ⋯
   ·rw[Uy];by_cases e:j=i
    ·subst e;rw[hx] at hg;cases hg;rw[#[l,rfl]]
    ·have hne:¬ ((inl m:Key)=inl n):=fun z=>by
      rw[inl.inj z] at hg;exact e (hinj j i n hg hx)
     rw[#[g,hne]];exact h1 m j ⋯ hg
   ·have hne:¬ ((inl m:Key)=inl n):=fun z=>by
     rw[inl.inj z] at hm;exact hm i ⋯ hx
    rw[Uy,#[g,hne]];exact h2 m fun j hj=>hm j ⋯
 ·obtain⟨⟨u,v,rfl⟩,hs,kvs,hk,hkl,h1,h2⟩:=p;exact#[t,_,h d kvs H' hk ⟨fun n j hj=>h1 n j (zwr.mp hj).1 hj,fun n hn=>h2 n fun j _=>hn j⟩ hs hd]
abbrev Qh:Stmt:=top 44
theorem Xy:#[r,["may","taken","start","into","waiting","done","place","number"],["may","taken","start"],Qh]:=fnS
theorem Ee(F:#[k,"steps_into","steps_into",Qh])(T:#[n]):FnOk P w K mg base #[i] 1 f fd ["may","taken","start"] (zbt K):=by
 refine #[o,Xy];obtain⟨l,d,ls,rows,kvs,gs,p,rfl,hl,il,hrl,hd,tk,FP,hp,h⟩:=h;have hu:=X8 hr;refine⟨_,(Zb (pS 3 Xy.nd (zcr (Tj (pv 2) Y1 zcq) rfl rfl (by simp) ⋯))
 (Zb (pS 4 Xy.nd (Z1 (Za (pv 2) Zd)))
 (Zb (pS 5 Xy.nd Zg)
 (Zb (Bu PassesOwn.leaving (Zo Kr (pv 5) (Zq (cL K) (by rfl) T.zoi PySem.boot_len (Za (pv 4) Zd)) (Zu _))
  (Zb (pS 6 Xy.nd (pI (iL K) (pv 4) (pv 5)))
  (Zb (pS 5 Xy.nd (Zs Yr (pv 5) Zg))
  (Zf (Xo PassesOwn.leaving rfl (Yh (K:=K) rfl (pI (iL K) (pv 0) (pv 6))) (pN 7 Xy.nd)
   (Zf (Z3 (PW.pt (Su (R4 (O7 hu (pv 7) (pv 1))) (Uu (R4 (Li hu (pD hu (pv 1) (pv 7)) (pv 3))))))
    (Zb (Y2 hu (pv 3) (pD hu (pv 1) (pv 7)) (Yc (Za (pv 6) (Za (pv 7) Zd))) rfl)
    (Zf (Y5 (pv 4) (pD hu (pv 1) (pv 7)))))
    Zt)))))))
 (Zf (Zn (pv 3))))))),?_⟩
 show let y1:TS:=_;let y2:TS:=Zx _ y1;let y3:TS:=_;let y4:TS:=Zx (zfm _ (Zx _ y2)) y3;let y5:TS:=Zx _ y4;let y6:TS:=Zx _ y5;Zx _ y6 _ _ _;intro y1 y2 y3 y4 y5 y6;have line0:200<sizeLine:=by rw[sizeLine_eq];decide
 intro ld hld;refine#[ac,_,Zc,[(inl (p:Int),.non)],(by show 1<=15;decide),?_];have s0:Same H (upd (upd H ld (.dK [])) ld (.dK (Uc [] [(inl (p:Int),.non)]))):=Yd hld (Ze hld);have q0:upd (upd H ld (.dK [])) ld (.dK (Uc [] [(inl (p:Int),.non)])) ld=#[c,.dK,[((inl (p:Int):Key),V.non)]]:=Zc;generalize upd (upd H ld (.dK [])) ld (.dK (Uc [] [(inl (p:Int),.non)]))=H1 at s0 q0;refine⟨_,rfl,sz1,fun ln hln=>?_⟩;have s1:=Ze (o:=.lst [.int p]) hln;have e1:upd H1 ln (.lst [.int p]) ln=some (.lst (U9 [p])):=Zc;have q1:=s1 _ _ q0;have s01:=s0.trans s1;have nln:ld≠ln:=Zh q0 hln;have fln:H ln=none:=s0.free hln;generalize upd H1 ln (.lst [.int p])=H2 at s1 e1 q1 s01;have hbound:∀ line:List Nat,line.Nodup->(∀ c∈line,c<rows.length)->line.length<=rows.length:=fun line nd hc=>by
  have:=nd.length_le_of_subset (l₂:=List.range rows.length) fun c hcc=>zxz.mpr (hc c hcc);rw[zxs] at this;exact this
 refine⟨fun m σ' H'=>∃ (line:List Nat) (dep:Nat->Nat) (fr:Nat->Option (Nat×Int)) (into:#[X]) (dn:Nat) (v6 v7:Option V),m=rows.length-dn/\dn<=line.length/\σ'=[#[b,l],#[b,d],#[f,p],#[b,ld],#[b,ln],#[f,(dn:Nat)],v6,v7]/\#[q]/\H' ld=#[c,.dK,into]/\H' ln=#[T,U9,line]/\Xx H' into line fr/\Bfs rows gs p line dep/\Done rows gs line dep dn/\Tp rows gs p line dep fr/\(∀ q∈line,q<rows.length)/\∀ here,line[dn]?=some here->∀ x∈line,dep x<=dep here+1,
  ⟨_,[p],fun _=>0,fun _=>none,_,0,_,_,rfl,zxk _,rfl,s01,q1,e1,zbu _ _,zel rows gs p,fun i q hi=>absurd hi (zy2 _),zbv,by simpa using hp,fun here _ x _=>zxk _⟩,?_⟩
 rintro m σ Ha ⟨line,dep,fr,into,dn,v6,v7,rfl,hdn,rfl,sa,hda,hna,io,B,Dn,fo,hlt,near⟩;have hll:=hbound _ B.nodup hlt;have hnl:(U9 line).length=line.length:=by unfold U9;rw[zwq]
 refine⟨_,rfl,_,rfl,ln,_,rfl,#[L,hna],_,_,rfl,rfl,_,rfl,?_⟩;rw[hnl];by_cases hlt2:dn<line.length
 ·rw[zwy (show ((dn:Nat):Int)<(line.length:Nat) by omega)];refine iteT ?_;obtain⟨here,hh⟩:∃ here,line[dn]?=some here:=⟨_,zws hlt2⟩;have hhm:=zw4 hh;have hhere:=hlt here hhm;have hhv:(U9 line)[dn]?=#[f,(here:Nat)]:=by unfold U9;rw[zwx,hh];rfl
  refine⟨fun σ' H'=>∃ (line:List Nat) (dep:Nat->Nat) (fr:Nat->Option (Nat×Int)) (into:#[X]) (v6 v7:Option V),dn+1<=line.length/\σ'=[#[b,l],#[b,d],#[f,p],#[b,ld],#[b,ln],#[f,((dn+1:Nat):Int)],v6,v7]/\#[q]/\H' ld=#[c,.dK,into]/\H' ln=#[T,U9,line]/\Xx H' into line fr/\Bfs rows gs p line dep/\Done rows gs line dep (dn+1)/\Tp rows gs p line dep fr/\(∀ q∈line,q<rows.length)/\∀ here,line[dn+1]?=some here->∀ x∈line,dep x<=dep here+1,
   fun σ' H' ⟨line,dep,fr,into,v6,v7,a1,a2,a3,a4,a5,a6,a7,a8,a9,a10,a11⟩=>⟨rows.length-(dn+1),by omega,line,dep,fr,into,dn+1,v6,v7,rfl,a1,a2,a3,a4,a5,a6,a7,a8,a9,a10,a11⟩,?_⟩
  have hr':rows[here]?=some (rows[here]'hhere):=zws hhere;generalize (rows[here]'hhere)=r at hr';obtain⟨lr,e2,e3⟩:=il.getR hr';have hl':(ls.map V.ref)[here]?=#[b,lr]:=by rw[zwx,e2];rfl
  refine⟨_,rfl,_,rfl,ln,_,_,_,rfl,rfl,SqL.of hna,Zz hhv,?_⟩;refine#[ac,_,_,_,rfl,?_];refine⟨_,rfl,_,rfl,l,_,_,_,rfl,rfl,SqL.of (sa _ _ hl),Zz hl',lr,rfl,⟨_,SqL.of (sa _ _ e3)⟩,?_⟩
  let jv2:Nat->L2.St->Hp->Prop:=fun j σ' H'=>∃ (line:List Nat) (dep:Nat->Nat) (fr:Nat->Option (Nat×Int)) (into:#[X]) (v7:Option V),σ'=[#[b,l],#[b,d],#[f,p],#[b,ld],#[b,ln],#[f,((dn+1:Nat):Int)],#[f,(here:Nat)],v7]/\#[q]/\H' ld=#[c,.dK,into]/\H' ln=#[T,U9,line]/\Xx H' into line fr/\Bfs rows gs p line dep/\Done rows gs line dep dn/\Tp rows gs p line dep fr/\(∀ q∈line,q<rows.length)/\line[dn]?=some here/\(∀ x∈line,dep x<=dep here+1)/\∀ n∈r.take j,∀ q':Nat,gs[q']?=#[f,n]->q'∈line
  refine Wh (K:=K) (a:=lr) (xs:=r.map V.int) jv2
   ⟨line,dep,fr,into,_,rfl,sa,hda,hna,io,B,Dn,fo,hlt,hh,near here hh,by simp⟩ (fun j σ' H' _ ⟨_,_,_,_,_,_,z,_⟩=>SqL.of (z _ _ e3)) ?_ ?_
  ·rintro j y σ' Hx hy ⟨line,dep,fr,into,w7,rfl,sx,hdx,hnx,io,B,Dn,fo,hlt,hh,near,pr⟩;have hj:j<r.length:=by have:=(zwr.mp hy).1;rw[zwq] at this;exact this
   have hhm:=zw4 hh;have hrj:r[j]?=some (r[j]'hj):=zws hj;have etk:r.take (j+1)=r.take j++[r[j]'hj]:=zxe hj;generalize (r[j]'hj)=n at hrj etk;have ey:y=.int n:=by rw[zwx,hrj] at hy;exact(Option.some.inj hy).symm
   subst ey;have hnr:=zw4 hrj;have hll:=hbound _ B.nodup hlt;have prev:(∀ q':Nat,gs[q']?=#[f,n]->q'∈line)->∀ m∈r.take (j+1),∀ q':Nat,gs[q']?=#[f,m]->q'∈line:=fun k m hm=>by
    rw[etk] at hm;rcases zw2.mp hm with z|z
    ·exact pr m z
    ·rw[zwv.mp z];exact k
   rcases tk.iff n with ⟨q',hq',hv⟩|⟨hno,hv⟩
   ·by_cases hin:q'∈line
    ·refine X0 (b:=false) (fun Q k=>?_) (iteF (Zy ⟨line,dep,fr,into,_,rfl,sx,hdx,hnx,io,B,Dn,fo,hlt,hh,near,prev fun q2 h2=>by rw[FP.inj q2 q' n h2 hq'];exact hin⟩));refine⟨_,rfl,_,rfl,d,_,rfl,DGet.k (k:=inl n) (sx _ _ hd),_,rfl,?_⟩;rw[hv];refine iteT ⟨_,rfl,_,rfl,d,_,rfl,hv▸DGet.k (k:=inl n) (sx _ _ hd),_,rfl,ld,_,rfl,DGet.k (k:=inl (q':Int)) hdx,_,rfl,?_⟩;rw[(io.has q').mpr hin];exact k
    ·have hnin:(valV into (inl (q':Int):Key)).isSome=false:=by
      rw[Bool.eq_false_iff];exact fun z=>hin ((io.has q').mp z)
     have hq'l:q' < rows.length:=by
      have:=(zwr.mp hq').1;rw[FP.len] at this;exact this
     have ha:adjN rows gs here n q':=⟨⟨r,hr',hnr⟩,hq'⟩;obtain⟨B',old,all⟩:=B.app (dn:=dn) hh near ha hin;refine X0 (b:=true) (fun Q k=>?_) (iteT ?_)
     ·refine⟨_,rfl,_,rfl,d,_,rfl,DGet.k (k:=inl n) (sx _ _ hd),_,rfl,?_⟩;rw[hv];refine iteT ⟨_,rfl,_,rfl,d,_,rfl,hv▸DGet.k (k:=inl n) (sx _ _ hd),_,rfl,ld,_,rfl,DGet.k (k:=inl (q':Int)) hdx,_,rfl,?_⟩;rw[hnin];exact k
     ·refine⟨_,rfl,_,rfl,sz2,fun t ht=>?_⟩;have t1:=Ze (o:=.tup [.int (here:Nat),.int n]) ht;have st:=sx.trans t1;have hdt:=t1 _ _ hdx;have hnt:=t1 _ _ hnx;have et:upd Hx t (.tup #[Q,(here:Nat),n]) t=#[c,.tup,#[Q,(here:Nat),n]]:=Zc;have iot:=io.same t1;generalize upd Hx t (.tup [.int (here:Nat),.int n])=Ht at t1 st hdt hnt et iot;refine⟨_,rfl,_,rfl,_,rfl,d,_,rfl,hv▸DGet.k (k:=inl n) (st _ _ hd),ld,_,rfl,DPut.k (k:=inl (q':Int)) hdt ?_,?_⟩
      ·have:=io.len;omega
      have sd:Same H (upd Ht ld (.dK (putK into (inl (q':Int)) (.ref t)))):=Yd hld st;have ed:upd Ht ld (.dK (putK into (inl (q':Int)) (.ref t))) ld=#[c,.dK,putK into (inl (q':Int)) (.ref t)]:=Zc;have en:upd Ht ld (.dK (putK into (inl (q':Int)) (.ref t))) ln=some (.lst (U9 line)):=by rw[Zi (Ne.symm nln)];exact hnt
      have iod:Xx (upd Ht ld (.dK (putK into (inl (q':Int)) (.ref t)))) (putK into (inl (q':Int)) (.ref t)) (line++[q']) (Ky fr q' (here,n)) :=
       (iot.app hin et).mono fun c xs e=>by rw[Zi (Yz e hdt (fun z=>nomatch z))];exact e
      generalize upd Ht ld (.dK (putK into (inl (q':Int)) (.ref t)))=Hd at sd ed en iod;have hsz:(U9 line).length<sizeLine:=by unfold U9;rw[zwq];omega
      refine⟨_,rfl,ln,_,rfl,en,_,rfl,_,rfl,d,_,rfl,hv▸DGet.k (k:=inl n) (sd _ _ hd),_,en,hsz,line++[q'],Vt dep q' (dep here+1),Ky fr q' (here,n),putK into (inl (q':Int)) (.ref t),_,rfl,Yd fln sd,?_,?_,?_,B',Dn.app ?_ #[C,_] old,fo.app hin B.memp hhm ha,?_,?_,?_,?_⟩
      ·rw[Zi nln];exact ed
      ·rw[Zc];unfold U9;rw[zww];rfl
      ·exact iod.mono fun c xs e=>by rw[Zi (Yz e en (fun z=>nomatch z))];exact e
      ·have:=(zwr.mp hh).1;omega
      ·intro q hq;rcases zw2.mp hq with z|z
       ·exact hlt q z
       ·rw[zwv.mp z];exact hq'l
      ·rw[zx0 (zwr.mp hh).1];exact hh
      ·intro x hx;rw[old here hhm];exact all x hx
      ·intro m hm q2 h2;rw[etk] at hm;rcases zw2.mp hm with z|z
       ·exact zxf _ (pr m z q2 h2)
       ·rw[zwv.mp z] at h2;rw[FP.inj q2 q' n h2 hq'];exact zxd _ (zwv.mpr rfl)
   ·refine X0 (b:=false) (fun Q k=>?_) (iteF (Zy ⟨line,dep,fr,into,_,rfl,sx,hdx,hnx,io,B,Dn,fo,hlt,hh,near,prev fun q2 h2=>absurd h2 (hno q2)⟩));refine⟨_,rfl,_,rfl,d,_,rfl,DGet.k (k:=inl n) (sx _ _ hd),_,rfl,?_⟩;rw[hv];exact iteF k
  ·rintro σ' Hx ⟨line,dep,fr,into,w7,rfl,sx,hdx,hnx,io,B,Dn,fo,hlt,hh,near,pr⟩;rw[zwq,zw9] at pr;have hlt3:=(zwr.mp hh).1;refine⟨line,dep,fr,into,_,_,by omega,rfl,sx,hdx,hnx,io,B,fun i q hi hq n q' ha=>?_,fo,hlt,fun here2 hh2 x hx=>?_⟩
   ·by_cases e:i=dn
    ·rw[e,hh] at hq;cases hq;obtain⟨⟨r2,h1,h2⟩,h3⟩:=ha;rw[hr'] at h1;cases h1;have hm:=pr n h2 q' h3;exact⟨hm,near q' hm⟩
    ·exact Dn i q ⋯ hq n q' ha
   ·have:=B.sorted dn (dn+1) here here2 ⋯ hh hh2;have:=near x hx;omega
 ·rw[zw1 (show ¬ (((dn:Nat):Int)<(line.length:Nat)) by omega)];refine iteF ⟨_,rfl,?_⟩;have e:dn=line.length:=by omega
  subst e;exact h ld into line dep fr Ha hda io B Dn fo hlt sa hld
abbrev T5:Stmt:=top 45
theorem Qv:#[r,["numbers","taken","number"],["numbers","taken"],T5]:=fnS
theorem Jo(F:#[k,"free_referee","free_referee",T5])(T:#[n]):FnOk P w K mg base #[i] 1 f fd ["numbers","taken"] (Dq K):=by
 refine #[o,Qv];obtain⟨l,d,r,kvs,rfl,hl,hd,h⟩:=h;have hu:=X8 hr;refine⟨_,(Zb (Xo PassesOwn.leaving rfl (Yh (K:=K) rfl (pv 0)) (pN 2 Qv.nd)
  (Zf (Z3 (R4 (Li hu (pv 2) (pv 1)))
   (Zf (Zn (pv 2)))
   Zt)))
 (Zf (Zn Y1))),?_⟩
 let jv3:Nat->L2.St->Hp->Prop:=fun i σ' H'=>(∃ u,σ'=[some (.ref l),some (.ref d),u])/\H'=H/\∀ n∈r.take i,(valV kvs (inl n:Key)).isSome=true
 refine⟨_,rfl,l,rfl,⟨_,SqL.of hl⟩,Wh (xs:=r.map V.int) jv3
  ⟨⟨none,rfl⟩,rfl,by simp⟩ (fun i σ' H' hi p=>by rw[p.2.1];exact SqL.of hl) (fun i x σ' H' hx p=>?_) (fun σ' H' p=>?_)⟩
 ·obtain⟨⟨u,rfl⟩,rfl,hp⟩:=p;have hi:i<r.length:=by have:=(zwr.mp hx).1;rw[zwq] at this;exact this
  have e:x=.int (r[i]'hi):=by
   rw[zwx,zws hi] at hx;exact(Option.some.inj hx).symm
  subst e;refine X0 (b:=!(valV kvs (inl (r[i]'hi):Key)).isSome) (fun Q k=>⟨_,rfl,_,rfl,d,_,rfl,DGet.k (k:=inl (r[i]'hi)) hd,_,rfl,k⟩) ?_;cases hv:valV kvs (inl (r[i]'hi):Key) with
  | none=>exact iteT ⟨_,rfl,h (some (r[i]'hi)) (fun n hn=>by cases hn;exact⟨zxp hi,hv⟩) (fun z=>nomatch z)⟩
  | some y =>
    refine iteF (Zy #[t,#[C,_],fun n hn=>?_]);rw[zxe hi] at hn;rcases zw2.mp hn with z|z
    ·exact hp n z
    ·rw[zwv.mp z,hv];rfl
 ·obtain⟨⟨u,rfl⟩,rfl,hp⟩:=p;rw[zwq,zw9] at hp;exact h none (fun n z=>nomatch z) fun _=>hp
abbrev G1:Stmt:=top 46
theorem Ol:#[r,["into","place","number","steps","step"],["into","place","number"],G1]:=fnS
theorem zfg(F:#[k,"traced","traced",G1])(T:#[n]):FnOk P w K mg base #[i] 1 f fd ["into","place","number"] (Ak K):=by
 refine #[o,Ol];obtain⟨t,q,p,w,rows,gs,into,line,dep,fr,rfl,ht,io,fo,d0,hp,hq,hdq,h⟩:=h;have hu:=X8 hr;refine⟨_,(Zb (pS 3 Ol.nd (Z1 (Za (Yc (Za (pv 1) (Za (pv 2) Zd))) Zd)))
 (Zb (pS 4 Ol.nd (pD hu (pv 0) (pv 1)))
 (Zb (Bu PassesOwn.leaving (Zo Uv (pv 4) Y1 (Zu _))
  (Zb (Y5 (pv 3) (pv 4))
  (Zf (pS 4 Ol.nd (pD hu (pv 0) (pI (iU K) (pv 4) Zg))))))
 (Zb (Z8 (zf8 PySem.F.plainAttrs_list PySem.F.slot_list_reverse PySem.F.type_list_reverse zbl (pv 3)))
 (Zf (Zn (pv 3))))))),?_⟩
 have line0:200<sizeLine:=by rw[sizeLine_eq];decide
 have get:∀ {H':Hp},#[q]->∀ k:Nat,DGet H' t (.int (k:Nat)) (valV into (inl (k:Int):Key)):=fun {H'} hs k=>.inl #[I,into,inl (k:Int),ht.imp (hs _ _) fun ⟨o,e⟩=>⟨o,hs _ _ e⟩,rfl];have fr0:∀ c∈line,fr c=none->c=p:=fun c hc hf=>by
  by_cases e:c=p
  ·exact e
  ·obtain⟨par,n,h1,_⟩:=fo.2 c hc e;rw[hf] at h1;cases h1
 have some_of:∀ c∈line,∃ v,valV into (inl (c:Int):Key)=some v:=fun c hc=>zxv.mp ((io.has c).mpr hc);refine⟨_,rfl,_,rfl,sz2,fun m hm=>⟨sz1,fun lt hlt=>?_⟩⟩;have s1:=Ze (o:=.tup [.int (q:Nat),oV w]) hm;have e1:upd H m (.tup [.int (q:Nat),oV w]) m=some (.tup (V7 (q,w))):=Zc;generalize upd H m (.tup [.int (q:Nat),oV w])=H1 at s1 e1 hlt;have s2:=Ze (o:=.lst [V.ref m]) hlt;have e2:upd H1 lt (.lst [V.ref m]) lt=#[c,.lst,[V.ref m]]:=Zc;have e3:=s2 _ _ e1;have s3:=s1.trans s2;have hltn:H lt=none:=s1.free hlt;generalize upd H1 lt (.lst [V.ref m])=H2 at s2 e2 e3 s3;obtain⟨v0,hv0⟩:=some_of q hq;refine⟨_,rfl,_,rfl,t,v0,rfl,hv0▸get s3 q,?_⟩;refine⟨fun mm σ' H'=>∃ (cur:Nat) (st:#[J]) (ts:#[a]) (v:V),mm=dep cur/\cur∈line/\valV into (inl (cur:Int):Key)=some v/\σ'=[#[b,t],#[f,(q:Nat)],#[c,oV,w],#[b,lt],some v]/\#[q]/\H' lt=#[w,ts]/\Yf H' ts (st.reverse.map V7)/\Ch rows gs cur st q w/\st.length+dep cur=dep q+1,
  ⟨_,q,[(q,w)],_,v0,rfl,hq,hv0,rfl,s3,e2,.cons e3 .nil,.one q w,by show 1+dep q=_;omega⟩,?_⟩
 rintro mm σ' Ha ⟨cur,st,ts,v,rfl,hc,hv,rfl,sa,hta,htl,hch,hlen⟩;have htsl:ts.length=st.length:=by have:=htl.length;rw[zwq,List.length_reverse] at this;exact this
 refine⟨_,rfl,rfl,_,rfl,?_⟩;cases hf:fr cur with
 | none =>
   have hcp:=fr0 cur hc hf;subst hcp;have hvn:=io.none cur hc hf;rw[hv] at hvn;cases hvn;refine iteF ?_;refine⟨_,rfl,.inl ⟨rfl,_,SqL.of hta⟩,lt,ts,rfl,rfl,hta,_,rfl,?_⟩;refine h lt ts.reverse st _ Zc ?_ hch ⋯ (Yd hltn sa) hltn;have hr:=htl.reverse;rw[<- List.map_reverse,List.reverse_reverse] at hr;exact hr.mono fun c xs e=>by rw[Zi (Yz e hta (fun z=>nomatch z))];exact e
 | some x =>
   obtain⟨par,n⟩:=x;obtain⟨tt,h1,h2⟩:=io.some cur hc par n hf;rw[hv] at h1;cases h1;have hcp:cur≠p:=fun z=>by rw[z,fo.1] at hf;cases hf
   obtain⟨par',n',h3,h4,h5,h6⟩:=fo.2 cur hc hcp;rw[hf] at h3;cases h3;obtain⟨v',hv'⟩:=some_of par h4;refine iteT ?_;refine⟨fun σ' H'=>∃ (st:#[J]) (ts:#[a]),σ'=[#[b,t],#[f,(q:Nat)],#[c,oV,w],#[b,lt],some v']/\#[q]/\H' lt=#[w,ts]/\Yf H' ts (st.reverse.map V7)/\Ch rows gs par st q w/\st.length+dep par=dep q+1,
    fun σ' H' ⟨st,ts,a1,a2,a3,a4,a5,a6⟩=>⟨dep par,by omega,par,st,ts,v',rfl,h4,hv',a1,a2,a3,a4,a5,a6⟩,?_⟩
   have s4:Same H (upd Ha lt (.lst (ts++[V.ref tt]))):=Yd hltn sa;refine⟨_,rfl,lt,_,rfl,hta,_,rfl,_,hta,by omega,?_⟩;refine⟨_,rfl,_,rfl,tt,_,_,_,rfl,rfl,SqT.of (s4 _ _ h2),rfl,t,v',rfl,hv'▸get s4 par,(par,some n) :: st,ts++[V.ref tt],rfl,s4,Zc,?_,.step h5 hch,?_⟩
   ·rw[zyt,zww];exact(htl.mono fun c xs e=>by rw[Zi (Yz e hta (fun z=>nomatch z))];exact e).snoc (s4 _ _ h2)
   ·rw[zxb];omega
abbrev Be:Stmt:=top 47
theorem Pq:#[r,["may","given","place","taken","into","reached","number"],["may","given","place"],Be]:=fnS
theorem zhz(F:#[k,"chain","chain",Be])(T:#[n])(zo4:Ya P w K mg base "places_taken" 1 ["given"] (Cv K))(zpg:Ya P w K mg base "steps_into" 1 ["may","taken","start"] (zbt K))(zqt:Ya P w K mg base "free_referee" 1 ["numbers","taken"] (Dq K))(zsj:Ya P w K mg base "traced" 1 ["into","place","number"] (Ak K)):FnOk P w K mg base #[i] 2 f fd ["may","given","place"] (Ct K):=by
 refine #[o,Pq];obtain⟨l,lg,ls,rows,nu,gs,p,rfl,hl,il,mo,hg,FP,hp,hgp,h⟩:=h;refine⟨_,(Zb (pS 3 Pq.nd (pF zo4 hr (Za (pv 1) Zd)))
 (Zb (pS 4 Pq.nd (pF zpg hr (Za (pv 0) (Za (pv 3) (Za (pv 2) Zd)))))
 (Zb (Xo PassesOwn.leaving rfl (zda (pv 4)) (pN 5 Pq.nd)
  (Zb (pS 6 Pq.nd (pF zqt hr (Za (pI (iL K) (pv 0) (pv 5)) (Za (pv 3) Zd))))
  (Zf (Z3 (Zo Uv (pv 6) Y1 (Zu _))
   (Zf (Zn (pF zsj hr (Za (pv 4) (Za (pv 5) (Za (pv 6) Zd))))))
   Zt))))
 (Zf (Zn (pF zsj hr (Za (pv 4) (Za (Zq (zeo rfl) (by rfl) T.zt1 PyProof.Rows.boot_max (Za (pv 4) Zd)) (Za Y1 Zd))))))))),?_⟩
 have hrl:rows.length<=100:=zw6 mo.few ⋯;refine⟨_,rfl,lg,gs,rfl,hg,FP.one,FP.inj,by rw[FP.len];exact hrl,fun d kvs H1 hd1 tk s1 hdn=>?_⟩;refine⟨_,rfl,_,rfl,_,rfl,l,d,ls,rows,kvs,gs,p,rfl,s1 _ _ hl,il.same s1,hrl,hd1,tk,FP,hp,fun t into line dep fr H2 ht io B Dn fo hlt s2 htn=>?_⟩;have hbound:line.length<=rows.length:=by
  have:=B.nodup.length_le_of_subset (l₂:=List.range rows.length) fun c hcc=>zxz.mpr (hlt c hcc);rw[zxs] at this;exact this
 have hd2:=s2 _ _ hd1;have s02:=s1.trans s2;have hfree:∀ q n,(∃ r,rows[q]?=some r/\n∈r)->valV kvs (inl n:Key)=none->O8 rows gs q n:=fun q n hr hv=>⟨hr,fun j hj=>by rw[tk.has n j hj] at hv;cases hv⟩
 have hdep:∀ q∈line,dep q<=100:=fun q hq=>by
  obtain⟨pre,hc,hlp⟩:=fo.back B.d0 (dep q) q q none [(q,none)] rfl hq (.one q none);have nd:=hc.nodup fun k hk=>by
   rw[zwt,hlp];have:=(B.full Dn hk).2;show dep q+1<=k+1;omega
  have hlt':=hc.lt FP hp;have:=nd.length_le_of_subset (l₂:=List.range rows.length) fun x hx=>by
   obtain⟨s,hs,rfl⟩:=zw0.mp hx;exact zxz.mpr (hlt' s hs)
  rw[zwq,zxs,zwt,hlp] at this;omega
 have htH:H t=none:=s1.free htn;refine#[ac,_,t,into,ht,fun o=>?_];have e0:upd H2 t (.frz o (.dK into)) t=some (.frz o (.dK into)):=Zc;have s3:Same H (upd H2 t (.frz o (.dK into))):=Yd htH s02;have hd3:upd H2 t (.frz o (.dK into)) d=#[c,.dK,kvs]:=by rw[Zi (Zh hd1 htn)];exact hd2
 have io3:Xx (upd H2 t (.frz o (.dK into))) into line fr:=io.mono fun c xs e=>by rw[Zi (Yz e ht (fun z=>nomatch z))];exact e
 generalize upd H2 t (.frz o (.dK into))=H3 at e0 s3 hd3 io3;have hil:into.length=line.length:=io.len;have key:∀ (i:Nat) (k:Key) (v:V),into[i]?=some (k,v)->∃ q:Nat,line[i]?=some q/\k=inl (q:Int):=fun i k v e=>by
  have:=congrArg (·[i]?) io.keys;simp only[zwx,e,zxy] at this;cases hq:line[i]? with
  | none=>rw[hq] at this;cases this
  | some q=>rw[hq] at this;exact#[t,q,#[aj,this]]
 let jv4:Nat->L2.St->Hp->Prop:=fun i σ' H'=>(∃ u v,σ'=[some (.ref l),some (.ref lg),some (.int p),some (.ref d),some (.ref t),u,v])/\H'=H3/\∀ (j q:Nat),j<i->line[j]?=some q->¬ Uw rows gs q
 refine Aj (a:=t) (o:=o) (kvs:=into) jv4 #[t,⟨none,none,rfl⟩,fun j q hj=>absurd hj (zy2 _)] (fun i σ' H' _ p=>by rw[p.2.1];exact e0) (fun i k v σ' H' hk hP=>?_) fun σ' H' hP=>?_
 ·obtain⟨⟨u,v',rfl⟩,rfl,hno⟩:=hP;obtain⟨q,hq,rfl⟩:=key i k v hk;have hqm:=zw4 hq;have hqr:rows[q]?=some (rows[q]'(hlt q hqm)):=zws (hlt q hqm);generalize (rows[q]'(hlt q hqm))=r at hqr;obtain⟨lr,e2,e3⟩:=il.getR hqr;have hl':(ls.map V.ref)[q]?=#[b,lr]:=by rw[zwx,e2];rfl
  refine⟨_,rfl,_,rfl,l,_,_,_,rfl,rfl,SqL.of (s3 _ _ hl),Zz hl',_,rfl,lr,d,r,kvs,rfl,s3 _ _ e3,hd3,fun w hw1 hw2=>?_⟩;walk_at "if";refine X0 (b:=!decide (oV w=.non)) (fun Q k=>⟨_,rfl,rfl,_,rfl,k⟩) ?_;cases w with
  | none =>
    refine iteF (Zy #[t,⟨_,_,rfl⟩,fun j q2 hj hq2=>?_]);by_cases e:j=i
    ·rw[e,hq] at hq2;cases hq2;rintro⟨n,⟨r2,h1,h2⟩,h3⟩;rw[hqr] at h1;cases h1;have:=hw2 rfl n h2;rw[tk.not n h3] at this;cases this
    ·exact hno j q2 ⋯ hq2
  | some n =>
    obtain⟨hn1,hn2⟩:=hw1 n rfl;refine iteT ⟨_,rfl,_,rfl,_,rfl,t,q,p,some n,rows,gs,into,line,dep,fr,rfl,.inr ⟨o,e0⟩,io3,fo,B.d0,B.memp,hqm,hdep q hqm,fun lt ts st H4 h1 h2 h3 h4 s4 hltn=>?_⟩;have hf:=hfree q n ⟨r,hqr,hn1⟩ hn2;have Di:Done rows gs line dep i:=fun j x hj=>Dn j x (Nat.lt_trans hj (zwr.mp hq).1);exact h lt ts st q (some n) H4 h1 h2 (zbq B Di hq hno hf h3 h4) (s3.trans s4) (s3.free hltn)
 ·obtain⟨⟨u,v',rfl⟩,rfl,hno⟩:=hP;have hpos:0<line.length:=List.length_pos_of_mem B.memp;refine#[t,_,⟨_,rfl,t,into,line.map fun q:Nat=>(q:Int),rfl,.inr ⟨o,e0⟩,by rw[io.keys,zx1];rfl,by rw[zwq];exact hpos,fun M hM hmax=>?_⟩];obtain⟨e,he,rfl⟩:=zw0.mp hM;refine⟨t,e,p,none,rows,gs,into,line,dep,fr,rfl,.inr ⟨o,e0⟩,io3,fo,B.d0,B.memp,he,hdep e he,fun lt ts st H4 h1 h2 h3 h4 s4 hltn=>?_⟩;refine h lt ts st e none H4 h1 h2 (zbr B Dn (fun q hq=>?_) (fun q hq=>?_) h3 h4) (s3.trans s4) (s3.free hltn)
  ·obtain⟨j,hj,e2⟩:=zx4 hq;exact hno j q ⋯ (by rw[zws hj,e2])
  ·have:=hmax _ (zw0.mpr ⟨q,hq,rfl⟩);omega
abbrev Kg:Stmt:=top 48
theorem Qi:#[r,["given","steps","behind","place","number"],["given","steps"],Kg]:=fnS
theorem zcd(F:#[k,"stepped","stepped",Kg])(T:#[n]):FnOk P w K mg base #[i] 1 f fd ["given","steps"] (Lu K):=by
 refine #[o,Qi];obtain⟨b,c,xs,ts,st,rfl,hb,hc,ht,hst,ho,hl,hls,h⟩:=h;refine⟨_,(Zb (pS 2 Qi.nd (Yq (Xj (K:=K) rfl) (by rfl) T.zpx PyProof.Rows.boot_list (Za (pv 0) Zd)))
 (Zb (Xo PassesOwn.leaving rfl (Yh (K:=K) rfl (pv 1)) (Wy (K:=K) (n:=2) rfl rfl (Z9 (pN 3 Qi.nd) (Z9 (pN 4 Qi.nd) Ww)))
  (Zf (Iq (pv 4) (zjx (pv 2) (pv 3) zf7))))
 (Zf (Zn (pv 2))))),?_⟩
 have htl:ts.length=st.length:=by have:=ht.length;rw[zwq] at this;exact this
 refine#[ac,_,b,_,#[L,hb],fun l hln=>?_]
 let jv5:Nat->L2.St->Hp->Prop:=fun i σ' H'=>(∃ u v,σ'=[some (.ref b),some (.ref c),some (.ref l),u,v])/\H' l=#[w,Yx (st.take i) xs]/\(∀ a o,H a=some o->H' a=some o)
 refine⟨_,rfl,c,rfl,⟨ts,SqL.of (Ze hln _ _ hc)⟩,Wh (xs:=ts) jv5 ⟨⟨none,none,rfl⟩,Zc,Ze hln⟩ (fun i σ' H' hi p=>SqL.of (p.2.2 _ _ hc)) (fun i x σ' H' hx p=>?_) fun σ' H' p=>?_⟩
 ·obtain⟨⟨u,v,rfl⟩,hl2,hs⟩:=p;have hi:i<st.length:=by rw[<- htl];exact(zwr.mp hx).1
  obtain⟨t,e1,e2⟩:=zmf ht (zws hi);rw[hx] at e1;cases e1;refine⟨t,_,rfl,SqT.of (hs _ _ e2),rfl,_,_,rfl,_,_,rfl,rfl,?_⟩;have hlen:(Yx (st.take i) xs).length=xs.length:=Wd _ _;have hp:(st[i]'hi).1<xs.length:=hst _ (zxp hi);have e3:Yx (st.take (i+1)) xs=(Yx (st.take i) xs).set (st[i]'hi).1 (oV (st[i]'hi).2):=by
   rw[zxe hi,Dp];rfl
  refine⟨_,rfl,_,rfl,_,rfl,l,_,_,(st[i]'hi).1,rfl,rfl,hl2,(show ixN _ (((st[i]'hi).1:Nat):Int)=some _ by unfold ixN;rw[if_pos ⋯,if_pos ⋯,zxc]),⟨_,_,rfl⟩,?_,fun a o q=>?_⟩
  ·rw[e3];exact Zc
  ·rw[Zi (Zh q hln)];exact hs a o q
 ·obtain⟨⟨u,v,rfl⟩,hl2,hs⟩:=p;rw[htl,zw9] at hl2;exact#[t,_,h l H' hl2 hs hln]
abbrev zce:Stmt:=top 50
theorem Ik:#[r,["may","given","place"],["may"],zce]:=fnS
theorem zjd(F:#[k,"fill","fill",zce])(T:#[n])(zp3:Ya P w K mg base "stepped" 1 ["given","steps"] (Lu K))(zr1:Ya P w K mg base "chain" 2 ["may","given","place"] (Ct K)):FnOk P w K mg base #[i] 3 f fd ["may"] (zgr K):=by
 refine #[o,Ik];obtain⟨l,ls,rows,nu,rfl,hl,il,mo,h⟩:=h;refine⟨_,(Zb (Vp (i:=1) Ik.nd rfl rfl rfl (cT [] []) (Yh (K:=K) rfl (pv 0)) (fun _ _ _ _ _=>Vc) fun _ _ _ _ _=>Y1)
 (Zb (Xo PassesOwn.leaving rfl (Wx rfl T.zpf (Za (Zq (cL K) (by rfl) T.zoi PySem.boot_len (Za (pv 0) Zd)) Zd)) (pN 2 Ik.nd)
  (Zf (pS 1 Ik.nd (pF zp3 hr (Za (pv 1) (Za (pF zr1 hr (Za (pv 0) (Za (pv 1) (Za (pv 2) Zd)))) Zd))))))
 (Zf (Zn (pv 1))))),?_⟩
 have hlen:=il.length;have hrl:rows.length<=100:=zw6 mo.few ⋯;refine⟨_,rfl,l,rfl,⟨_,SqL.of hl⟩,?_⟩;refine Xp (K:=K) (a:=l) (xs:=ls.map V.ref) (fun i ys H'=>H'=H/\ys=(rows.take i).map fun _=>V.non) ⟨rfl,by simp⟩ (fun i ys H' _ z=>by rw[z.1];exact SqL.of hl) (szN (by rw[zwq];omega)) (fun i ys H' z=>by rw[z.2,zwq,zyw];omega) ?_ ?_
 ·rintro i x ys H' hx ⟨rfl,rfl⟩;have hi:i<rows.length:=by
   have:=(zwr.mp hx).1;rw[zwq] at this;omega
  unfold tYes;dsimp only;rw[#[l,rfl]];refine⟨rfl,?_⟩;rw[zxe hi,zww];rfl
 ·rintro ys H' ⟨rfl,rfl⟩ lg hlg;rw[zwq,hlen,zw9];have s1:=Ze (o:=.lst (rows.map fun _=>V.non)) hlg;have e1:upd H' lg (.lst (rows.map fun _=>V.non)) lg=some (.lst (rows.map fun _=>V.non)):=Zc;generalize upd H' lg (.lst (rows.map fun _=>V.non))=H1 at s1 e1;refine⟨_,rfl,l,_,rfl,#[L,s1 _ _ hl],_,rfl,by omega,by rw[zwq];omega,?_⟩;rw[zwq,hlen,zxc]
  let jv6:Nat->L2.St->Hp->Prop:=fun i σ' Hx=>∃ (lg:Addr) (gs:List V) (v2:Option V),σ'=[#[b,l],#[b,lg],v2]/\Same H' Hx/\Hx lg=#[w,gs]/\Tb rows gs i/\H' lg=none
  refine Ua jv6 ⟨lg,_,_,rfl,s1,e1,Fy rows,hlg⟩ ?_ ?_
  ·rintro i σ' Hx hi ⟨lg,gs,v2,rfl,sx,hgx,F,hn⟩;rw[zyq];refine#[t,_,⟨_,rfl,_,rfl,_,rfl,l,lg,ls,rows,nu,gs,i,rfl,sx _ _ hl,il.same sx,mo,hgx,F.fill,hi,F.non (zwz _) hi,fun lt ts st e w H2 h1 h2 c s2 hltn=>?_⟩];refine⟨lg,lt,gs,ts,st,rfl,s2 _ _ hgx,h1,h2,fun s hs=>?_,F.fill.one,by rw[F.fill.len];omega,?_,fun l' H3 h3 s3 hl'=>?_⟩
   ·rw[F.fill.len];exact c.ch.lt F.fill hi s hs
   ·have:=c.len F.fill hi;omega
   ·exact⟨l',_,_,rfl,(sx.trans s2).trans s3,h3,F.step hi c,(sx.trans s2).free hl'⟩
  ·rintro σ' Hx ⟨lg,gs,v2,rfl,sx,hgx,F,hn⟩;exact#[t,_,h lg gs Hx hgx F.fill F.last sx hn]
abbrev T6:Stmt:=top 51
theorem Jp:#[r,["given"],["given"],T6]:=fnS
theorem Jq(F:#[k,"left_without","left_without",T6])(T:#[n]):FnOk P w K mg base #[i] 1 f fd ["given"] (zbp K):=by
 refine #[o,Jp];obtain⟨b,xs,rfl,hb,ho,hl,h⟩:=h;refine#[al,_,Hl rfl (Mh.mk (xo:=["place","number"]) (ys:=[]) (js:=[]) rfl rfl ⋯ ⋯ rfl (by repeat' (first|exact True.intro|apply And.intro|rfl)) (by repeat' (first|exact True.intro|apply And.intro|rfl)) ⋯) (zc9 (K:=K) rfl rfl T.zqw (Za (pv 0) Zd)) (fun _ _ _ _ _=>R8 (Zo Pa (pv 1) Y1 (Zu _))) (fun _ _ _ _ _=>(Wy (K:=K) (n:=2) rfl rfl (Z9 (Ta (i:=0) (show List.Nodup [("place":Str),("number":Str)] by decide +kernel) rfl (by first|exact Or.inl rfl|exact Or.inr rfl)) (Z9 (Ta (i:=1) (show List.Nodup [("place":Str),("number":Str)] by decide +kernel) rfl (by first|exact Or.inl rfl|exact Or.inr rfl)) Ww)))) fun _ _ _ _ _=>(pv 0)];refine⟨_,rfl,b,rfl,⟨_,SqL.of hb⟩,zbs (fun i=>#[j,xs[i]?=some .non]) (fun i=>.int (i:Nat)) ⋯ (SqL.of hb) (fun i x t H' N ys hx hs ht k=>?_) fun H' l hs hl'=>?_⟩
 ·refine⟨t,_,rfl,SqT.of Zc,rfl,?_⟩;have k':=k _ (hs.trans (Ze (o:=.tup [.int (i:Nat),x]) ht));refine⟨_,_,rfl,_,_,rfl,rfl,#[t,[#[f,(i:Nat)],some x],rfl],?_⟩;rw[hx] at k';have e2:#[j,some x=some V.non]=#[j,x=V.non]:=by
   by_cases z:x=V.non
   ·rw[zwy z,zwy (congrArg some z)]
   ·rw[zw1 z,zw1 fun q=>z (Option.some.inj q)]
  rw[e2] at k';refine⟨_,rfl,rfl,_,rfl,?_⟩;by_cases z:x=V.non
  ·rw[zwy z] at k' ⊢;exact#[t,_,k']
  ·rw[zw1 z] at k' ⊢;exact k'
 ·exact h l _ Zc (hs.trans (Ze hl')) (hs.free hl')
abbrev Nu:Stmt:=top 52
theorem zat:#[r,["given","number"],["given","number"],Nu]:=fnS
theorem zau(F:#[k,"place_of","place_of",Nu])(T:#[n]):FnOk P w K mg base #[i] 1 f fd ["given","number"] (Dl K):=by
 refine #[o,zat];obtain⟨b,xs,n,rfl,hb,ho,hl,h⟩:=h;refine#[al,_,Bs (Zo (Ud (K:=K) rfl) (pv 1) (pv 0) (by with_unfolding_all rfl)) (zf9 PySem.F.plainAttrs_list PySem.F.slot_list_index PySem.F.type_list_index zgu (pv 0) (Za (pv 1) Zd)) Y1];have fl:xs.all Rq=true:=zyx.mpr fun x hx=>by rcases ho x hx with rfl|⟨_,rfl⟩<;>rfl
 refine⟨_,rfl,_,rfl,b,xs,rfl,#[L,hb],rfl,fl,_,rfl,?_⟩;have key:=@zgv xs n ho;show if inV (V.int n) xs=true then _ else _
 cases hp:Wk xs n with
 | none =>
   rw[hp] at h;have hno:¬ inV (V.int n) xs=true:=fun z=>by
    obtain⟨j,hj⟩:=key.mp z;have:=List.find?_eq_none.mp hp j (zxz.mpr (zwr.mp hj).1);exact this (zwy hj)
   rw[#[g,hno]];exact h H (Same.refl H)
 | some j =>
   rw[hp] at h;obtain⟨h1,h2,h3⟩:=List.find?_range_eq_some.mp hp;have hj:xs[j]?=#[f,n]:=of_decide_eq_true h1;rw[if_pos (key.mpr ⟨j,hj⟩)];refine⟨_,rfl,?_,_,rfl,b,xs,.int n,j,rfl,rfl,hb,rfl,fl,⟨_,hj,(Ih (.inr ⟨_,rfl⟩)).mpr rfl⟩,fun m z hm hz=>?_,h H (Same.refl H)⟩
   ·exact .inl ⟨rfl,xs,SqL.of hb⟩
   ·have:=h3 m hm;have hne:¬ z=.int n:=fun q=>by
     rw[q] at hz;rw[zwy hz] at this;cases this
    cases hb2:eqV z (.int n) with
    | false=>rfl
    | true=>exact absurd ((Ih (ho z (zw4 hz))).mp hb2) hne
abbrev Nv:Stmt:=top 54
theorem Wu:#[r,["may","given","taken","places","gap","referees","place","number"],["may","given"],Nv]:=fnS
theorem zav(F:#[k,"shortage","shortage",Nv])(T:#[n])(zo4:Ya P w K mg base "places_taken" 1 ["given"] (Cv K))(zo7:Ya P w K mg base "left_without" 1 ["given"] (zbp K))(zpg:Ya P w K mg base "steps_into" 1 ["may","taken","start"] (zbt K)):FnOk P w K mg base #[i] 2 f fd ["may","given"] (zdd K):=by
 refine #[o,Wu];obtain⟨l,lg,ls,rows,nu,gs,rfl,hl,il,mo,hg,FP,NA,h⟩:=h;have hu:=X8 hr;refine⟨_,(Zb (pS 2 Wu.nd (pF zo4 hr (Za (pv 1) Zd)))
 (Zb (pS 3 Wu.nd Mb)
 (Zb (Xo PassesOwn.leaving rfl (Yh (K:=K) rfl (pF zo7 hr (Za (pv 1) Zd))) (pN 4 Wu.nd)
  (Zf (Z8 (zf9 PySem.F.plainAttrs_dict PySem.F.slot_dict_update PySem.F.type_dict_update zeq (pv 3) (Za (pF zpg hr (Za (pv 0) (Za (pv 2) (Za (pv 4) Zd)))) Zd)))))
 (Zb (pS 5 Wu.nd Mb)
 (Zb (Xo PassesOwn.leaving rfl (zda (pv 3)) (pN 6 Wu.nd)
  (Zf (Xo PassesOwn.leaving rfl (Yh (K:=K) rfl (pI (iL K) (pv 0) (pv 6))) (pN 7 Wu.nd)
   (Zf (Y2 hu (pv 5) (pv 7) Rj rfl)))))
 (Zf (Zn (Yc (Za (Zq (Ml rfl) (by rfl) T.zsl PyProof.Rows.boot_sorted (Za (pv 3) Zd)) (Za (Zq (Ml rfl) (by rfl) T.zsl PyProof.Rows.boot_sorted (Za (pv 5) Zd)) Zd)))))))))),?_⟩
 have hrl:rows.length<=100:=zw6 mo.few ⋯;have hgl:gs.length<=100:=by rw[FP.len];exact hrl
 have line0:1000<sizeLine:=Tf ⋯;refine⟨_,rfl,lg,gs,rfl,hg,FP.one,FP.inj,hgl,fun d kvs H1 hd1 tk s1 hdn=>?_⟩;intro lp hlp;have s2:=Ze (o:=.dK []) hlp;have e2:upd H1 lp (.dK []) lp=#[c,.dK,[]]:=Zc;have hlpn:H lp=none:=s1.free hlp;have npd:lp≠d:=Ne.symm (Zh hd1 hlp);have s02:=s1.trans s2;generalize upd H1 lp (.dK [])=H2 at s2 e2 s02;have hd2:=s2 _ _ hd1;have hlft:=@Tq gs;refine⟨_,rfl,lg,gs,rfl,s02 _ _ hg,FP.one,hgl,fun ln H3 hln s3 fln=>?_⟩;refine⟨ln,rfl,⟨_,SqL.of hln⟩,?_⟩;have nln:ln≠lp:=Ne.symm (Zh e2 fln);have hbound:∀ line:List Nat,line.Nodup->(∀ c∈line,c<rows.length)->line.length<=rows.length:=fun line nd hc=>by
  have:=nd.length_le_of_subset (l₂:=List.range rows.length) fun c hcc=>zxz.mpr (hc c hcc);rw[zxs] at this;exact this
 have hwlt:∀ g q k,g<rows.length->#[Y,g,q,k]->q<rows.length:=fun g q k hg' hw=>by
  cases hw with
  | nil=>exact hg'
  | snoc _ a=>rw[<- FP.len];exact(zwr.mp a.2).1
 refine Wh (K:=K) (a:=ln) (xs:=(V6 gs).map fun i=>V.int (i:Nat)) (fun i σ' H'=>∃ (v4:Option V) (kp:List (Key×V)) (pl:List Nat),σ'=[#[b,l],#[b,lg],#[b,d],#[b,lp],v4,none,none,none]/\#[q]/\(∀ b o,H3 b=some o->b≠lp->H' b=some o)/\H' lp=#[c,.dK,kp]/\kp.map (·.1)=pl.map (fun q:Nat=>(inl (q:Int):Key))/\pl.Nodup/\∀ q,q∈pl↔∃ g k,g∈(V6 gs).take i/\#[Y,g,q,k])
  ⟨_,[],[],rfl,s02.trans s3,fun _ _ e _=>e,s3 _ _ e2,rfl,zyn,by simp⟩ (fun i σ' H' _ ⟨_,_,_,_,_,z,_⟩=>SqL.of (z _ _ hln nln)) ?_ ?_
 ·rintro i x σ' Ha hx ⟨v4,kp,pl,rfl,sa,k3,hpa,kk,nd,mem⟩;have hi:i<(V6 gs).length:=by have:=(zwr.mp hx).1;rw[zwq] at this;exact this
  have etk:(V6 gs).take (i+1)=(V6 gs).take i++[(V6 gs)[i]'hi]:=zxe hi;have hgm:(V6 gs)[i]'hi∈V6 gs:=zxp hi;have ex:x=.int (((V6 gs)[i]'hi:Nat):Int):=by rw[zwx,zws hi] at hx;exact(Option.some.inj hx).symm
  generalize ((V6 gs)[i]'hi)=g at etk hgm ex;subst ex;have hgr:g<rows.length:=by rw[<- FP.len];exact(zwr.mp (Tq.mp hgm)).1
  have hda:=k3 _ _ (s3 _ _ hd2) (Ne.symm npd);have hkl:kp.length<=100:=by
   have:=congrArg List.length kk;rw[zwq,zwq] at this;rw[this];refine zw6 (hbound pl nd fun q hq=>?_) hrl;obtain⟨g',k,h1,h2⟩:=(mem q).mp hq;refine hwlt g' q k ?_ h2;rw[<- FP.len];exact(zwr.mp (Tq.mp (zyv h1))).1
  refine⟨_,rfl,.inr (.inr (.inl ⟨rfl,.inl ⟨_,hpa⟩⟩)),_,rfl,_,rfl,_,rfl,l,d,ls,rows,kvs,gs,g,rfl,sa _ _ hl,il.same sa,hrl,hda,tk,FP,hgr,fun t into line dep fr Hb ht io B Dn fo hlt sb htn=>?_⟩;have hll:=hbound line B.nodup hlt;have hil:=io.len;have hpb:=sb _ _ hpa;refine⟨lp,t,kp,into,rfl,rfl,Zh hpa htn,hpb,ht,by omega,?_⟩;have kb:∀ b o,H3 b=#[d]->b≠lp->upd Hb lp (.dK (Uc kp into)) b=#[d]:=fun b o e n=>by rw[Zi n];exact sb _ _ (k3 b o e n)
  refine⟨_,Uc kp into,Dr pl line,rfl,Yd hlpn (sa.trans sb),kb,Zc,Hm zm9 kk io.keys,Kz nd,fun q=>?_⟩;rw[Du,mem,etk];constructor
  ·rintro(⟨g',k,h1,h2⟩|hq)
   ·exact⟨g',k,zxf _ h1,h2⟩
   ·exact⟨g,dep q,by simp,B.walk q hq⟩
  ·rintro⟨g',k,h1,h2⟩;rcases zw2.mp h1 with z|z
   ·exact .inl ⟨g',k,z,h2⟩
   ·rw[zwv.mp z] at h2;exact .inr (B.full Dn h2).1
 ·rintro σ' Ha ⟨v4,kp,pl,rfl,sa,k3,hpa,kk,nd,mem⟩;rw[zwq,zw9] at mem;have mem:∀ q,q∈pl↔∃ g k,gs[g]?=some .non/\#[Y,g,q,k]:=fun q=>by
   rw[mem q];exact⟨fun ⟨g,k,a,b⟩=>⟨g,k,Tq.mp a,b⟩,fun ⟨g,k,a,b⟩=>⟨g,k,Tq.mpr a,b⟩⟩
  have hplt:∀ q∈pl,q<rows.length:=fun q hq=>by
   obtain⟨g,k,h1,h2⟩:=(mem q).mp hq;exact hwlt g q k (by rw[<- FP.len];exact(zwr.mp h1).1) h2
  have hpl20:pl.length<=20:=zw6 (hbound pl nd hplt) mo.few;intro lr hlr;have e5:upd Ha lr (.dK []) lr=#[c,.dK,[]]:=Zc;have s5:=sa.trans (Ze (o:=.dK []) hlr);have hp5:=Ze (o:=.dK []) hlr _ _ hpa;have nlr:lr≠lp:=Ne.symm (Zh hpa hlr);have hlrn:H lr=none:=sa.free hlr;generalize upd Ha lr (.dK [])=H5 at e5 s5 hp5;refine#[ac,_,lp,kp,hp5,fun o=>?_];have e6:upd H5 lp (.frz o (.dK kp)) lp=some (.frz o (.dK kp)):=Zc;have r6:upd H5 lp (.frz o (.dK kp)) lr=#[c,.dK,[]]:=by rw[Zi nlr];exact e5
  have s6:Same H (upd H5 lp (.frz o (.dK kp))):=Yd hlpn s5;generalize upd H5 lp (.frz o (.dK kp))=H6 at e6 r6 s6;have key:∀ (i:Nat) (k:Key) (v:V),kp[i]?=some (k,v)->∃ q:Nat,pl[i]?=some q/\k=inl (q:Int):=fun i k v e=>by
   have:=congrArg (·[i]?) kk;simp only[zwx,e,zxy] at this;cases hq:pl[i]? with
   | none=>rw[hq] at this;cases this
   | some q=>rw[hq] at this;exact#[t,q,#[aj,this]]
  have hkpl:kp.length=pl.length:=by have:=congrArg List.length kk;rw[zwq,zwq] at this;exact this
  have rbound:∀ rl:#[p],rl.Nodup->(∀ n∈rl,n∈nu)->rl.length<=30:=fun rl n1 n2=>zw6 (n1.length_le_of_subset n2) mo.crowd
  let jv7:Nat->L2.St->Hp->Prop:=fun i σ' H'=>∃ (v6 v7:Option V) (kr:List (Key×V)) (rl:List Int),σ'=[#[b,l],#[b,lg],#[b,d],#[b,lp],v4,#[b,lr],v6,v7]/\#[q]/\H' lp=some (.frz o (.dK kp))/\H' lr=#[c,.dK,kr]/\kr.map (·.1)=rl.map (inl:Int->Key)/\rl.Nodup/\∀ n,n∈rl↔∃ p∈pl.take i,∃ r,rows[p]?=some r/\n∈r
  refine Aj (a:=lp) (o:=o) (kvs:=kp) jv7
   ⟨_,_,[],[],rfl,s6,e6,r6,rfl,zyn,by simp⟩ (fun i σ' H' _ ⟨_,_,_,_,_,_,z,_⟩=>z) (fun i k v σ' Hc hk hP=>?_) (fun σ' Hc hP=>?_)
  ·obtain⟨v6,v7,kr,rl,rfl,sc,hpc,hrc,kkr,ndr,memr⟩:=hP;obtain⟨q,hq,rfl⟩:=key i k v hk;have hqm:=zw4 hq;have hi:i<pl.length:=(zwr.mp hq).1;have etk:pl.take (i+1)=pl.take i++[q]:=by
    rw[zxe hi];rw[zws hi] at hq;rw[#[aj,hq]]
   have hqr:rows[q]?=some (rows[q]'(hplt q hqm)):=zws (hplt q hqm);have hrm:rows[q]'(hplt q hqm)∈rows:=zxp _;generalize (rows[q]'(hplt q hqm))=r at hqr hrm;obtain⟨lq,e2',e3⟩:=il.getR hqr;have hl':(ls.map V.ref)[q]?=#[b,lq]:=by rw[zwx,e2'];rfl
   refine⟨_,rfl,_,rfl,l,_,_,_,rfl,rfl,SqL.of (sc _ _ hl),Zz hl',lq,rfl,⟨_,SqL.of (sc _ _ e3)⟩,?_⟩
   let jv8:Nat->L2.St->Hp->Prop:=fun j σ' H'=>∃ (v7:Option V) (kr:List (Key×V)) (rl:List Int),σ'=[#[b,l],#[b,lg],#[b,d],#[b,lp],v4,#[b,lr],#[f,(q:Nat)],v7]/\#[q]/\H' lp=some (.frz o (.dK kp))/\H' lr=#[c,.dK,kr]/\kr.map (·.1)=rl.map (inl:Int->Key)/\rl.Nodup/\∀ n,n∈rl↔(∃ p∈pl.take i,∃ r,rows[p]?=some r/\n∈r)\/n∈r.take j
   refine Wh (K:=K) (a:=lq) (xs:=r.map V.int) jv8
    ⟨_,kr,rl,rfl,sc,hpc,hrc,kkr,ndr,fun n=>by rw[memr];simp⟩ (fun j σ' H' _ ⟨_,_,_,_,z,_⟩=>SqL.of (z _ _ e3)) ?_ ?_
   ·rintro j y σ' Hd hy ⟨w7,kr,rl,rfl,sd,hpd,hrd,kkr,ndr,memr⟩;have hj:j<r.length:=by have:=(zwr.mp hy).1;rw[zwq] at this;exact this
    have hrj:r[j]?=some (r[j]'hj):=zws hj;have etj:r.take (j+1)=r.take j++[r[j]'hj]:=zxe hj;generalize (r[j]'hj)=n at hrj etj;have ey:y=.int n:=by rw[zwx,hrj] at hy;exact(Option.some.inj hy).symm
    subst ey;have hsub:∀ m∈rl,m∈nu:=fun m hm=>by
     rcases(memr m).mp hm with ⟨p,_,r',h1,h2⟩|h1
     ·exact(mo.sub r' (zw4 h1)).2 m h2
     ·exact(mo.sub r hrm).2 m (zyv h1)
    have hkr:kr.length<=30:=by
     have:=congrArg List.length kkr;rw[zwq,zwq] at this;rw[this];exact rbound rl ndr hsub
    refine⟨_,rfl,_,rfl,lr,_,rfl,DPut.k (k:=inl n) hrd ⋯,_,putK kr (inl n) (.bl true),F3 rl n,rfl,Yd hlrn sd,by rw[Zi (Ne.symm nlr)];exact hpd,Zc,Am zm8 kkr n _,Hn ndr,fun m=>?_⟩;rw[An,memr,etj,zw2,zwv,or_assoc]
   ·rintro σ' Hd ⟨w7,kr,rl,rfl,sd,hpd,hrd,kkr,ndr,memr⟩;rw[zwq,zw9] at memr;refine⟨_,_,kr,rl,rfl,sd,hpd,hrd,kkr,ndr,fun n=>?_⟩;rw[memr,etk];constructor
    ·rintro(⟨p,h1,h2⟩|h1)
     ·exact⟨p,zxf _ h1,h2⟩
     ·exact⟨q,by simp,r,hqr,h1⟩
    ·rintro⟨p,h1,r',h2,h3⟩;rcases zw2.mp h1 with z|z
     ·exact .inl ⟨p,z,r',h2,h3⟩
     ·rw[zwv.mp z,hqr] at h2;cases h2;exact .inr h3
  ·obtain⟨v6,v7,kr,rl,rfl,sc,hpc,hrc,kkr,ndr,memr⟩:=hP;rw[hkpl,zw9] at memr;have hsub:∀ m∈rl,m∈nu:=fun m hm=>by
    obtain⟨p,_,r',h1,h2⟩:=(memr m).mp hm;exact(mo.sub r' (zw4 h1)).2 m h2
   have hrl30:=rbound rl ndr hsub;refine⟨_,rfl,lp,kp,pl.map (fun q:Nat=>(q:Int)),rfl,.inr ⟨o,hpc⟩,by rw[kk,zx1];rfl,by rw[zwq];omega,fun l1 pi hl1 p1 p2=>?_⟩;have s7:=Ze (o:=.lst (pi.map V.int)) hl1;have q7:upd Hc l1 (.lst (pi.map V.int)) l1=some (.lst (pi.map V.int)):=Zc;have hr7:=s7 _ _ hrc;have sc7:=sc.trans s7;generalize upd Hc l1 (.lst (pi.map V.int))=H7 at s7 q7 hr7 sc7;refine⟨_,rfl,lr,kr,rl,rfl,.inl hr7,kkr,by omega,fun l2 rs hl2 p3 p4=>?_⟩;obtain⟨ps,rfl,SP⟩:=zg4 FP NA nd mem ndr memr p1 p2 p3 p4;refine⟨sz2,fun t ht=>?_⟩;have s8:=Ze (o:=.lst (rs.map V.int)) hl2;have q8:upd H7 l2 (.lst (rs.map V.int)) l2=some (.lst (rs.map V.int)):=Zc;have q78:=s8 _ _ q7;generalize upd H7 l2 (.lst (rs.map V.int))=H8 at s8 q8 q78 ht;have s9:=Ze (o:=.tup [.ref l1,.ref l2]) ht;refine h t l1 l2 ps rs _ Zc (s9 _ _ (by rw[q78];unfold U9;rw[zx1];rfl)) (s9 _ _ q8) SP (sc7.trans (s8.trans s9)) ((sc7.trans s8).free ht) (sc.free hl1) (sc7.free hl2) (Zh q7 hl2)
abbrev Uk:Stmt:=Z0 (top 56) 0
theorem Mr:#[r,["self","listed","lists","given","gaps"],["self","listed","lists","given","gaps"],Uk]:=fnS
theorem Mt(F:#[k,"__init__","Sheet.__init__",Uk])(T:#[n]):FnOk P w K mg base #[i] 1 f fd ["self","listed","lists","given","gaps"] #[e,Mn]:=by
 refine #[o,Mr];obtain⟨q,dx,l1,l2,l3,l4,rfl,hq,h⟩:=h;refine⟨_,(Zb (Y9 (K:=K) rfl (pv 0) (pv 1) rfl)
 (Zb (Y9 (K:=K) rfl (pv 0) (pv 2) rfl)
 (Zb (Y9 (K:=K) rfl (pv 0) (pv 3) rfl)
 (Zf (Y9 (K:=K) rfl (pv 0) (pv 4) rfl))))),?_⟩
 refine⟨_,rfl,_,rfl,q,a.znz,dx,[],rfl,hq,T.zn6,T.zpw,⋯,?_⟩;refine⟨_,rfl,_,rfl,q,a.znz,dx,[("listed",.ref l1)],rfl,Zc,T.zn6,T.zso,(by show 1<1000;decide),?_⟩;rw[zna];refine⟨_,rfl,_,rfl,q,a.znz,dx,_,rfl,Zc,T.zn6,T.zp8,(by show 2<1000;decide),?_⟩;rw[znb];refine⟨_,rfl,_,rfl,q,a.znz,dx,_,rfl,Zc,T.zn6,T.zsu,(by show 3<1000;decide),?_⟩;rw[znc];refine h _ ?_;rw[Ia,Ia,Ia];rfl
abbrev T7:Stmt:=Z0 (top 56) 1
theorem Jr:#[r,#[v,"lists"],#[v,"lists"],T7]:=fnS
theorem Js(F:#[k,"barred","Sheet.barred",T7])(T:#[n])(zqh:To P w K mg base "Sheet" a.znz 1 ["self","listed","lists","given","gaps"] #[e,Mn]):FnOk P w K mg base #[i] 3 f fd #[v,"lists"] #[e,Av]:=by
 refine #[o,Jr];obtain⟨ok,q,l2,ls,rows,s,rfl,SA,hl2,il,ok2,okl,no,h⟩:=h;refine#[al,_,Cm zqh (hr.mono ⋯) Zj rfl (Za (Zr (K:=K) rfl (pv 0) rfl) (Za (pv 1) (Za #[af,Zr,0] (Za #[af,Zr,0] Zd))))];obtain⟨dx,m1,m2,m3,m4,ts,ms,gts,a1,a2,a3,a4,a5,a6,a7,a8,o1,o2,o3,o4,o5,o6⟩:=id SA;refine⟨_,rfl,q,a.znz,dx,_,_,rfl,a1,T.zn6,T.zpw,Tg,_,rfl,_,rfl,q,a.znz,dx,_,_,rfl,a1,T.zn6,T.zp8,Ts,_,rfl,q,a.znz,dx,_,_,rfl,a1,T.zn6,T.zsu,Cz,?_⟩;intro q' dx' hq' hdx' ne;refine⟨q',dx',m1,l2,m3,m4,rfl,Zc,fun H' e=>⟨rfl,?_⟩⟩;obtain⟨s1,q1⟩:=Ng (C:=a.znz) (l1:=m1) (l2:=l2) (l3:=m3) (l4:=m4) hq' hdx' ne;rw[<- e] at s1 q1;exact h q' H' ⟨dx',m1,l2,m3,m4,ts,ls,gts,q1,s1 _ _ a2,a3.same s1,s1 _ _ hl2,il.same s1,s1 _ _ a6,s1 _ _ a7,a8.keep (fun _ _ _ z=>s1 _ _ z) fun _ _ z=>s1 _ _ z,no _ hq',o2,ok2,o4,o5,okl⟩ s1 hq'
abbrev Vk:Stmt:=Z0 (top 56) 2
theorem X1:#[r,["self","number","lists","place","gap","steps"],["self","number","lists"],Vk]:=fnS
theorem Ow(F:#[k,"fallen_out","Sheet.fallen_out",Vk])(T:#[n])(zor:Zp P w K mg base a.znz "where" 2 #[Z] #[e,Oi])(zp3:Ya P w K mg base "stepped" 1 ["given","steps"] (Lu K))(zr1:Ya P w K mg base "chain" 2 ["may","given","place"] (Ct K))(zqh:To P w K mg base "Sheet" a.znz 1 ["self","listed","lists","given","gaps"] #[e,Mn]):FnOk P w K mg base #[i] 3 f fd ["self","number","lists"] #[e,Aw]:=by
 refine #[o,X1];obtain⟨ok,q,l2,ls,rows,nu,s,n,p,rfl,SA,hl2,il,ok2,okl,no,mo,ho,hgp,hun,FP,hgz,h⟩:=h;refine⟨_,(Zb (pS 3 X1.nd (Yg (pv 0) T.zn6 zor (hr.mono ⋯) Zj (Za (pv 1) Zd)))
 (Zb (pS 4 X1.nd (pF zp3 hr (Za (Zr (K:=K) rfl (pv 0) rfl) (Za (Z1 (Za (Yc (Za (pv 3) (Za Y1 Zd))) Zd)) Zd))))
 (Zb (pS 5 X1.nd (pF zr1 hr (Za (pv 2) (Za (pv 4) (Za (pv 3) Zd)))))
 (Zf (Zn (Cm zqh (hr.mono ⋯) Zj rfl (Za (Zr (K:=K) rfl (pv 0) rfl) (Za (pv 2) (Za (pF zp3 hr (Za (pv 4) (Za (pv 5) Zd))) (Za (Zs W2 (Zr (K:=K) rfl (pv 0) rfl) (Z1 (Za (Yc (Za (pv 1) (Za (pv 5) Zd))) Zd))) Zd)))))))))),?_⟩
 obtain⟨dx,m1,m2,m3,m4,ts,ms,gts,a1,a2,a3,a4,a5,a6,a7,a8,o1,o2,o3,o4,o5,o6⟩:=id SA;have hrl:rows.length<=100:=zw6 mo.few ⋯;have hgl:s.gv.length<=100:=by have:=FP.len;rw[zyg] at this;omega
 have hpl:p<s.gv.length:=(zwr.mp hgp).1;have hpr:p<rows.length:=by have:=FP.len;rw[zyg] at this;omega
 have hplace:Wk s.gv n=some p:=by
  unfold Wk;rw[List.find?_eq_some_iff_getElem];refine⟨zwy hgp,p,by rw[zxs];exact hpl,by rw[List.getElem_range],fun j hj=>?_⟩;rw[List.getElem_range,Bool.not_eq_true',decide_eq_false_iff_not];exact fun z=>absurd (hun j z) ⋯
 refine⟨_,rfl,q,dx,_,rfl,a1,Wm ⋯ ⋯ ⋯ ⋯,_,rfl,ok,q,s,n,rfl,SA,ho,hgl,fun H1 s1=>?_⟩;rw[hplace,show oN (some p)=V.int (p:Nat) from rfl];have SA1:=SA.same s1;refine⟨_,rfl,q,a.znz,dx,_,_,rfl,s1 _ _ a1,T.zn6,T.zp8,Ts,_,rfl,sz2,fun t1 ht1=>⟨sz1,fun lx hlx=>?_⟩⟩;have s2:=Ze (o:=.tup [.int (p:Nat),.non]) ht1;have q2:upd H1 t1 (.tup [.int (p:Nat),.non]) t1=some (.tup (V7 (p,none))):=Zc;generalize upd H1 t1 (.tup [.int (p:Nat),.non])=H2 at s2 q2 hlx;have s3:=Ze (o:=.lst [V.ref t1]) hlx;have q3:upd H2 lx (.lst [V.ref t1]) lx=#[c,.lst,[V.ref t1]]:=Zc;have q23:=s3 _ _ q2;generalize upd H2 lx (.lst [V.ref t1])=H3 at s3 q3 q23;have s13:=s1.trans (s2.trans s3);refine⟨m3,lx,s.gv,[V.ref t1],[(p,none)],rfl,s13 _ _ a6,q3,.cons q23 .nil,fun st hst=>by rw[zwv.mp hst];exact hpl,ho,hgl,by show 1<=100;decide,fun lg H4 hg4 s4 f4=>?_⟩;have s14:=s13.trans s4;have hg4:#[y,H4,lg,s.gv.set p .non]:=hg4;refine⟨_,rfl,_,rfl,_,rfl,l2,lg,ls,rows,nu,s.gv.set p .non,p,rfl,s14 _ _ hl2,il.same s14,mo,hg4,FP,hpr,by rw[zxt hpl],fun lt us st e w H5 hlt tl CR s5 f5=>?_⟩;have s15:=s14.trans s5;have hst100:st.length<=100:=zw6 (CR.len FP hpr) hrl;refine⟨_,rfl,q,a.znz,dx,_,_,rfl,s15 _ _ a1,T.zn6,T.zpw,Tg,_,rfl,_,rfl,_,rfl,lg,lt,s.gv.set p .non,us,st,rfl,s5 _ _ hg4,hlt,tl,fun x hx=>?_,FP.one,by rw[FP.len];exact hrl,hst100,fun l3 H6 h6 s6 f6=>?_⟩
 ·rw[FP.len];exact CR.ch.lt FP hpr x hx
 have s16:=s15.trans s6;refine⟨_,rfl,q,a.znz,dx,_,_,rfl,s16 _ _ a1,T.zn6,T.zsu,Cz,_,rfl,_,rfl,sz2,fun t2 ht2=>⟨sz1,fun ly hly=>?_⟩⟩;have s7:=Ze (o:=.tup [.int n,.ref lt]) ht2;have q7:upd H6 t2 (.tup [.int n,.ref lt]) t2=#[c,.tup,[.int n,.ref lt]]:=Zc;generalize upd H6 t2 (.tup [.int n,.ref lt])=H7 at s7 q7 hly;have s8:=Ze (o:=.lst [V.ref t2]) hly;have q8:upd H7 ly (.lst [V.ref t2]) ly=#[c,.lst,[V.ref t2]]:=Zc;have q78:=s8 _ _ q7;generalize upd H7 ly (.lst [V.ref t2])=H8 at s8 q8 q78;have s18:=s16.trans (s7.trans s8);refine⟨m4,ly,gts,[V.ref t2],rfl,rfl,s18 _ _ a7,q8,by have:=a8.length;show gts.length+1<=sizeLine;have:=Tr;omega,fun l4 hl4=>?_⟩;have s9:=Ze (o:=.lst (gts++[V.ref t2])) hl4;have q9:upd H8 l4 (.lst (gts++[V.ref t2])) l4=#[c,.lst,gts++[V.ref t2]]:=Zc;generalize upd H8 l4 (.lst (gts++[V.ref t2]))=H9 at s9 q9;have s19:=s18.trans s9;intro q' dx' hq' hdx' ne;refine⟨q',dx',m1,l2,l3,l4,rfl,Zc,fun H' e'=>⟨rfl,?_⟩⟩;obtain⟨s10,q10⟩:=Ng (C:=a.znz) (l1:=m1) (l2:=l2) (l3:=l3) (l4:=l4) hq' hdx' ne;rw[<- e'] at s10 q10;have s:=s19.trans s10;have s6x:=s7.trans (s8.trans (s9.trans s10));have s5x:=s6.trans s6x;refine h q' st e w H' ⟨dx',m1,l2,l3,l4,ts,ls,gts++[V.ref t2],q10,s _ _ a2,a3.same s,s _ _ hl2,il.same s,s6x _ _ h6,s10 _ _ q9,?_,no _ (s19.free hq'),o2,ok2,no _ (s15.free f6),no _ (s18.free hl4),okl⟩ CR s (s19.free hq');exact(a8.keep (fun _ _ _ z=>s _ _ z) (fun _ _ z=>s _ _ z)).snoc ((s9.trans s10) _ _ q78) (s5x _ _ hlt) (tl.same s5x) (no _ (s14.free f5))
abbrev U5:Stmt:=Z0 (top 56) 3
theorem Kh:#[an,U5]:=fnS
theorem Ki(F:#[k,"matches","Sheet.matches",U5])(T:#[n]):FnOk P w K mg base #[i] 1 f fd ["self"] #[e,Pl]:=by
 refine #[o,Kh];obtain⟨ok,q,s,rfl,SA,h⟩:=h;refine⟨_,Zf (Zn (Yq (Xj (K:=K) rfl) (by rfl) T.zpx PyProof.Rows.boot_list (Za (Zr (K:=K) rfl (pv 0) rfl) Zd))),?_⟩;obtain⟨dx,m1,m2,m3,m4,ts,ms,gts,a1,a2,a3,a4,a5,a6,a7,a8,o1,o2,o3,o4,o5,o6⟩:=id SA;refine⟨_,rfl,q,a.znz,dx,_,_,rfl,a1,T.zn6,T.zpw,Tg,m1,_,rfl,#[L,a2],fun l hl=>?_⟩;exact h l ts _ Zc (a3.same (Ze hl)) (Ze hl) hl
abbrev Ul:Stmt:=Z0 (top 56) 4
theorem Mu:#[r,#[v,"place"],#[v,"place"],Ul]:=fnS
theorem Mv(F:#[k,"match_at","Sheet.match_at",Ul])(T:#[n])(zoj:Zp P w K mg base a.znz "check_place" 1 #[v,"place"] #[e,Lv]):FnOk P w K mg base #[i] 2 f fd #[v,"place"] #[e,K0]:=by
 refine #[o,Mu];obtain⟨ok,q,s,i,rfl,SA,si,h1,h2⟩:=h;refine⟨_,(Zb (Z8 (Yg (pv 0) T.zn6 zoj (hr.mono ⋯) Zj (Za (pv 1) Zd)))
 (Zf (Zn (pI (iL K) (Zr (K:=K) rfl (pv 0) rfl) (pv 1))))),?_⟩
 obtain⟨dx,m1,m2,m3,m4,ts,ms,gts,a1,a2,a3,a4,a5,a6,a7,a8,o1,o2,o3,o4,o5,o6⟩:=id SA;refine⟨_,rfl,q,dx,_,rfl,a1,Wm ⋯ ⋯ ⋯ ⋯,_,rfl,ok,q,s,i,rfl,SA,si,?_⟩;refine Fs (fun hc=>h1 hc) fun hc=>?_;obtain⟨k,rfl⟩:∃ k:Nat,i=k:=⟨i.toNat,by omega⟩;have hk:k<s.ms.length:=by omega
 have hm:s.ms[k]?=some (s.ms[k]'hk):=zws hk;obtain⟨t,e1,e2⟩:=a3.getR (show (s.ms.map pV)[k]?=some (pV (s.ms[k]'hk)) by rw[zwx,hm];rfl);exact⟨_,rfl,q,a.znz,dx,_,_,rfl,a1,T.zn6,T.zpw,Tg,_,rfl,m1,_,_,_,rfl,rfl,SqL.of a2,Zz e1,h2 k _ t rfl hm e2⟩
abbrev Pr:Stmt:=Z0 (top 56) 5
theorem Bf:#[r,#[v,"place"],#[v,"place"],Pr]:=fnS
theorem Bg(F:#[k,"may","Sheet.may",Pr])(T:#[n])(zoj:Zp P w K mg base a.znz "check_place" 1 #[v,"place"] #[e,Lv]):FnOk P w K mg base #[i] 2 f fd #[v,"place"] #[e,zdi]:=by
 refine #[o,Bf];obtain⟨ok,q,s,i,rfl,SA,si,hml,h1,h2⟩:=h;refine⟨_,(Zb (Z8 (Yg (pv 0) T.zn6 zoj (hr.mono ⋯) Zj (Za (pv 1) Zd)))
 (Zf (Zn (Yq (Xj (K:=K) rfl) (by rfl) T.zpx PyProof.Rows.boot_list (Za (pI (iL K) (Zr (K:=K) rfl (pv 0) rfl) (pv 1)) Zd))))),?_⟩
 obtain⟨dx,m1,m2,m3,m4,ts,ms,gts,a1,a2,a3,a4,a5,a6,a7,a8,o1,o2,o3,o4,o5,o6⟩:=id SA;refine⟨_,rfl,q,dx,_,rfl,a1,Wm ⋯ ⋯ ⋯ ⋯,_,rfl,ok,q,s,i,rfl,SA,si,?_⟩;refine Fs (fun hc=>h1 hc) fun hc=>?_;obtain⟨k,rfl⟩:∃ k:Nat,i=k:=⟨i.toNat,by omega⟩;have hk:k<s.may.length:=by omega
 have hr':s.may[k]?=some (s.may[k]'hk):=zws hk;obtain⟨lr,e2,e3⟩:=a5.getR hr';have hl':(ms.map V.ref)[k]?=#[b,lr]:=by rw[zwx,e2];rfl
 exact⟨_,rfl,q,a.znz,dx,_,_,rfl,a1,T.zn6,T.zso,Au,_,rfl,m2,_,_,_,rfl,rfl,SqL.of a4,Zz hl',lr,_,rfl,#[L,e3],fun l hl=>h2 k _ rfl hr' l _ Zc (Ze hl) hl⟩
abbrev W4:Stmt:=Z0 (top 56) 6
theorem Pt:#[r,#[v,"place"],#[v,"place"],W4]:=fnS
theorem Pu(F:#[k,"check_place","Sheet.check_place",W4])(T:#[n]):FnOk P w K mg base #[i] 1 f fd #[v,"place"] #[e,Lv]:=by
 refine #[o,Pt];obtain⟨ok,q,s,i,rfl,SA,si,h⟩:=h;refine⟨_,(Zf (Z3 (PW.pt (Rk (Zo Kr (pv 1) Zg (Zu _)) (V9 (Zo zfr (pv 1) (Zq (cL K) (by rfl) T.zoi PySem.boot_len (Za (Zr (K:=K) rfl (pv 0) rfl) Zd)) (Zu _)))))
  (Zf (Xg Xf rfl T.ztl rfl (Za (Ve (Z4 (Xw ⋯) (Z4 (W3 (pv 1)) Vd)) ⋯) Zd)))
  Zt)),?_⟩
 obtain⟨dx,m1,m2,m3,m4,ts,ms,gts,a1,a2,a3,a4,a5,a6,a7,a8,o1,o2,o3,o4,o5,o6⟩:=id SA;have hts:ts.length=s.ms.length:=by rw[a3.length,zwq]
 refine⟨_,rfl,_,_,rfl,rfl,_,rfl,?_⟩;refine itD (fun hc=>?_) fun hc=>?_
 ·rw[if_pos (.inl hc)] at h;refine iteT ?_;exact#[az,_,_,si,h]
 refine⟨_,rfl,_,rfl,q,a.znz,dx,_,_,rfl,a1,T.zn6,T.zpw,Tg,m1,_,rfl,#[L,a2],_,_,rfl,rfl,_,rfl,?_⟩;rw[hts];refine itD (fun hc2=>?_) fun hc2=>?_
 ·rw[if_pos (.inr hc2)] at h;exact#[az,_,_,si,h]
 ·rw[#[g,fun z=>z.elim hc hc2]] at h;exact h
abbrev Qj:Stmt:=Z0 (top 56) 7
theorem Ef:#[an,Qj]:=fnS
theorem Eg(F:#[k,"goes","Sheet.goes",Qj])(T:#[n]):FnOk P w K mg base #[i] 1 f fd ["self"] #[e,Hr]:=by
 refine #[o,Ef];obtain⟨ok,q,s,rfl,SA,h⟩:=h;refine⟨_,Zf (Zn (Yq (Xj (K:=K) rfl) (by rfl) T.zpx PyProof.Rows.boot_list (Za (Zr (K:=K) rfl (pv 0) rfl) Zd))),?_⟩;obtain⟨dx,m1,m2,m3,m4,ts,ms,gts,a1,a2,a3,a4,a5,a6,a7,a8,o1,o2,o3,o4,o5,o6⟩:=id SA;refine⟨_,rfl,q,a.znz,dx,_,_,rfl,a1,T.zn6,T.zp8,Ts,m3,_,rfl,#[L,a6],fun l hl=>?_⟩;exact h l _ Zc (Ze hl) hl
abbrev S7:Stmt:=Z0 (top 56) 8
theorem G2:#[r,#[Z],#[Z],S7]:=fnS
theorem G3(F:#[k,"where","Sheet.where",S7])(T:#[n])(zsb:Ya P w K mg base "place_of" 1 ["given","number"] (Dl K)):FnOk P w K mg base #[i] 2 f fd #[Z] #[e,Oi]:=by
 refine #[o,G2];obtain⟨ok,q,s,n,rfl,SA,ho,hgl,h⟩:=h;refine#[al,_,pF zsb hr (Za (Zr (K:=K) rfl (pv 0) rfl) (Za (pv 1) Zd))];obtain⟨dx,m1,m2,m3,m4,ts,ms,gts,a1,a2,a3,a4,a5,a6,a7,a8,o1,o2,o3,o4,o5,o6⟩:=id SA;exact⟨_,rfl,q,a.znz,dx,_,_,rfl,a1,T.zn6,T.zp8,Ts,_,rfl,m3,s.gv,n,rfl,a6,ho,hgl,fun H' s'=>h H' s'⟩
abbrev Qk:Stmt:=Z0 (top 56) 9
theorem Eh:#[an,Qk]:=fnS
theorem Ei(F:#[k,"left","Sheet.left",Qk])(T:#[n])(zo7:Ya P w K mg base "left_without" 1 ["given"] (zbp K)):FnOk P w K mg base #[i] 2 f fd ["self"] #[e,Ax]:=by
 refine #[o,Eh];obtain⟨ok,q,s,rfl,SA,ho,hgl,h⟩:=h;refine#[al,_,pF zo7 hr (Za (Zr (K:=K) rfl (pv 0) rfl) Zd)];obtain⟨dx,m1,m2,m3,m4,ts,ms,gts,a1,a2,a3,a4,a5,a6,a7,a8,o1,o2,o3,o4,o5,o6⟩:=id SA;exact⟨_,rfl,q,a.znz,dx,_,_,rfl,a1,T.zn6,T.zp8,Ts,m3,s.gv,rfl,a6,ho,hgl,fun l H' h1 s' h2=>h l H' h1 s' h2⟩
abbrev Pw:Stmt:=Z0 (top 56) 10
theorem Bh:#[an,Pw]:=fnS
theorem Bi(F:#[k,"why","Sheet.why",Pw])(T:#[n])(zr8:Ya P w K mg base "shortage" 2 ["may","given"] (zdd K)):FnOk P w K mg base #[i] 3 f fd ["self"] #[e,zdh]:=by
 refine #[o,Bh];obtain⟨ok,q,s,nu,rfl,SA,mo,FP,NA,h⟩:=h;refine#[al,_,pF zr8 hr (Za #[af,Zr,0] (Za #[af,Zr,0] Zd))];obtain⟨dx,m1,m2,m3,m4,ts,ms,gts,a1,a2,a3,a4,a5,a6,a7,a8,o1,o2,o3,o4,o5,o6⟩:=id SA;exact⟨_,rfl,q,a.znz,dx,_,_,rfl,a1,T.zn6,T.zso,Au,_,rfl,q,a.znz,dx,_,_,rfl,a1,T.zn6,T.zp8,Ts,m2,m3,ms,s.may,nu,s.gv,rfl,a4,a5,mo,a6,FP,NA,fun t lp lr ps rs H'=>h t lp lr ps rs H'⟩
abbrev T8:Stmt:=Z0 (top 56) 11
theorem Jt:#[an,T8]:=fnS
theorem Ju(F:#[k,"chains","Sheet.chains",T8])(T:#[n]):FnOk P w K mg base #[i] 1 f fd ["self"] #[e,Nh]:=by
 refine #[o,Jt];obtain⟨ok,q,s,rfl,SA,hgz,h⟩:=h;refine#[al,_,Hl rfl (Mh.mk (xo:=["number","steps"]) (ys:=[]) (js:=[]) rfl rfl ⋯ ⋯ rfl (by repeat' (first|exact True.intro|apply And.intro|rfl)) (by repeat' (first|exact True.intro|apply And.intro|rfl)) ⋯) (Yh (K:=K) rfl #[af,Zr,0]) (fun _ _ _ _ _=>Vc) (fun _ _ _ _ _=>(Wy (K:=K) (n:=2) rfl rfl (Z9 (Ta (i:=0) (show List.Nodup [("number":Str),("steps":Str)] by decide +kernel) rfl (by first|exact Or.inl rfl|exact Or.inr rfl)) (Z9 (Ta (i:=1) (show List.Nodup [("number":Str),("steps":Str)] by decide +kernel) rfl (by first|exact Or.inl rfl|exact Or.inr rfl)) Ww)))) fun _ _ _ _ _=>(Yc (Za (pv 0) (Za (Yq (Xj (K:=K) rfl) (by rfl) T.zpx PyProof.Rows.boot_list (Za (pv 1) Zd)) Zd)))];obtain⟨dx,m1,m2,m3,m4,ts,ms,gts,a1,a2,a3,a4,a5,a6,a7,a8,o1,o2,o3,o4,o5,o6⟩:=id SA;have hgts:=a8.length;refine⟨_,rfl,q,a.znz,dx,_,_,rfl,a1,T.zn6,T.zsu,Cz,m4,rfl,⟨_,SqL.of a7⟩,?_⟩;refine zbx (K:=K) (xs:=gts) (fun i ys H'=>#[q]/\Wl (fun x=>H x=none) H' ys (s.gaps.take i)/\ys.length=i) ⟨Same.refl _,.nil,rfl⟩ (fun i ys H' _ ⟨s',_⟩=>SqL.of (s' _ _ a7)) (szN ⋯) (fun i ys H' ⟨_,_,e⟩=>by omega) ?_ ?_
 ·rintro i x ys H' hx ⟨s1,gl,hyl⟩;obtain⟨t,l,n,us,st,rfl,hgi,ht,hl,tl,_⟩:=a8.get hx;have ht1:=s1 _ _ ht;have hl1:=s1 _ _ hl;refine⟨t,_,rfl,SqT.of ht1,rfl,_,_,rfl,_,_,rfl,rfl,#[t,[#[f,n],#[b,l]],rfl],?_⟩;unfold tYes;dsimp only;rw[#[l,rfl]];refine⟨_,rfl,_,rfl,l,_,rfl,#[L,hl1],fun l2 hl2=>?_⟩;have s2:=Ze (o:=.lst us) hl2;have q2:upd H' l2 (.lst us) l2=#[c,.lst,us]:=Zc;have f2:H l2=none:=s1.free hl2;generalize upd H' l2 (.lst us)=H2 at s2 q2;refine⟨sz2,fun t2 ht2=>?_⟩;have s3:=Ze (o:=.tup [.int n,.ref l2]) ht2;have s23:=s2.trans s3;refine⟨s1.trans s23,?_,by rw[zwt,hyl];rfl⟩;have e:s.gaps.take (i+1)=s.gaps.take i++[(n,st)]:=by rw[zx9,hgi];rfl
  rw[e];exact(gl.keep (fun _ _ _ z=>s23 _ _ z) (fun _ _ z=>s23 _ _ z)).snoc Zc (s3 _ _ q2) (tl.same (s1.trans s23)) f2
 ·rintro ys H' ⟨s1,gl,hyl⟩ l hl;rw[hgts,zw9] at gl;refine h l ys _ Zc ?_ (s1.trans (Ze hl)) (s1.free hl);exact(gl.imp (ok':=fun x=>H x=none/\x≠l) fun x ⟨o,e⟩ z=>⟨z,Zh e hl⟩).keep (fun _ _ _ z=>Ze hl _ _ z) fun _ _ z=>Ze hl _ _ z
abbrev Ql:Stmt:=Z0 (top 56) 12
theorem Ej:#[an,Ql]:=fnS
theorem Ek(F:#[k,"rows","Sheet.rows",Ql])(T:#[n]):FnOk P w K mg base #[i] 1 f fd ["self"] #[e,Az]:=by
 refine #[o,Ej];obtain⟨ok,q,s,rfl,SA,ho,hgl,hml,h⟩:=h;refine#[al,_,Hl rfl (Mh.mk (xo:=["match","number"]) (ys:=[]) (js:=[]) rfl rfl ⋯ ⋯ rfl (by repeat' (first|exact True.intro|apply And.intro|rfl)) (by repeat' (first|exact True.intro|apply And.intro|rfl)) ⋯) (zkw (K:=K) rfl rfl T.zua (Za #[af,Zr,0] (Za #[af,Zr,0] Zd))) (fun _ _ _ _ _=>Vc) (fun _ _ _ _ _=>(Wy (K:=K) (n:=2) rfl rfl (Z9 (Ta (i:=0) (show List.Nodup [("match":Str),("number":Str)] by decide +kernel) rfl (by first|exact Or.inl rfl|exact Or.inr rfl)) (Z9 (Ta (i:=1) (show List.Nodup [("match":Str),("number":Str)] by decide +kernel) rfl (by first|exact Or.inl rfl|exact Or.inr rfl)) Ww)))) fun _ _ _ _ _=>(Zs (Ar (K:=K) rfl) (pv 0) (Yc (Za (pv 1) Zd)))];obtain⟨dx,m1,m2,m3,m4,ts,ms,gts,a1,a2,a3,a4,a5,a6,a7,a8,o1,o2,o3,o4,o5,o6⟩:=id SA;have hts:ts.length=s.ms.length:=by rw[a3.length,zwq]
 refine⟨_,rfl,q,a.znz,dx,_,_,rfl,a1,T.zn6,T.zpw,Tg,_,rfl,q,a.znz,dx,_,_,rfl,a1,T.zn6,T.zp8,Ts,m1,m3,rfl,⟨_,SqL.of a2⟩,⟨_,SqL.of a6⟩,?_⟩;refine zes (K:=K) (xs:=ts) (zs:=s.gv) (fun i ys H'=>#[q]/\Yf H' ys (((Yj s).take i).map Cq)/\ys.length=i) ⟨Same.refl _,.nil,rfl⟩ ⋯ (fun i ys H' _ ⟨s',_⟩=>⟨SqL.of (s' _ _ a2),SqL.of (s' _ _ a6)⟩) (szN ⋯) (fun i ys H' ⟨_,_,e⟩=>by omega) ?_ ?_
 ·rintro i x z t ys H' hx hz ⟨s1,tl,hyl⟩ ht;obtain⟨tm,m,rfl,hm,htm⟩:=Jg a3 hx;have oz:=ho z (zw4 hz);have s2:=s1.trans (Ze (o:=.tup [.ref tm,z]) ht);have tl2:=tl.same (Ze (o:=.tup [.ref tm,z]) ht);have q2:upd H' t (.tup [.ref tm,z]) t=#[c,.tup,[.ref tm,z]]:=Zc;generalize upd H' t (.tup [.ref tm,z])=H2 at s2 tl2 q2;refine⟨t,_,rfl,SqT.of q2,rfl,_,_,rfl,_,_,rfl,rfl,#[t,[#[b,tm],some z],rfl],?_⟩;unfold tYes;dsimp only;rw[#[l,rfl]];refine⟨_,rfl,_,rfl,sz1,fun t1 ht1=>?_⟩;have s3:=Ze (o:=.tup [z]) ht1;have q3:upd H2 t1 (.tup [z]) t1=#[c,.tup,[z]]:=Zc;generalize upd H2 t1 (.tup [z])=H3 at s3 q3;refine⟨tm,t1,_,_,rfl,rfl,SqT.of ((s2.trans s3) _ _ htm),SqT.of q3,by unfold pV;simp,by show 3+1<=sizeLine;exact sz4,fun z=>absurd z (by simp),fun _ t2 ht2=>?_⟩;have s4:=Ze (o:=.tup (pV m++[z])) ht2;refine⟨s2.trans (s3.trans s4),?_,by rw[zwt,hyl];rfl⟩;rw[zet hm hz,zww];refine((tl2.same s3).same s4).snoc ?_;rw[Zc,zk1 m oz];rfl
 ·rintro ys H' ⟨s1,tl,hyl⟩ l hl;rw[hts,<- A0 hgl,zw9] at tl;exact h l ys _ Zc (tl.same (Ze hl)) (s1.trans (Ze hl)) (s1.free hl)
abbrev S8:Stmt:=top 57
theorem G4:#[r,["listed","lists"],["listed","lists"],S8]:=fnS
theorem G5(F:#[k,"drawn_sheet","drawn_sheet",S8])(T:#[n])(zqh:To P w K mg base "Sheet" a.znz 1 ["self","listed","lists","given","gaps"] #[e,Mn])(zt4:Ya P w K mg base "fill" 3 ["may"] (zgr K)):FnOk P w K mg base #[i] 4 f fd ["listed","lists"] #[e,zdg]:=by
 refine #[o,G4];obtain⟨ok,l1,l2,ts,ls,ms,rows,nu,rfl,hl1,tl,hl2,il,ok1,ok2,okl,no,mo,h⟩:=h;refine#[al,_,Cm zqh (hr.mono ⋯) Zj rfl (Za (pv 0) (Za (pv 1) (Za (pF zt4 hr (Za (pv 1) Zd)) (Za (Z1 Zd) Zd))))];refine⟨_,rfl,_,rfl,_,rfl,l2,ls,rows,nu,rfl,hl2,il,mo,fun l3 gv H1 h3 FP SP s1 f3=>?_⟩;refine#[ap,fun l4 hl4=>?_];have s2:=Ze (o:=.lst []) hl4;have q2:upd H1 l4 (.lst []) l4=#[c,.lst,[]]:=Zc;generalize upd H1 l4 (.lst [])=H2 at s2 q2;have s12:=s1.trans s2;intro q dx hq hdx ne;refine⟨q,dx,l1,l2,l3,l4,rfl,Zc,fun H' e=>⟨rfl,?_⟩⟩;obtain⟨s3,q3⟩:=Ng (C:=a.znz) (l1:=l1) (l2:=l2) (l3:=l3) (l4:=l4) hq hdx ne;rw[<- e] at s3 q3;have s:=s12.trans s3;exact h q gv H' ⟨dx,l1,l2,l3,l4,ts,ls,[],q3,s _ _ hl1,tl.same s,s _ _ hl2,il.same s,#[N,s3,s2,h3],s3 _ _ q2,.nil,no _ (s12.free hq),ok1,ok2,no _ f3,no _ (s1.free hl4),okl⟩ FP SP s (s12.free hq)
abbrev V0:Stmt:=Z0 (top 59) 0
theorem Nw:#[r,["self","rounds","rest"],["self","rounds","rest"],V0]:=fnS
theorem Ny(F:#[k,"__init__","Season.__init__",V0])(T:#[n])(zoa:Ya P w K mg base "check_range" 1 ["value","least","most"] (Mm a.zog))(zs8:To P w K mg base "Roster" a.zn3 1 ["self"] #[e,zde])(ztd:To P w K mg base "Ledger" a.zn1 1 ["self"] (zc5 a.zn1)):FnOk P w K mg base #[i] 3 f fd ["self","rounds","rest"] #[e,zdk]:=by
 refine #[o,Nw];obtain⟨p,dx,r,q,rfl,hp,sr,sq,h⟩:=h;refine⟨_,(Zb (Z8 (pF zoa hr (Za (pv 1) (Za Zg (Za (Wn rfl T.zq0) Zd)))))
 (Zb (Z8 (pF zoa hr (Za (pv 2) (Za Zg (Za (Wn rfl T.zr0) Zd)))))
 (Zb (Y9 (K:=K) rfl (pv 0) (pv 1) rfl)
 (Zb (Y9 (K:=K) rfl (pv 0) (pv 2) rfl)
 (Zb (Y9 (K:=K) rfl (pv 0) (zc0 zs8 (hr.mono ⋯) Zj rfl) rfl)
 (Zb (Y9 (K:=K) rfl (pv 0) (zc0 ztd (hr.mono ⋯) Zj rfl) rfl)
 (Zb (Y9 (K:=K) rfl (pv 0) Iy rfl)
 (Zb (Y9 (K:=K) rfl (pv 0) (Z1 Zd) rfl)
 (Zb (Y9 (K:=K) rfl (pv 0) Y1 rfl)
 (Zf (Y9 (K:=K) rfl (pv 0) (Z1 Zd) rfl))))))))))),?_⟩
 show let y1:TS:=_;let y2:TS:=Zx _ y1;let y3:TS:=Zx _ y2;let y4:TS:=Zx _ y3;let y5:TS:=Zx _ y4;let y6:TS:=Zx _ y5;let y7:TS:=Zx _ y6;let y8:TS:=Zx _ y7;let y9:TS:=Zx _ y8;Zx _ y9 _ _ _;intro y1 y2 y3 y4 y5 y6 y7 y8 y9;refine⟨_,rfl,r,0,60,rfl,sr,Yl ⋯,Yl ⋯,?_⟩;refine it2 h (fun _ z=>z) fun h1 h=>?_;refine⟨_,rfl,q,0,10,rfl,sq,Yl ⋯,Yl ⋯,?_⟩;refine it2 h (fun _ z=>z) fun h2 hF=>?_;have er:r=((r.toNat:Nat):Int):=by omega
 have eq':q=((q.toNat:Nat):Int):=by omega
 generalize r.toNat=rn at hF er;generalize q.toNat=qn at hF eq';subst er eq';refine⟨_,rfl,_,rfl,p,a.znw,dx,_,rfl,hp,T.znx,T.zrs,(by show 0<1000;decide),?_⟩;rw[pF1];refine⟨_,rfl,_,rfl,p,a.znw,dx,_,rfl,Zc,T.znx,T.ztb,(by show 1<1000;decide),?_⟩;rw[pF2,Ia];have b1:Vw p H (upd H p (.ins a.znw dx (sF2 (.int rn) (.int qn)))):=.put;have q1:upd H p (.ins a.znw dx (sF2 (.int rn) (.int qn))) p=some (.ins a.znw dx (sF2 (.int rn) (.int qn))):=Zc;generalize upd H p (.ins a.znw dx (sF2 (.int rn) (.int qn)))=H1 at b1 q1;intro pr dxr hpr hdxr ne;refine⟨pr,dxr,rfl,Zc,fun dr hdr=>⟨rfl,?_⟩⟩;have ndp:dr≠pr:=fun z=>by rw[z,Zc] at hdr;cases hdr
 have ndx:dr≠dxr:=fun z=>by rw[z,Zi ne,Zc] at hdr;cases hdr
 have hdr1:H1 dr=none:=by rw[Zi ndp,Zi ndx] at hdr;exact hdr
 have s2:Same H1 (upd (upd (upd (upd H1 dxr (.own pr)) pr (.ins a.zn3 dxr [])) dr (.dK [])) pr (.ins a.zn3 dxr [("entries",.ref dr)])):=fun b o e=>by
  rw[Zi (Zh e hpr),Zi (Zh e hdr1),Zi (Zh e hpr),Zi (Zh e hdxr)];exact e
 have R2:Y8 a.zn3 (upd (upd (upd (upd H1 dxr (.own pr)) pr (.ins a.zn3 dxr [])) dr (.dK [])) pr (.ins a.zn3 dxr [("entries",.ref dr)])) pr dr []:=⟨⟨dxr,[],Zc,by rw[Zi ndp,Zc],.nil⟩,zyn⟩;generalize upd (upd (upd (upd H1 dxr (.own pr)) pr (.ins a.zn3 dxr [])) dr (.dK [])) pr (.ins a.zn3 dxr [("entries",.ref dr)])=H2 at s2 R2;refine⟨_,rfl,p,a.znw,dx,_,rfl,s2 _ _ q1,T.znx,T.zow,(by show 2<1000;decide),?_⟩;rw[pF3];have np2:pr≠p/\dr≠p:=⟨Ne.symm (Zh q1 hpr),Ne.symm (Zh q1 hdr1)⟩;have b3:Vw p H (upd H2 p (.ins a.znw dx (sF3 (.int rn) (.int qn) (.ref pr)))):=b1.trans ((Vw.of s2).trans .put);have q3:upd H2 p (.ins a.znw dx (sF3 (.int rn) (.int qn) (.ref pr))) p=some (.ins a.znw dx (sF3 (.int rn) (.int qn) (.ref pr))):=Zc;have kt3:∀ t xs,H2 t=#[A,xs]->upd H2 p (.ins a.znw dx (sF3 (.int rn) (.int qn) (.ref pr))) t=#[A,xs]:=fun t xs e=>by rw[Zi (Yz e (s2 _ _ q1) (fun z=>nomatch z))];exact e
 have R3:=R2.keep (H':=upd H2 p (.ins a.znw dx (sF3 (.int rn) (.int qn) (.ref pr)))) (fun o e=>by rw[Zi np2.1];exact e) (fun o e=>by rw[Zi np2.2];exact e) kt3;have fdr:H dr=none:=Vw.free b1 ⟨_,q1⟩ hdr1;have hr2:H2 dr=#[c,.dK,[]]/\∃ o,H2 pr=#[d]:=by
  obtain⟨⟨x,kv,z1,z2,z3⟩,_⟩:=R2;cases z3;exact⟨z2,_,z1⟩
 generalize upd H2 p (.ins a.znw dx (sF3 (.int rn) (.int qn) (.ref pr)))=H3 at b3 q3 R3;intro pl dxl hpl hdxl nel;refine⟨pl,dxl,rfl,Zc,fun lr ld H4 L0 k0 f0 g0 n0=>⟨rfl,?_⟩⟩;obtain⟨s4,fr0,fd0⟩:=zgo hpl hdxl nel k0 f0 g0;refine⟨_,rfl,p,a.znw,dx,_,rfl,s4 _ _ q3,T.znx,T.zpj,(by show 3<1000;decide),?_⟩;rw[pF4];have q4:=s4 _ _ q3;have np4:pl≠p/\lr≠p/\ld≠p:=⟨Ne.symm (Zh q3 hpl),Ne.symm (Zh q3 fr0),Ne.symm (Zh q3 fd0)⟩;have b5:Vw p H (upd H4 p (.ins a.znw dx (sF4 (.int rn) (.int qn) (.ref pr) (.ref pl)))):=b3.trans ((Vw.of s4).trans .put);have q5:upd H4 p (.ins a.znw dx (sF4 (.int rn) (.int qn) (.ref pr) (.ref pl))) p=some (.ins a.znw dx (sF4 (.int rn) (.int qn) (.ref pr) (.ref pl))):=Zc;have kt5:∀ t xs,H4 t=#[A,xs]->upd H4 p (.ins a.znw dx (sF4 (.int rn) (.int qn) (.ref pr) (.ref pl))) t=#[A,xs]:=fun t xs e=>by rw[Zi (Yz e q4 (fun z=>nomatch z))];exact e
 have R5:=(R3.same s4).keep (H':=upd H4 p (.ins a.znw dx (sF4 (.int rn) (.int qn) (.ref pr) (.ref pl)))) (fun o e=>by rw[Zi np2.1];exact e) (fun o e=>by rw[Zi np2.2];exact e) kt5;have L5:=L0.keep (H':=upd H4 p (.ins a.znw dx (sF4 (.int rn) (.int qn) (.ref pr) (.ref pl)))) (fun o e=>by rw[Zi np4.1];exact e) (fun o e=>by rw[Zi np4.2.1];exact e) (fun o e=>by rw[Zi np4.2.2];exact e) kt5;have flr:H lr=none:=Vw.free b3 ⟨_,q3⟩ fr0;have fld:H ld=none:=Vw.free b3 ⟨_,q3⟩ fd0;have nrp:pr≠pl/\dr≠pl/\pr≠lr/\dr≠lr/\pr≠ld/\dr≠ld:=by
  obtain⟨⟨x,kv,z1,z2,_⟩,_⟩:=R3;exact⟨Zh z1 hpl,Zh z2 hpl,Zh z1 fr0,Zh z2 fr0,Zh z1 fd0,Zh z2 fd0⟩
 generalize upd H4 p (.ins a.znw dx (sF4 (.int rn) (.int qn) (.ref pr) (.ref pl)))=H5 at b5 q5 R5 L5;intro da hda;have npa:da≠p:=Ne.symm (Zh q5 hda);refine⟨_,rfl,p,a.znw,dx,_,rfl,Ze (o:=.dT []) hda _ _ q5,T.znx,T.zqb,(by show 4<1000;decide),?_⟩;rw[pF5];have b7:Vw p H5 (upd (upd H5 da (.dT [])) p (.ins a.znw dx (sF5 (.int rn) (.int qn) (.ref pr) (.ref pl) (.ref da)))):=(Vw.of (Ze hda)).trans .put;have q7:upd (upd H5 da (.dT [])) p (.ins a.znw dx (sF5 (.int rn) (.int qn) (.ref pr) (.ref pl) (.ref da))) p=some (.ins a.znw dx (sF5 (.int rn) (.int qn) (.ref pr) (.ref pl) (.ref da))):=Zc;have d7:upd (upd H5 da (.dT [])) p (.ins a.znw dx (sF5 (.int rn) (.int qn) (.ref pr) (.ref pl) (.ref da))) da=#[c,.dT,[]]:=by rw[Zi npa,Zc]
 generalize upd (upd H5 da (.dT [])) p (.ins a.znw dx (sF5 (.int rn) (.int qn) (.ref pr) (.ref pl) (.ref da)))=H7 at b7 q7 d7;refine#[ap,fun ls hls=>?_];have nps:ls≠p:=Ne.symm (Zh q7 hls);refine⟨_,rfl,p,a.znw,dx,_,rfl,Ze (o:=.lst []) hls _ _ q7,T.znx,T.zrq,(by show 5<1000;decide),?_⟩;rw[pF6];have b9:Vw p H7 (upd (upd H7 ls (.lst [])) p (.ins a.znw dx (sF6 (.int rn) (.int qn) (.ref pr) (.ref pl) (.ref da) (.ref ls)))):=(Vw.of (Ze hls)).trans .put;have q9:upd (upd H7 ls (.lst [])) p (.ins a.znw dx (sF6 (.int rn) (.int qn) (.ref pr) (.ref pl) (.ref da) (.ref ls))) p=some (.ins a.znw dx (sF6 (.int rn) (.int qn) (.ref pr) (.ref pl) (.ref da) (.ref ls))):=Zc;have l9:upd (upd H7 ls (.lst [])) p (.ins a.znw dx (sF6 (.int rn) (.int qn) (.ref pr) (.ref pl) (.ref da) (.ref ls))) ls=#[c,.lst,[]]:=by rw[Zi nps,Zc]
 generalize upd (upd H7 ls (.lst [])) p (.ins a.znw dx (sF6 (.int rn) (.int qn) (.ref pr) (.ref pl) (.ref da) (.ref ls)))=H9 at b9 q9 l9;refine⟨_,rfl,p,a.znw,dx,_,rfl,q9,T.znx,T.zos,(by show 6<1000;decide),?_⟩;rw[pF7];have b10:Vw p H9 (upd H9 p (.ins a.znw dx (sF7 (.int rn) (.int qn) (.ref pr) (.ref pl) (.ref da) (.ref ls) .non))):=.put;have q10:upd H9 p (.ins a.znw dx (sF7 (.int rn) (.int qn) (.ref pr) (.ref pl) (.ref da) (.ref ls) .non)) p=some (.ins a.znw dx (sF7 (.int rn) (.int qn) (.ref pr) (.ref pl) (.ref da) (.ref ls) .non)):=Zc;generalize upd H9 p (.ins a.znw dx (sF7 (.int rn) (.int qn) (.ref pr) (.ref pl) (.ref da) (.ref ls) .non))=H10 at b10 q10;refine#[ap,fun lt hlt=>?_];have npt:lt≠p:=Ne.symm (Zh q10 hlt);refine⟨_,rfl,p,a.znw,dx,_,rfl,Ze (o:=.lst []) hlt _ _ q10,T.znx,T.zpb,(by show 7<1000;decide),?_⟩;rw[pF8];have b12:Vw p H10 (upd (upd H10 lt (.lst [])) p (.ins a.znw dx (sF8 (.int rn) (.int qn) (.ref pr) (.ref pl) (.ref da) (.ref ls) .non (.ref lt)))):=(Vw.of (Ze hlt)).trans .put;have q12:upd (upd H10 lt (.lst [])) p (.ins a.znw dx (sF8 (.int rn) (.int qn) (.ref pr) (.ref pl) (.ref da) (.ref ls) .non (.ref lt))) p=some (.ins a.znw dx (sF8 (.int rn) (.int qn) (.ref pr) (.ref pl) (.ref da) (.ref ls) .non (.ref lt))):=Zc;have l12:upd (upd H10 lt (.lst [])) p (.ins a.znw dx (sF8 (.int rn) (.int qn) (.ref pr) (.ref pl) (.ref da) (.ref ls) .non (.ref lt))) lt=#[c,.lst,[]]:=by rw[Zi npt,Zc]
 generalize upd (upd H10 lt (.lst [])) p (.ins a.znw dx (sF8 (.int rn) (.int qn) (.ref pr) (.ref pl) (.ref da) (.ref ls) .non (.ref lt)))=H12 at b12 q12 l12;have b912:=b10.trans b12;have b712:=b9.trans b912;have b512:=b7.trans b712;have bb:=b5.trans b512;have kt:∀ t xs,H5 t=#[A,xs]->H12 t=#[A,xs]:=fun t xs e=>b512 t _ e (Yz e q5 (fun z=>nomatch z));have R12:=R5.keep (fun o e=>b512 _ o e np2.1) (fun o e=>b512 _ o e np2.2) kt;have L12:=L5.keep (fun o e=>b512 _ o e np4.1) (fun o e=>b512 _ o e np4.2.1) (fun o e=>b512 _ o e np4.2.2) kt;have d12:=b712 _ _ d7 npa;have l912:=b912 _ _ l9 nps;have fda:H da=none:=Vw.free b5 ⟨_,q5⟩ hda;have fls:H ls=none:=Vw.free (b5.trans b7) ⟨_,q7⟩ hls;have flt:H lt=none:=Vw.free (b5.trans (b7.trans (b9.trans b10))) ⟨_,q10⟩ hlt;have ex5:(∃ o,H5 pr=some o)/\(∃ o,H5 dr=some o)/\(∃ o,H5 pl=some o)/\(∃ o,H5 lr=some o)/\(∃ o,H5 ld=some o):=by
  obtain⟨⟨x,kv,z1,z2,_⟩,_⟩:=id R5;obtain⟨⟨y,w1⟩,⟨rs,w2,_⟩,⟨ks,w3,_⟩⟩:=id L5;exact⟨⟨_,z1⟩,⟨_,z2⟩,⟨_,w1⟩,⟨_,w2⟩,⟨_,w3⟩⟩
 have n5:∀ {x y:Addr},(∃ o,H5 x=some o)->H5 y=none->x≠y:=fun ⟨o,e⟩ hy=>Zh e hy;have fls5:H5 ls=none:=Vw.free b7 ⟨_,q7⟩ hls;have flt5:H5 lt=none:=Vw.free (b7.trans (b9.trans b10)) ⟨_,q10⟩ hlt;have ndas:da≠ls:=Zh d7 hls;have ndat:da≠lt:=Zh (b10 _ _ (b9 _ _ d7 npa) npa) hlt;have nst:ls≠lt:=Zh (b10 _ _ l9 nps) hlt;obtain⟨e1,e2,e3,e4,e5⟩:=ex5;have nrl:lr≠ld:=n0;refine hF ⟨p,pr,dr,pl,lr,ld,da,ls,lt⟩ H12 rfl ⟨⟨dx,.non,q12,rfl⟩,R12,L12,⟨[],d12,fun i n=>rfl,zwz _⟩,⟨[],l912,.nil⟩,⟨[],l12,.nil⟩,?_,?_⟩ bb ?_
 ·show [p,dr,lr,ld,da,ls,lt].Nodup;simp only[zxh,zwu,zxm,or_false,not_or];exact⟨⟨Ne.symm np2.2,Ne.symm np4.2.1,Ne.symm np4.2.2,Ne.symm npa,Ne.symm nps,Ne.symm npt⟩,⟨nrp.2.2.2.1,nrp.2.2.2.2.2,n5 e2 hda,n5 e2 fls5,n5 e2 flt5⟩,⟨nrl,n5 e4 hda,n5 e4 fls5,n5 e4 flt5⟩,⟨n5 e5 hda,n5 e5 fls5,n5 e5 flt5⟩,⟨ndas,ndat⟩,nst,by simp,zyn⟩
 ·have hpr5:∃ x fs,H5 pr=some (.ins a.zn3 x fs):=by obtain⟨⟨x,kv,z1,_⟩,_⟩:=R5;exact⟨_,_,z1⟩
  have hdr5:∃ kv,H5 dr=#[c,.dK,kv]:=by obtain⟨⟨x,kv,_,z2,_⟩,_⟩:=R5;exact⟨_,z2⟩
  have hpl5:∃ x fs,H5 pl=some (.ins a.zn1 x fs):=by obtain⟨⟨y,w1⟩,_⟩:=L5;exact⟨_,_,w1⟩
  obtain⟨x1,y1,z1⟩:=hpr5;obtain⟨y2,z2⟩:=hdr5;obtain⟨x3,y3,z3⟩:=hpl5;obtain⟨_,⟨rs,w2,_⟩,⟨ks,w3,_⟩⟩:=id L5;have nm:∀ m,m∈([p,dr,lr,ld,da,ls,lt]:List Addr)↔m=p\/m=dr\/m=lr\/m=ld\/m=da\/m=ls\/m=lt:=fun m=>by simp
  refine⟨fun hm=>?_,fun hm=>?_⟩
  ·rcases(nm _).mp hm with q|q|q|q|q|q|q
   ·exact np2.1 q
   ·exact Yz z1 z2 (fun z=>nomatch z) q
   ·exact nrp.2.2.1 q
   ·exact nrp.2.2.2.2.1 q
   ·exact n5 e1 hda q
   ·exact n5 e1 fls5 q
   ·exact n5 e1 flt5 q
  ·rcases(nm _).mp hm with q|q|q|q|q|q|q
   ·exact np4.1 q
   ·exact nrp.2.1 q.symm
   ·exact Yz z3 w2 (fun z=>nomatch z) q
   ·exact Yz z3 w3 (fun z=>nomatch z) q
   ·exact n5 e3 hda q
   ·exact n5 e3 fls5 q
   ·exact n5 e3 flt5 q
 ·intro x hx hxp;simp only[SAd.fp,zwu,zxm,or_false] at hx;rcases hx with q|q|q|q|q|q|q
  ·exact absurd q hxp
  ·rw[q];exact fdr
  ·rw[q];exact flr
  ·rw[q];exact fld
  ·rw[q];exact fda
  ·rw[q];exact fls
  ·rw[q];exact flt
abbrev X7:Stmt:=Z0 (top 59) 1
theorem S9:#[an,X7]:=fnS
theorem Ra(F:#[k,"check_not_over","Season.check_not_over",X7])(T:#[n])(zny:Zp P w K mg base a.znw "at_hand" 2 ["self"] #[e,Vv]):FnOk P w K mg base #[i] 3 f fd ["self"] #[e,Lw]:=by
 refine #[o,S9];obtain⟨A',S,rfl,SA,h⟩:=h;refine⟨_,(Zf (Z3 (Zo Ti (Yi (pv 0) T.znx zny (hr.mono ⋯) Zj) #[af,Zr,0] (Zu _))
  (Zf (Xg Xf rfl T.ztv rfl (Za Zl Zd)))
  Zt)),?_⟩
 obtain⟨⟨dx,v,a1,a2⟩,b,c,_⟩:=id SA;refine⟨_,rfl,A'.p,dx,_,rfl,a1,Z6 ⋯,A',S,rfl,SA,_,rfl,A'.p,a.znw,dx,_,_,rfl,a1,T.znx,T.zrs,Dx,_,_,rfl,rfl,_,rfl,?_⟩;refine itD (fun hc=>?_) fun hc=>?_
 ·rw[#[l,(by unfold atV at hc;omega)]] at h;exact⟨sz1,h⟩
 ·rw[#[g,(by unfold atV at hc;omega)]] at h;exact h
abbrev We:Stmt:=Z0 (top 59) 2
theorem Rx:#[an,We]:=fnS
theorem Ry(F:#[k,"check_undrawn","Season.check_undrawn",We])(T:#[n])(zob:Zp P w K mg base a.znw "check_not_over" 3 ["self"] #[e,Lw]):FnOk P w K mg base #[i] 4 f fd ["self"] #[e,Ly]:=by
 refine #[o,Rx];obtain⟨A',S,rfl,SA,h⟩:=h;refine⟨_,(Zb (Z8 (Yi (pv 0) T.znx zob (hr.mono ⋯) Zj))
 (Zf (Z3 (Zo Uv (Zr (K:=K) rfl (pv 0) rfl) Y1 (Zu _))
  (Zf (Xg Xf rfl T.zt9 rfl (Za Zl Zd)))
  Zt))),?_⟩
 obtain⟨⟨dx,v,a1,a2⟩,b,c,_⟩:=id SA;refine⟨_,rfl,A'.p,dx,_,rfl,a1,Z6 ⋯,A',S,rfl,SA,?_⟩;refine it2 h (fun _ z=>z) fun hn h=>?_;refine⟨_,rfl,A'.p,a.znw,dx,_,_,rfl,a1,T.znx,T.zos,Wq,rfl,_,rfl,?_⟩;cases hc:S.cur with
 | none =>
   rw[hc] at a2 h;have a2:v=.non:=a2;rw[a2];exact iteF h
 | some s =>
   rw[hc] at a2 h;obtain⟨q,rfl,_⟩:=a2;exact iteT ⟨sz1,h⟩
abbrev Wv:Stmt:=Z0 (top 59) 3
theorem Q5:#[r,#[v,"at"],#[v,"at"],Wv]:=fnS
theorem Q6(F:#[k,"check_round","Season.check_round",Wv])(T:#[n]):FnOk P w K mg base #[i] 1 f fd #[v,"at"] #[e,Ij]:=by
 refine #[o,Q5];obtain⟨A',S,i,rfl,SA,si,h⟩:=h;refine⟨_,(Zf (Z3 (PW.pt (Rk (Zo Kr (pv 1) Zg (Zu _)) (V9 (Zo Ti (pv 1) #[af,Zr,0] (Zu _)))))
  (Zf (Xg Xf rfl T.ztk rfl (Za (Ve (Z4 (W3 (pv 1)) (Z4 (Xw ⋯) Vd)) ⋯) Zd)))
  Zt)),?_⟩
 obtain⟨⟨dx,v,a1,a2⟩,b,c,_⟩:=id SA;refine⟨_,rfl,_,_,rfl,rfl,_,rfl,?_⟩;refine itD (fun hc=>?_) fun hc=>?_
 ·rw[if_pos (.inl hc)] at h;refine iteT ?_;exact#[az,_,_,si,h]
 refine⟨_,rfl,_,rfl,A'.p,a.znw,dx,_,_,rfl,a1,T.znx,T.zrs,Dx,_,_,rfl,rfl,_,rfl,?_⟩;refine itD (fun hc2=>?_) fun hc2=>?_
 ·rw[if_pos (.inr hc2)] at h;exact#[az,_,_,si,h]
 ·rw[#[g,fun z=>z.elim hc hc2]] at h;exact h
abbrev W5:Stmt:=Z0 (top 59) 4
theorem Px:#[an,W5]:=fnS
theorem Py(F:#[k,"check_room","Season.check_room",W5])(T:#[n]):FnOk P w K mg base #[i] 1 f fd ["self"] #[e,C0]:=by
 refine #[o,Px];obtain⟨A',S,rfl,SA,h⟩:=h;refine⟨_,(Zf (Z3 (Zo zfr (Zq (cL K) (by rfl) T.zoi PySem.boot_len (Za (Zr (K:=K) rfl (pv 0) rfl) Zd)) (Wn rfl T.zqg) (Zu _))
  (Zf (Xg Xf rfl T.zte rfl (Za (Ve (Z4 (W3 (Wn rfl T.zqg)) (Z4 (Xw ⋯) Vd)) ⋯) Zd)))
  Zt)),?_⟩
 obtain⟨⟨dx,v,a1,a2⟩,b,c,d,f,⟨us,g1,g2⟩,nd,np⟩:=id SA;refine⟨_,rfl,A'.p,a.znw,dx,_,_,rfl,a1,T.znx,T.zpb,Si,A'.lt,_,rfl,#[L,g1],_,_,rfl,rfl,_,rfl,?_⟩;rw[g2.length];refine itD (fun hc=>?_) fun hc=>?_
 ·rw[if_pos ⋯] at h;exact⟨.inl ⟨_,rfl,Yl ⋯⟩,fun z=>⟨sz1,h⟩⟩
 ·rw[if_neg ⋯] at h;exact h
abbrev Rb:Stmt:=Z0 (top 59) 5
theorem G6:#[r,["self","word","number","at"],["self","word","number","at"],Rb]:=fnS
theorem G7(F:#[k,"note","Season.note",Rb])(T:#[n]):FnOk P w K mg base #[i] 1 f fd ["self","word","number","at"] #[e,C2]:=by
 refine #[o,G6];obtain⟨A',S,w',n,i,rfl,SA,hz,h⟩:=h;refine⟨_,Zf (Y5 #[af,Zr,0] (Yc (Za (Yc (Za (pv 1) (Za (pv 2) (Za (pv 3) Zd)))) (Za (Zr (K:=K) rfl (pv 0) rfl) Zd)))),?_⟩;obtain⟨⟨dx,v,a1,a2⟩,b,c,⟨kvs,d1,d2⟩,⟨vs,f1,f2⟩,⟨us,g1,g2⟩,nd,np⟩:=id SA;refine⟨_,rfl,A'.p,a.znw,dx,_,_,rfl,a1,T.znx,T.zpb,Si,A'.lt,us,rfl,g1,?_⟩;refine⟨_,rfl,_,rfl,_,rfl,sz3,fun t1 ht1=>?_⟩;have s1:=Ze (o:=.tup [.str w',.int n,.int i]) ht1;have q1:upd H t1 (.tup #[S,.str w',n,i]) t1=some (.tup (Qt (w',n,i))):=Zc;generalize upd H t1 (.tup [.str w',.int n,.int i])=H1 at s1 q1;refine⟨_,rfl,A'.p,a.znw,dx,_,_,rfl,s1 _ _ a1,T.znx,T.zos,Wq,sz2,fun t2 ht2=>?_⟩;have s2:=Ze (o:=.tup [.ref t1,v]) ht2;have q2:upd H1 t2 (.tup [.ref t1,v]) t2=#[c,.tup,[.ref t1,v]]:=Zc;have q12:=s2 _ _ q1;have s12:=s1.trans s2;generalize upd H1 t2 (.tup [.ref t1,v])=H2 at s2 q2 q12 s12;refine⟨us,s12 _ _ g1,by have:=g2.length;have:=Tr;omega,?_⟩;have fr:FrS A' H (upd H2 A'.lt (.lst (us++[.ref t2]))):=fun b o e hb=>by
  rw[Zi #[au,hb]];exact s12 _ _ e
 have kt:=SA.tups fr;have kp:∀ x o,x≠A'.lt->H x=#[d]->upd H2 A'.lt (.lst (us++[.ref t2])) x=#[d]:=fun x o hx e=>by rw[Zi hx];exact s12 _ _ e
 have kt2:∀ t xs,H2 t=#[A,xs]->upd H2 A'.lt (.lst (us++[.ref t2])) t=#[A,xs]:=fun t xs e=>by
  rw[Zi (Yz e (s12 _ _ g1) (fun z=>nomatch z))];exact e
 have ko:∀ x o,x∉A'.fp->H x=#[d]->upd H2 A'.lt (.lst (us++[.ref t2])) x=#[d]:=fun x o hx e=>fr x o e hx;have nd':=nd;simp only[SAd.fp,zxh,zwu,zxm,or_false,not_or] at nd';obtain⟨⟨n1,n2,n3,n4,n5,n6⟩,⟨n7,n8,n9,n10,n11⟩,⟨n12,n13,n14,n15⟩,⟨n16,n17,n18⟩,⟨n19,n20⟩,n21,_⟩:=nd';have npt:A'.pr≠A'.lt/\A'.pl≠A'.lt:=⟨#[au,np.1],#[au,np.2]⟩;refine h _ ⟨⟨dx,v,kp _ _ n6 a1,a2.keep ko kt⟩,b.keep (fun o e=>kp _ o npt.1 e) (fun o e=>kp _ o n11 e) kt,c.keep (fun o e=>kp _ o npt.2 e) (fun o e=>kp _ o n15 e) (fun o e=>kp _ o n18 e) kt,⟨kvs,kp _ _ n20 d1,d2⟩,⟨vs,kp _ _ n21 f1,f2.keep ko kt⟩,⟨us++[.ref t2],Zc,?_⟩,nd,np⟩ fr;exact(g2.keep ko kt).snoc (kt2 _ _ q2) (kt2 _ _ q12) (a2.keep ko kt)
abbrev Wf:Stmt:=Z0 (top 59) 6
theorem Rz:#[an,Wf]:=fnS
theorem R0(F:#[k,"sheet_at_hand","Season.sheet_at_hand",Wf])(T:#[n]):FnOk P w K mg base #[i] 1 f fd ["self"] #[e,Tt]:=by
 refine #[o,Rz];obtain⟨A',S,rfl,SA,h1,h2⟩:=h;refine⟨_,(Zb (Z3 (Zo Pa #[af,Zr,0] Y1 (Zu _))
  (Zf (Xg Xf rfl T.zs7 rfl (Za Zl Zd)))
  Zt)
 (Zf (Zn (Zr (K:=K) rfl (pv 0) rfl)))),?_⟩
 obtain⟨⟨dx,v,a1,a2⟩,b,c,_⟩:=id SA;refine⟨_,rfl,A'.p,a.znw,dx,_,_,rfl,a1,T.znx,T.zos,Wq,rfl,_,rfl,?_⟩;cases hc:S.cur with
 | none =>
   rw[hc] at a2;have a2:v=.non:=a2;rw[a2];exact iteT ⟨sz1,h1 hc⟩
 | some s =>
   rw[hc] at a2;obtain⟨q,rfl,hs⟩:=a2;refine iteF ?_;exact⟨_,rfl,A'.p,a.znw,dx,_,_,rfl,a1,T.znx,T.zos,Wq,h2 s q hc hs⟩
abbrev V1:Stmt:=Z0 (top 59) 7
theorem Nz:#[r,#[v,"at"],#[v,"at"],V1]:=fnS
theorem N1(F:#[k,"sheet_of","Season.sheet_of",V1])(T:#[n])(zn7:Zp P w K mg base a.znw "check_round" 1 #[v,"at"] #[e,Ij])(zn8:Zp P w K mg base a.zn1 "over" 1 ["self"] (Lp a.zn1))(zny:Zp P w K mg base a.znw "at_hand" 2 ["self"] #[e,Vv])(zn2:Zp P w K mg base a.znw "sheet_at_hand" 1 ["self"] #[e,Tt]):FnOk P w K mg base #[i] 3 f fd #[v,"at"] #[e,Ug]:=by
 refine #[o,Nz];obtain⟨A',S,i,rfl,SA,si,hol,h⟩:=h;refine⟨_,(Zb (Z8 (Yg (pv 0) T.znx zn7 (hr.mono ⋯) Zj (Za (pv 1) Zd)))
 (Zb (Z3 (Zo zfq (pv 1) (Yi (Zr (K:=K) rfl (pv 0) rfl) T.zox zn8 (hr.mono ⋯) Zj) (Zu _))
  (Zf (Zn (pI (iL K) (Zr (K:=K) rfl (pv 0) rfl) (Zs Q9 (pv 1) Zg))))
  Zt)
 (Zb (Z3 (Zo Ti (pv 1) (Yi (pv 0) T.znx zny (hr.mono ⋯) Zj) (Zu _))
  (Zf (Xg Xf rfl T.zs7 rfl (Za (Ve (Z4 (Xw ⋯) (Z4 (W3 (pv 1)) (Z4 (Xw ⋯) Vd))) ⋯) Zd)))
  Zt)
 (Zf (Zn (Yi (pv 0) T.znx zn2 (hr.mono ⋯) Zj)))))),?_⟩
 obtain⟨⟨dx,v,a1,a2⟩,b,c,d,⟨vs,f1,f2⟩,_⟩:=id SA;obtain⟨⟨dxl,hpl⟩,_⟩:=id c;refine⟨_,rfl,A'.p,dx,_,rfl,a1,Z6 ⋯,_,rfl,A',S,i,rfl,SA,si,?_⟩;refine it2 h (fun _ z=>z) fun hn h=>?_;refine⟨_,rfl,_,rfl,A'.p,a.znw,dx,_,_,rfl,a1,T.znx,T.zpj,Ue,A'.pl,dxl,_,rfl,hpl,Hi ⋯ ⋯,A'.pl,A'.lr,A'.ld,S.led,rfl,c,_,_,rfl,rfl,_,rfl,?_⟩;refine itD (fun hc=>?_) fun hc=>?_
 ·have hk:(i-1).toNat<S.old.length:=by omega
  have hs:Y7 S i=some (S.old[(i-1).toNat]'hk):=by unfold Y7;rw[#[l,hc]];exact zws hk
  obtain⟨q,e1,e2⟩:=f2.getR (zws hk);exact⟨_,rfl,A'.p,a.znw,dx,_,_,rfl,a1,T.znx,T.zrq,Dy,_,rfl,_,_,rfl,rfl,A'.ls,_,_,_,rfl,rfl,SqL.of f1,(show atI vs (i-1)=some (.ref q) by rw[show i-1=(((i-1).toNat:Nat):Int) by omega];exact Zz e1),h.2 _ q hs e2⟩
 ·refine Zy ?_;refine⟨_,rfl,_,rfl,A'.p,dx,_,rfl,a1,Z6 ⋯,A',S,rfl,SA,_,_,rfl,rfl,_,rfl,?_⟩;refine itD (fun hc2=>?_) fun hc2=>?_
  ·exact#[az,_,_,si,h.1 (by unfold Y7;rw[#[g,hc],#[l,(by unfold atV at hc2;omega)]])]
  ·have hs:Y7 S i=S.cur:=by unfold Y7;rw[#[g,hc],#[g,(by unfold atV at hc2;omega)]]
   exact⟨_,rfl,A'.p,dx,_,rfl,a1,Z6 ⋯,A',S,rfl,SA,fun hz=>h.1 (by rw[hs];exact hz),fun s q hz hq=>h.2 s q (by rw[hs];exact hz) hq⟩
abbrev Vl:Stmt:=Z0 (top 59) 8
theorem X2:#[r,["self","listed","people","at","out"],#[v,"listed"],Vl]:=fnS
theorem Ox(F:#[k,"takers_of","Season.takers_of",Vl])(T:#[n])(zoo:Zp P w K mg base a.zn3 "numbers" 1 ["self"] #[e,Nf])(zoy:Zp P w K mg base a.zn3 "person" 3 #[Z] #[e,Hq])(zny:Zp P w K mg base a.znw "at_hand" 2 ["self"] #[e,Vv])(zs1:Ya P w K mg base "takers" 4 ["people","match","out","ledger","rest"] (Ah K a.zn1)):FnOk P w K mg base #[i] 5 f fd #[v,"listed"] #[e,Ni]:=by
 refine #[o,X2];obtain⟨A',S,l,ts,ms,rfl,SA,hl,tl,hml,hpl,hsm,h⟩:=h;have hu:=X8 hr;refine⟨_,(Zb (pS 2 X2.nd (Vb rfl (cT ["self"] [0]) (Yh (K:=K) rfl (Yi #[af,Zr,0] T.zoc zoo (hr.mono ⋯) Zj)) (fun _ _ _ _ _=>Vc) fun _ _ _ _ _=>(Yg #[af,Zr,1] T.zoc zoy (hr.mono ⋯) zcz (Za (pv 0) Zd))))
 (Zb (pS 3 X2.nd (Yi (pv 0) T.znx zny (hr.mono ⋯) Zj))
 (Zb (pS 4 X2.nd (Vb rfl (cT ["at","self"] [3,0]) (Yh (K:=K) rfl (Yi (Zr (K:=K) rfl (pv 0) rfl) T.zoc zoo (hr.mono ⋯) Zj)) (fun _ _ _ _ _=>R8 (R4 (O7 hu (Yc (Za (pv 1) (Za (pv 0) Zd))) #[af,Zr,2]))) (fun _ _ _ _ _=>(pv 0))))
 (Zf (Zn (Vb rfl (cT ["people","out","self"] [2,4,0]) (Yh (K:=K) rfl (pv 1)) (fun _ _ _ _ _=>Vc) (fun _ _ _ _ _=>(Dg zs1 (hr.mono ⋯) zcz rfl (Za (pv 1) (Za (pv 0) (Za (pv 2) (Za #[af,Zr,3] (Za #[af,Zr,3] Zd))))))))))))),?_⟩
 obtain⟨⟨dx,v,a1,a2⟩,b,c,⟨kvs,d1,d2⟩,_⟩:=id SA;obtain⟨⟨dxr,kvr,hpr,hdr,en⟩,ndr⟩:=id b;refine⟨_,rfl,A'.p,a.znw,dx,_,_,rfl,a1,T.znx,T.zow,Xq,A'.pr,dxr,_,rfl,hpr,Y8.no ⋯,A'.pr,A'.dr,S.ppl,rfl,b,fun ln hln=>?_⟩;have s1:=Ze (o:=.lst (S.ppl.map fun x=>V.int x.1)) hln;have q1:upd H ln (.lst (S.ppl.map fun x=>V.int x.1)) ln=some (.lst (S.ppl.map fun x=>V.int x.1)):=Zc;generalize upd H ln (.lst (S.ppl.map fun x=>V.int x.1))=H1 at s1 q1;have hnl:(S.ppl.map fun x=>V.int x.1).length=S.ppl.length:=by rw[zwq]
 refine⟨ln,rfl,⟨_,SqL.of q1⟩,Xp (K:=K) (xs:=S.ppl.map fun x=>V.int x.1) (fun i ys H'=>#[q]/\Same H1 H'/\Yf H' ys ((S.ppl.take i).map pV)/\ys.length=i) ⟨s1,Same.refl _,.nil,rfl⟩ (fun i ys H' _ ⟨_,z,_⟩=>SqL.of (z _ _ q1)) (szN ⋯) (fun i ys H' ⟨_,_,_,e⟩=>by omega) ?_ ?_⟩
 ·rintro i x ys H' hx ⟨sh,s1',tl',hyl⟩;have hi:i<S.ppl.length:=by have:=(zwr.mp hx).1;omega
  have hpi:S.ppl[i]?=some (S.ppl[i]'hi):=zws hi;have etk:S.ppl.take (i+1)=S.ppl.take i++[S.ppl[i]'hi]:=zxe hi;have hmem:S.ppl[i]'hi∈S.ppl:=zxp hi;have ex:x=.int (S.ppl[i]'hi).1:=by rw[zwx,hpi] at hx;exact(Option.some.inj hx).symm
  generalize (S.ppl[i]'hi)=pp at hpi etk hmem ex;subst ex;unfold tYes;dsimp only;rw[#[l,rfl]];refine⟨_,rfl,A'.p,a.znw,dx,_,_,rfl,sh _ _ a1,T.znx,T.zow,Xq,A'.pr,dxr,_,rfl,sh _ _ hpr,Y8.no ⋯,_,rfl,A'.pr,A'.dr,S.ppl,pp.1,rfl,b.same sh,hsm pp hmem,fun z=>absurd (zw0.mpr ⟨pp,hmem,rfl⟩) z,fun g c' t H2 hm ht s2 _=>?_⟩;have epp:=ziw b.nd hm hmem rfl;rw[epp] at ht;refine⟨sh.trans s2,s1'.trans s2,?_,by rw[zwt,hyl];rfl⟩;rw[etk,zww];exact(tl'.same s2).snoc ht
 rintro ys H2 ⟨sh2,s12,tl2,hyl⟩ lp hlp;rw[hnl,zw9] at tl2;have s3:=sh2.trans (Ze (o:=.lst ys) hlp);have q3:upd H2 lp (.lst ys) lp=#[c,.lst,ys]:=Zc;have tl3:=tl2.same (Ze (o:=.lst ys) hlp);generalize upd H2 lp (.lst ys)=H3 at s3 q3 tl3;have SA3:=SA.same s3;refine⟨_,rfl,A'.p,dx,_,rfl,s3 _ _ a1,Z6 ⋯,A',S,rfl,SA3,?_⟩;refine⟨_,rfl,A'.p,a.znw,dx,_,_,rfl,s3 _ _ a1,T.znx,T.zow,Xq,A'.pr,dxr,_,rfl,s3 _ _ hpr,Y8.no ⋯,A'.pr,A'.dr,S.ppl,rfl,b.same s3,fun ln4 hln4=>?_⟩;have s4:=Ze (o:=.lst (S.ppl.map fun x=>V.int x.1)) hln4;have q4:upd H3 ln4 (.lst (S.ppl.map fun x=>V.int x.1)) ln4=some (.lst (S.ppl.map fun x=>V.int x.1)):=Zc;generalize upd H3 ln4 (.lst (S.ppl.map fun x=>V.int x.1))=H4 at s4 q4;refine⟨ln4,rfl,⟨_,SqL.of q4⟩,Xp (K:=K) (xs:=S.ppl.map fun x=>V.int x.1) (fun i ys H'=>Same H4 H'/\ys=((S.ppl.take i).filter (pIn S.out (atV S))).map fun x=>V.int x.1) #[C,Same.refl _] (fun i ys H' _ ⟨z,_⟩=>SqL.of (z _ _ q4)) (szN ⋯) (fun i ys H' ⟨_,e⟩=>by rw[e,zwq];exact zw6 (zxo _ _) (zx5 _ _)) ?_ ?_⟩
 ·rintro i x zs H' hx ⟨s4',rfl⟩;have hi:i<S.ppl.length:=by have:=(zwr.mp hx).1;omega
  have hpi:S.ppl[i]?=some (S.ppl[i]'hi):=zws hi;have etk:S.ppl.take (i+1)=S.ppl.take i++[S.ppl[i]'hi]:=zxe hi;have ex:x=.int (S.ppl[i]'hi).1:=by rw[zwx,hpi] at hx;exact(Option.some.inj hx).symm
  generalize (S.ppl[i]'hi)=pp at hpi etk ex;subst ex;refine⟨_,rfl,_,rfl,sz2,fun t ht=>?_⟩;have s5:=Ze (o:=.tup [.int (atV S),.int pp.1]) ht;have q5:upd H' t (.tup [.int (atV S),.int pp.1]) t=some (.tup (([inl (atV S),inl pp.1]:List Key).map kV)):=Zc;generalize upd H' t (.tup [.int (atV S),.int pp.1])=H5 at s5 q5;have sh5:=s3.trans (s4.trans (s4'.trans s5));refine⟨_,rfl,A'.p,a.znw,dx,_,_,rfl,sh5 _ _ a1,T.znx,T.zqb,Rv,A'.da,_,rfl,DGet.t (k:=[inl (atV S),inl pp.1]) (sh5 _ _ d1) q5,_,rfl,?_⟩;rw[d2.isSome];have e2:∀ ws,((S.ppl.take (i+1)).filter (pIn S.out (atV S))).map (fun x=>V.int x.1)=((S.ppl.take i).filter (pIn S.out (atV S))).map (fun x=>V.int x.1)++ws↔ws=if pIn S.out (atV S) pp then [V.int pp.1] else []:=fun ws=>by
   rw[etk,zyd,zww,List.append_cancel_left_eq];cases q:pIn S.out (atV S) pp<;>simp[q,eq_comm]
  refine itB (fun hb=>?_) fun hb=>?_
  ·exact⟨_,rfl,s4'.trans s5,((e2 [V.int pp.1]).mpr (by rw[show pIn S.out (atV S) pp=true from hb];rfl)).symm⟩
  ·refine⟨s4'.trans s5,?_⟩;have:=(e2 []).mpr (by rw[show pIn S.out (atV S) pp=false from hb];rfl);rw[zy0] at this;exact this.symm
 rintro zs H5 ⟨s45,rfl⟩ lo hlo;rw[hnl,zw9];have s6:=s45.trans (Ze (o:=.lst (outV S)) hlo);have q6:upd H5 lo (.lst (outV S)) lo=some (.lst (outV S)):=Zc;show X3 4 (V.ref lo) _ (upd H5 lo (.lst (outV S))) _;generalize upd H5 lo (.lst (outV S))=H6 at s6 q6;have s36:=s4.trans s6;have s06:=s3.trans s36;have hl6:=s06 _ _ hl;have hts:ts.length=ms.length:=by rw[tl.length,zwq]
 refine⟨_,rfl,l,rfl,⟨_,SqL.of hl6⟩,Xp (K:=K) (xs:=ts) (fun i ys H'=>Same H6 H'/\∃ ls,ys=ls.map V.ref/\ILs H' ls ((mayS S ms).take i)/\ls.length=i/\∀ x∈ls,H x=none) ⟨Same.refl _,[],rfl,.nil,rfl,by simp⟩ (fun i ys H' _ ⟨z,_⟩=>SqL.of (z _ _ hl6)) (szN ⋯) (fun i ys H' ⟨_,ls,e1,_,e2,_⟩=>by rw[e1,zwq];omega) ?_ ?_⟩
 ·rintro i x ys' H' hx ⟨s6',ls,rfl,il,hll,hfr⟩;obtain⟨tm,m,rfl,hm,htm⟩:=Jg tl hx;have s0:=s06.trans s6';unfold tYes;dsimp only;rw[#[l,rfl]];refine⟨_,rfl,_,rfl,_,rfl,_,rfl,A'.p,a.znw,dx,_,_,rfl,s0 _ _ a1,T.znx,T.zpj,Ue,_,rfl,A'.p,a.znw,dx,_,_,rfl,s0 _ _ a1,T.znx,T.ztb,zdj,lp,lo,tm,A'.pl,A'.lr,A'.ld,S.led,ys,S.ppl,outV S,m.1,m.2.1,m.2.2,S.rest,rfl,(s36.trans s6') _ _ q3,tl3.same (s36.trans s6'),s6' _ _ q6,zg7 S,s0 _ _ htm,c.same s0,by omega,fun l2 H2 hl2 s2 f2=>?_⟩;rw[zk2] at hl2;refine⟨s6'.trans s2,ls++[l2],by rw[zww];rfl,?_,by rw[zwt,hll];rfl,fun y hy=>?_⟩
  ·have e:(mayS S ms).take (i+1)=(mayS S ms).take i++[F5 S m]:=by
    unfold mayS;rw[zx9,zwx,hm];rfl
   rw[e];exact(il.same s2).snoc hl2
  ·rcases zw2.mp hy with z|z
   ·exact hfr y z
   ·rw[zwv.mp z];exact s0.free f2
 ·rintro ys' H' ⟨s6',ls,rfl,il,hll,hfr⟩ l' hl';have hmy:(mayS S ms).length=ms.length:=by unfold mayS;rw[zwq]
  rw[hts,<- hmy,zw9] at il;have s0:=s06.trans s6';exact h l' ls _ Zc (il.same (Ze hl')) (s0.trans (Ze hl')) (s0.free hl') hfr
abbrev T9:Stmt:=Z0 (top 59) 9
theorem Jv:#[r,#[ar],#[ar],T9]:=fnS
theorem Jw(F:#[k,"enrol","Season.enrol",T9])(T:#[n])(zoe:Zp P w K mg base a.znw "check_undrawn" 4 ["self"] #[e,Ly])(zom:Zp P w K mg base a.zn3 "check_new" 2 #[ar] #[e,Nd])(zn9:Zp P w K mg base a.znw "check_room" 1 ["self"] #[e,C0])(zop:Zp P w K mg base a.znw "note" 1 ["self","word","number","at"] #[e,C2])(zny:Zp P w K mg base a.znw "at_hand" 2 ["self"] #[e,Vv])(zrg:Zp P w K mg base a.zn3 "add" 3 #[ar] #[e,zg6]):FnOk P w K mg base #[i] 5 f fd #[ar] #[e,zdl]:=by
 refine #[o,Jv];obtain⟨A',S,n,g,c0,rfl,SA,sm,hz,hz2,h⟩:=h;refine⟨_,(Zb (Z8 (Yi (pv 0) T.znx zoe (hr.mono ⋯) Zj))
 (Zb (Z8 (Yg (Zr (K:=K) rfl (pv 0) rfl) T.zoc zom (hr.mono ⋯) Zj (Za (pv 1) (Za (pv 2) (Za (pv 3) Zd)))))
 (Zb (Z8 (Yi (pv 0) T.znx zn9 (hr.mono ⋯) Zj))
 (Zb (Z8 (Yg (pv 0) T.znx zop (hr.mono ⋯) Zj (Za Zl (Za (pv 1) (Za (Yi (pv 0) T.znx zny (hr.mono ⋯) Zj) Zd)))))
 (Zf (Z8 (Yg (Zr (K:=K) rfl (pv 0) rfl) T.zoc zrg (hr.mono ⋯) Zj (Za (pv 1) (Za (pv 2) (Za (pv 3) Zd)))))))))),?_⟩
 obtain⟨⟨dx,v,a1,a2⟩,b,c,_⟩:=id SA;obtain⟨⟨dxr,kvr,hpr,hdr,en⟩,ndr⟩:=id b;refine⟨_,rfl,A'.p,dx,_,rfl,a1,Z6 ⋯,A',S,rfl,SA,?_⟩;refine it2 h (fun _ z=>z) fun h1 h=>it2 h (fun _ z=>z) fun h2 h=>?_;refine⟨_,rfl,A'.p,a.znw,dx,_,_,rfl,a1,T.znx,T.zow,Xq,A'.pr,dxr,_,rfl,hpr,Y8.no ⋯,_,rfl,_,rfl,_,rfl,A'.pr,A'.dr,S.ppl,n,g,c0,rfl,b,sm,?_⟩;refine it2 h (fun _ z=>z) fun h3 h=>it2 h (fun _ z=>z) fun h4 h=>it2 h (fun _ z=>z) fun h5 h=>?_;refine⟨_,rfl,A'.p,dx,_,rfl,a1,Z6 ⋯,A',S,rfl,SA,?_⟩;refine it2 h (fun _ z=>z) fun h6 h=>?_;refine⟨_,rfl,A'.p,dx,_,rfl,a1,Z6 ⋯,_,rfl,_,rfl,A'.p,dx,_,rfl,a1,Z6 ⋯,A',S,rfl,SA,A',S,"enrol",n,atV S,rfl,SA,hz,fun H1 SA1 f1=>?_⟩;obtain⟨⟨dx1,v1,a11,a12⟩,b1,c1,_⟩:=id SA1;obtain⟨⟨dxr1,kvr1,hpr1,hdr1,en1⟩,ndr1⟩:=id b1;refine⟨_,rfl,A'.p,a.znw,dx1,_,_,rfl,a11,T.znx,T.zow,Xq,A'.pr,dxr1,_,rfl,hpr1,Y8.no ⋯,_,rfl,_,rfl,_,rfl,A'.pr,A'.dr,S.ppl,n,g,c0,rfl,b1,sm,hz2,?_⟩;rw[#[g,h3],#[g,h4],#[g,h5]];intro H2 R2 k2;obtain⟨SA2,f2⟩:=SA1.setRos R2 k2;exact h H2 SA2 (f1.trans f2)
abbrev Um:Stmt:=Z0 (top 59) 10
theorem Sn:#[r,["self","matches","listed"],#[v,"matches"],Um]:=fnS
theorem Mw(F:#[k,"draw_up","Season.draw_up",Um])(T:#[n])(zoe:Zp P w K mg base a.znw "check_undrawn" 4 ["self"] #[e,Ly])(zsp:Ya P w K mg base "checked" 3 ["matches"] (Hu K (ca a)))(zn9:Zp P w K mg base a.znw "check_room" 1 ["self"] #[e,C0])(zop:Zp P w K mg base a.znw "note" 1 ["self","word","number","at"] #[e,C2])(zny:Zp P w K mg base a.znw "at_hand" 2 ["self"] #[e,Vv])(zq4:Ya P w K mg base "drawn_sheet" 4 ["listed","lists"] #[e,zdg])(zon:Zp P w K mg base a.znw "takers_of" 5 #[v,"listed"] #[e,Ni])(zpd:Zp P w K mg base a.znz "goes" 1 ["self"] #[e,Hr]):FnOk P w K mg base #[i] 6 f fd #[v,"matches"] (A7 K (ca a)):=by
 refine #[o,Sn];obtain⟨A',S,b,ts,ms,rfl,SA,hs,tl,sm,hml,hz,po,h⟩:=h;refine⟨_,(Zb (Z8 (Yi (pv 0) T.znx zoe (hr.mono ⋯) Zj))
 (Zb (pS 2 Sn.nd (pF zsp hr (Za (pv 1) Zd)))
 (Zb (Z8 (Yi (pv 0) T.znx zn9 (hr.mono ⋯) Zj))
 (Zb (Z8 (Yg (pv 0) T.znx zop (hr.mono ⋯) Zj (Za Zl (Za (Zq (cL K) (by rfl) T.zoi PySem.boot_len (Za (pv 2) Zd)) (Za (Yi (pv 0) T.znx zny (hr.mono ⋯) Zj) Zd)))))
 (Zb (Y9 (K:=K) rfl (pv 0) (pF zq4 hr (Za (pv 2) (Za (Yg (pv 0) T.znx zon (hr.mono ⋯) Zj (Za (pv 2) Zd)) Zd))) rfl)
 (Zf (Zn (Yi (Zr (K:=K) rfl (pv 0) rfl) T.zn6 zpd (hr.mono ⋯) Zj)))))))),?_⟩
 obtain⟨⟨dx,v,a1,a2⟩,br,cl,_⟩:=id SA;have hts:ts.length=ms.length:=by rw[tl.length,zwq]
 refine⟨_,rfl,A'.p,dx,_,rfl,a1,Z6 ⋯,A',S,rfl,SA,?_⟩;refine it2 h (fun _ z=>z) fun h1 h=>it2 h (fun _ z=>z) fun h2 h=>?_;refine⟨_,rfl,b,ts,ms,rfl,hs,tl,sm,hml,h.1,h.2.1,h.2.2.1,fun g1 g2 g3 l1 hl1=>?_⟩;have h4:=h.2.2.2 g1 g2 g3;have s1:=Ze (o:=.lst ts) hl1;have q1:upd H l1 (.lst ts) l1=#[c,.lst,ts]:=Zc;generalize upd H l1 (.lst ts)=H1 at s1 q1;have SA1:=SA.same s1;have a11:=s1 _ _ a1;refine⟨_,rfl,A'.p,dx,_,rfl,a11,Z6 ⋯,A',S,rfl,SA1,?_⟩;refine Fs (fun z=>h4.1 z H1 s1) fun hroom=>?_;refine⟨_,rfl,A'.p,dx,_,rfl,a11,Z6 ⋯,_,rfl,l1,_,rfl,#[L,q1],_,rfl,A'.p,dx,_,rfl,a11,Z6 ⋯,A',S,rfl,SA1,A',S,"draw up",(ts.length:Nat),atV S,rfl,SA1,hz,fun H2 SA2 f2=>?_⟩;rw[hts] at SA2;have ok1:l1∉A'.fp:=SA.newOk l1 hl1;have q12:=f2 _ _ q1 ok1;have tl2:=(tl.same s1).mono (SA1.tups f2);obtain⟨⟨dx2,v2,a21,a22⟩,br2,_⟩:=id SA2;refine⟨_,rfl,_,rfl,A'.p,dx2,_,rfl,a21,Z6 ⋯,_,rfl,A',_,l1,ts,ms,rfl,SA2,q12,tl2,by omega,zw6 po.2 ⋯,po.small,fun l2 ls H3 h3 il3 s3 f3 fl3=>?_⟩;have SA3:=SA2.same s3;have mo:Pj (mayS S ms) (S.ppl.map (·.1)):=po.may br2.nd g1;refine⟨(·∉A'.fp),l1,l2,ts,ls,ms,mayS S ms,_,rfl,s3 _ _ q12,tl2.same s3,h3,il3,ok1,SA2.newOk l2 f3,fun x hx=>SA2.newOk x (fl3 x hx),SA3.newOk,mo,fun q gv H4 ShA FP SP s4 fq=>?_⟩;have SA4:=SA3.same s4;obtain⟨⟨dx4,v4,a41,a42⟩,_⟩:=id SA4;refine⟨_,rfl,A'.p,a.znw,dx4,_,rfl,a41,T.znx,T.zos,(by show 8<1000;decide),?_⟩;obtain⟨SA5,f5,Sh5⟩:=SA4.newSheet a41 ShA;generalize upd H4 A'.p (.ins a.znw dx4 (putF "sheet" (.ref q) (seaF A' S.len S.rest v4)))=H5 at SA5 f5 Sh5;obtain⟨⟨dx5,v5,a51,a52⟩,_⟩:=id SA5;obtain⟨q',rfl,Sq⟩:=a52;obtain⟨dxq,m1,m2,m3,m4,hq'⟩:=ShAt.ins Sq;refine⟨_,rfl,A'.p,a.znw,dx5,_,_,rfl,a51,T.znx,T.zos,Wq,q',dxq,_,rfl,hq',Wm ⋯ ⋯ ⋯ ⋯,(·∉A'.fp),q',_,rfl,Sq,fun l H6 hl s6 fl=>?_⟩;have fr5:FrS A' H H5:=(FrS.of A' s1).trans (f2.trans ((FrS.of A' (s3.trans s4)).trans f5));exact h4.2 ⋯ l gv H6 hl (SA5.same s6) FP SP (fr5.trans (FrS.of A' s6)) (fr5.free SA5 fl)
abbrev Rc:Stmt:=Z0 (top 59) 11
theorem G8:#[r,["self","at","number"],["self","at","number"],Rc]:=fnS
theorem G9(F:#[k,"away","Season.away",Rc])(T:#[n])(zn7:Zp P w K mg base a.znw "check_round" 1 #[v,"at"] #[e,Ij])(zn8:Zp P w K mg base a.zn1 "over" 1 ["self"] (Lp a.zn1))(zn4:Zp P w K mg base a.zn3 "check_known" 1 #[Z] #[e,Vu])(zn9:Zp P w K mg base a.znw "check_room" 1 ["self"] #[e,C0])(zop:Zp P w K mg base a.znw "note" 1 ["self","word","number","at"] #[e,C2])(zny:Zp P w K mg base a.znw "at_hand" 2 ["self"] #[e,Vv])(zp6:Zp P w K mg base a.znw "step_in" 6 #[Z] #[e,A8]):FnOk P w K mg base #[i] 7 f fd ["self","at","number"] #[e,zha]:=by
 refine #[o,G8];obtain⟨A',S,i,n,rfl,SA,si,sn,hz,hoz,po,hcur,h⟩:=h;have hu:=X8 hr;refine⟨_,(Zb (Z8 (Yg (pv 0) T.znx zn7 (hr.mono ⋯) Zj (Za (pv 1) Zd)))
 (Zb (Z3 (Zo zfq (pv 1) (Yi (Zr (K:=K) rfl (pv 0) rfl) T.zox zn8 (hr.mono ⋯) Zj) (Zu _))
  (Zf (Xg Xf rfl T.zt2 rfl (Za (Ve (Z4 (Xw ⋯) (Z4 (W3 (pv 1)) (Z4 (Xw ⋯) Vd))) ⋯) Zd)))
  Zt)
 (Zb (Z8 (Yg (Zr (K:=K) rfl (pv 0) rfl) T.zoc zn4 (hr.mono ⋯) Zj (Za (pv 2) Zd)))
 (Zb (Z3 (R4 (O7 hu (Yc (Za (pv 1) (Za (pv 2) Zd))) (Zr (K:=K) rfl (pv 0) rfl)))
  (Zf (Xg Xf rfl T.ztj rfl (Za (Ve (Z4 (Xw ⋯) (Z4 (W3 (pv 2)) (Z4 (Xw ⋯) (Z4 (W3 (pv 1)) (Z4 (Xw ⋯) Vd))))) ⋯) Zd)))
  Zt)
 (Zb (Z8 (Yi (pv 0) T.znx zn9 (hr.mono ⋯) Zj))
 (Zb (Z8 (Yg (pv 0) T.znx zop (hr.mono ⋯) Zj (Za Zl (Za (pv 2) (Za (pv 1) Zd)))))
 (Zb (Y2 hu (Zr (K:=K) rfl (pv 0) rfl) (Yc (Za (pv 1) (Za (pv 2) Zd))) Rj rfl)
 (Zb (Z3 (PW.pt (Rk (Zo Ti (pv 1) (Yi (pv 0) T.znx zny (hr.mono ⋯) Zj) (Zu _)) (V9 (Zo Pa (Zr (K:=K) rfl (pv 0) rfl) Y1 (Zu _)))))
  (Zf (Zn (Z1 Zd)))
  Zt)
 (Zf (Zn (Yg (pv 0) T.znx zp6 (hr.mono ⋯) Zj (Za (pv 2) Zd)))))))))))),?_⟩
 show let y1:TS:=_;let y2:TS:=Zx _ y1;let y3:TS:=Zx _ y2;let y4:TS:=Zx _ y3;let y5:TS:=Zx _ y4;let y6:TS:=Zx _ y5;let y7:TS:=Zx _ y6;let y8:TS:=Zx _ y7;Zx _ y8 _ _ _;intro y1 y2 y3 y4 y5 y6 y7 y8;obtain⟨⟨dx,v,a1,a2⟩,br,cl,⟨kvs,d1,d2⟩,_⟩:=id SA;obtain⟨⟨dxl,hpl⟩,_⟩:=id cl;obtain⟨⟨dxr,kvr,hpr,hdr,en⟩,ndr⟩:=id br;refine⟨_,rfl,A'.p,dx,_,rfl,a1,Z6 ⋯,_,rfl,A',S,i,rfl,SA,si,?_⟩;refine it2 h (fun _ z=>z) fun h1 h=>?_;refine⟨_,rfl,_,rfl,A'.p,a.znw,dx,_,_,rfl,a1,T.znx,T.zpj,Ue,A'.pl,dxl,_,rfl,hpl,Hi ⋯ ⋯,A'.pl,A'.lr,A'.ld,S.led,rfl,cl,_,_,rfl,rfl,_,rfl,?_⟩;refine itD (fun hc=>?_) fun hc=>?_
 ·rw[#[l,hc]] at h;exact#[az,_,_,si,h]
 rw[#[g,hc]] at h;refine Zy ?_;refine⟨_,rfl,A'.p,a.znw,dx,_,_,rfl,a1,T.znx,T.zow,Xq,A'.pr,dxr,_,rfl,hpr,Y8.no ⋯,_,rfl,A'.pr,A'.dr,S.ppl,n,rfl,br,sn,?_⟩;refine it2 h (fun hk h=>?_) fun _ z=>z;refine⟨_,rfl,_,rfl,sz2,fun t ht=>?_⟩;have s1:=Ze (o:=.tup [.int i,.int n]) ht;have q1:upd H t (.tup #[Q,i,n]) t=some (.tup (([inl i,inl n]:List Key).map kV)):=Zc;generalize upd H t (.tup [.int i,.int n])=H1 at s1 q1;have SA1:=SA.same s1;have a11:=s1 _ _ a1;refine⟨_,rfl,A'.p,a.znw,dx,_,_,rfl,a11,T.znx,T.zqb,Rv,A'.da,_,rfl,DGet.t (k:=[inl i,inl n]) (s1 _ _ d1) q1,_,rfl,?_⟩;rw[d2.isSome];refine itD (fun hm=>?_) fun hm=>?_
 ·rw[#[l,hm]] at h;exact#[ac,_,.inl ⟨_,rfl,sn⟩,_,.inl ⟨_,rfl,si⟩,fun z=>⟨sz1,h H1 s1⟩]
 rw[#[g,hm]] at h;refine Zy ?_;refine⟨_,rfl,A'.p,dx,_,rfl,a11,Z6 ⋯,A',S,rfl,SA1,?_⟩;refine it2 h (fun _ z=>z H1 s1) fun h6 h=>?_;refine⟨_,rfl,A'.p,dx,_,rfl,a11,Z6 ⋯,_,rfl,_,rfl,A',S,"away",n,i,rfl,SA1,hz,fun H2 SA2 f2=>?_⟩;obtain⟨⟨dx2,v2,a21,a22⟩,br2,cl2,⟨kvs2,d21,d22⟩,_⟩:=id SA2;refine⟨_,rfl,A'.p,a.znw,dx2,_,_,rfl,a21,T.znx,T.zqb,Rv,_,rfl,_,rfl,sz2,fun t2 ht2=>?_⟩;have s3:=Ze (o:=.tup [.int i,.int n]) ht2;have q3:upd H2 t2 (.tup #[Q,i,n]) t2=some (.tup (([inl i,inl n]:List Key).map kV)):=Zc;generalize upd H2 t2 (.tup [.int i,.int n])=H3 at s3 q3;have SA3:=SA2.same s3;refine⟨A'.da,_,rfl,DPut.t (k:=[inl i,inl n]) (s3 _ _ d21) q3 (by have:=d22.2;have h9:kvs2.length<=S.out.length:=this;have:=Tr;omega),?_⟩;obtain⟨SA4,f4⟩:=SA3.setOut (out:=S.out++[(i,n)]) Zc (d22.put i n) (fun b o e hb=>by rw[Zi hb];exact e);generalize upd H3 A'.da (.dT (putK kvs2 [inl i,inl n] (.bl true)))=H4 at SA4 f4;have SA4:Zw (ca a) H4 A' (Xt S i n):=SA4;have fr4:FrS A' H H4:=(FrS.of A' s1).trans (f2.trans ((FrS.of A' s3).trans f4));obtain⟨⟨dx4,v4,a41,a42⟩,br4,_⟩:=id SA4;have empty:(S.cur=none\/atV S<i)->∀ l,H4 l=none->Q (.ref l) (upd H4 l (.lst [])):=fun hz l hl=>h.1 hz l _ Zc (SA4.same (Ze hl)) (fr4.trans (FrS.of A' (Ze hl))) (fr4.free SA4 hl);refine⟨_,rfl,_,rfl,A'.p,dx4,_,rfl,a41,Z6 ⋯,A',_,rfl,SA4,_,_,rfl,rfl,_,rfl,?_⟩;refine itD (fun hgt=>?_) fun hle=>?_
 ·refine iteT ?_;exact#[ap,fun l hl=>empty (.inr hgt) l hl]
 have hat:i=atV S:=by
  have hle:¬ (atV S<i):=hle;unfold atV at hle ⊢;omega
 refine⟨_,rfl,A'.p,a.znw,dx4,_,_,rfl,a41,T.znx,T.zos,Wq,rfl,_,rfl,?_⟩;cases hc4:S.cur with
 | none =>
   have e4:v4=.non:=by
    have:ShO a.znz (·∉A'.fp) H4 v4 S.cur:=a42;rw[hc4] at this;exact this
   rw[e4];refine iteT ?_;exact#[ap,fun l hl=>empty (.inl hc4) l hl]
 | some s =>
   have e4:∃ q,v4=.ref q:=by
    have:ShO a.znz (·∉A'.fp) H4 v4 S.cur:=a42;rw[hc4] at this;obtain⟨q,e,_⟩:=this;exact⟨q,e⟩
   obtain⟨q4,rfl⟩:=e4;refine #[aa];obtain⟨hm20,FP,emay,hgz⟩:=hcur s hc4;have po4:Pm (Xt S i n):=po;have hgl:s.gv.length<=100:=by rw[FP.len,emay];unfold mayS;rw[zwq];omega
   refine⟨_,rfl,A'.p,dx4,_,rfl,a41,Z6 ⋯,_,rfl,A',Xt S i n,n,s,(Xt S i n).ppl.map (·.1),rfl,SA4,hc4,po4,hm20,FP.one,hgl,hgz,po4.may br4.nd hm20,fun hp l H5 hl SA5 f5 fl=>?_,fun p hp=>?_⟩
   ·exact h.2.1 s hat hc4 hp l H5 hl SA5 (fr4.trans f5) (fr4.free SA4 fl)
   ·have hgp:=Nk hp;refine⟨hgp,fun j hj=>FP.inj j p n hj hgp,?_,fun l us st e w' H5 hl tl CR SA5 f5 fl=>?_⟩
    ·rw[hat,Tu,<- emay];exact Tc FP hgp
    ·exact h.2.2 s p hat hc4 hp l us st e w' H5 hl tl CR SA5 (fr4.trans f5) (fr4.free SA4 fl)
abbrev Uo:Stmt:=Z0 (top 59) 12
theorem V2:#[r,["self","number","lists","fallen"],#[Z],Uo]:=fnS
theorem Mx(F:#[k,"step_in","Season.step_in",Uo])(T:#[n])(zon:Zp P w K mg base a.znw "takers_of" 5 #[v,"listed"] #[e,Ni])(zoz:Zp P w K mg base a.znz "matches" 1 ["self"] #[e,Pl])(zor:Zp P w K mg base a.znz "where" 2 #[Z] #[e,Oi])(zql:Zp P w K mg base a.znz "barred" 3 #[v,"lists"] #[e,Av])(zpm:Zp P w K mg base a.znz "fallen_out" 3 ["self","number","lists"] #[e,Aw])(zo6:Zp P w K mg base a.znz "chains" 1 ["self"] #[e,Nh]):FnOk P w K mg base #[i] 6 f fd #[Z] #[e,A8]:=by
 refine #[o,V2];obtain⟨A',S,n,s,nu,rfl,SA,hc,po,hml,ho,hgl,hgz,mo,h1,h2⟩:=h;refine⟨_,(Zb (pS 2 V2.nd (Yg (pv 0) T.znx zon (hr.mono ⋯) Zj (Za (Yi #[af,Zr,0] T.zn6 zoz (hr.mono ⋯) Zj) Zd)))
 (Zb (Z3 (Zo Pa (Yg (Zr (K:=K) rfl (pv 0) rfl) T.zn6 zor (hr.mono ⋯) Zj (Za (pv 1) Zd)) Y1 (Zu _))
  (Zb (Y9 (K:=K) rfl (pv 0) (Yg (Zr (K:=K) rfl (pv 0) rfl) T.zn6 zql (hr.mono ⋯) Zj (Za (pv 2) Zd)) rfl)
  (Zf (Zn (Z1 Zd))))
  Zt)
 (Zb (Y9 (K:=K) rfl (pv 0) (Yg (Zr (K:=K) rfl (pv 0) rfl) T.zn6 zpm (hr.mono ⋯) Zj (Za (pv 1) (Za (pv 2) Zd))) rfl)
 (Zb (pS 3 V2.nd (Yi (Zr (K:=K) rfl (pv 0) rfl) T.zn6 zo6 (hr.mono ⋯) Zj))
 (Zf (Zn (pI (iU K) (pI (iL K) (pv 3) (Rl Ub Zg)) Zg))))))),?_⟩
 obtain⟨⟨dx,v,a1,a2⟩,br,cl,_⟩:=id SA;rw[hc] at a2;obtain⟨q,rfl,Sq⟩:=a2;obtain⟨dxq,m1,m2,m3,m4,hq⟩:=ShAt.ins Sq;refine⟨_,rfl,A'.p,dx,_,rfl,a1,Z6 ⋯,_,rfl,A'.p,a.znw,dx,_,_,rfl,a1,T.znx,T.zos,Wq,q,dxq,_,rfl,hq,Wm ⋯ ⋯ ⋯ ⋯,(·∉A'.fp),q,s,rfl,Sq,fun l1 ts H1 hl1 tl s1 f1=>?_⟩;have SA1:=SA.same s1;refine⟨A',S,l1,ts,s.ms,rfl,SA1,hl1,tl,by omega,zw6 po.2 ⋯,po.small,fun l2 ls H2 h3 il3 s2 f3 fl3=>?_⟩;have s12:=s1.trans s2;have SA2:=SA1.same s2;have Sq2:=Sq.same s12;refine⟨_,rfl,A'.p,a.znw,dx,_,_,rfl,s12 _ _ a1,T.znx,T.zos,Wq,q,dxq,_,rfl,s12 _ _ hq,Wm ⋯ ⋯ ⋯ ⋯,_,rfl,(·∉A'.fp),q,s,n,rfl,Sq2,ho,hgl,fun H3 s3=>?_⟩;have s13:=s12.trans s3;have SA3:=SA2.same s3;have Sq3:=Sq2.same s3;have il4:=il3.same s3;refine⟨rfl,_,rfl,?_⟩;cases hp:Wk s.gv n with
 | none =>
   refine iteT ?_;refine⟨_,rfl,A'.p,a.znw,dx,_,_,rfl,s13 _ _ a1,T.znx,T.zos,Wq,q,dxq,_,rfl,s13 _ _ hq,Wm ⋯ ⋯ ⋯ ⋯,_,rfl,(·∉A'.fp),q,l2,ls,mayS S s.ms,s,rfl,Sq3,s3 _ _ h3,il4,SA1.newOk l2 f3,fun x hx=>SA1.newOk x (fl3 x hx),SA3.newOk,fun q' H4 ShA s4 fq=>?_⟩;have SA4:=SA3.same s4;obtain⟨⟨dx4,v4,a41,a42⟩,_⟩:=id SA4;refine⟨_,rfl,A'.p,a.znw,dx4,_,rfl,a41,T.znx,T.zos,(by show 8<1000;decide),?_⟩;obtain⟨SA5,f5,Sh5⟩:=SA4.newSheet a41 ShA;generalize upd H4 A'.p (.ins a.znw dx4 (putF "sheet" (.ref q') (seaF A' S.len S.rest v4)))=H5 at SA5 f5 Sh5;have fr5:FrS A' H H5:=(FrS.of A' (s13.trans s4)).trans f5;refine#[ap,fun l hl=>?_];exact h1 hp l _ Zc (SA5.same (Ze hl)) (fr5.trans (FrS.of A' (Ze hl))) (fr5.free SA5 hl)
 | some p =>
   refine #[aa];obtain⟨hgp,hun,FP,h3'⟩:=h2 p hp;refine⟨_,rfl,A'.p,a.znw,dx,_,_,rfl,s13 _ _ a1,T.znx,T.zos,Wq,q,dxq,_,rfl,s13 _ _ hq,Wm ⋯ ⋯ ⋯ ⋯,_,rfl,_,rfl,(·∉A'.fp),q,l2,ls,mayS S s.ms,nu,s,n,p,rfl,Sq3,s3 _ _ h3,il4,SA1.newOk l2 f3,fun x hx=>SA1.newOk x (fl3 x hx),SA3.newOk,mo,ho,hgp,hun,FP,by omega,fun q' st e w' H4 ShA CR s4 fq=>?_⟩;have SA4:=SA3.same s4;obtain⟨⟨dx4,v4,a41,a42⟩,_⟩:=id SA4;refine⟨_,rfl,A'.p,a.znw,dx4,_,rfl,a41,T.znx,T.zos,(by show 8<1000;decide),?_⟩;obtain⟨SA5,f5,Sh5⟩:=SA4.newSheet a41 ShA;generalize upd H4 A'.p (.ins a.znw dx4 (putF "sheet" (.ref q') (seaF A' S.len S.rest v4)))=H5 at SA5 f5 Sh5;have fr5:FrS A' H H5:=(FrS.of A' (s13.trans s4)).trans f5;obtain⟨⟨dx5,v5,a51,a52⟩,_⟩:=id SA5;obtain⟨q5,rfl,Sq5⟩:=a52;obtain⟨dxq5,m51,m52,m53,m54,hq5⟩:=ShAt.ins Sq5;refine⟨_,rfl,A'.p,a.znw,dx5,_,_,rfl,a51,T.znx,T.zos,Wq,q5,dxq5,_,rfl,hq5,Wm ⋯ ⋯ ⋯ ⋯,(·∉A'.fp),q5,_,rfl,Sq5,by show (s.gaps++[(n,st)]).length<=1000;rw[zwt];show s.gaps.length+1<=1000;omega,fun l us H6 hl gl s6 fl=>?_⟩;obtain⟨vs',t,l',us',rfl,ht,hl',tl',ok',_⟩:=Wl.unsnoc gl;refine⟨_,rfl,_,rfl,l,_,_,_,rfl,rfl,SqL.of hl,atI_last,t,_,_,_,rfl,rfl,#[P],rfl,?_⟩;exact h3' l' us' st e w' H6 hl' tl' CR (SA5.same s6) (fr5.trans (FrS.of A' s6)) (fr5.free SA5 ok')
abbrev Sa:Stmt:=Z0 (top 59) 13
theorem Qw:#[r,#[v,"sheet"],["self"],Sa]:=fnS
theorem Jx(F:#[k,"close","Season.close",Sa])(T:#[n])(zob:Zp P w K mg base a.znw "check_not_over" 3 ["self"] #[e,Lw])(zn2:Zp P w K mg base a.znw "sheet_at_hand" 1 ["self"] #[e,Tt])(zqk:Zp P w K mg base a.zn1 "write" 1 #[v,"rows"] (As a.zn1))(zrh:Zp P w K mg base a.znz "rows" 1 ["self"] #[e,Az])(zn8:Zp P w K mg base a.zn1 "over" 1 ["self"] (Lp a.zn1)):FnOk P w K mg base #[i] 4 f fd ["self"] #[e,zdm]:=by
 refine #[o,Qw];obtain⟨A',S,rfl,SA,ht,hl,hol,hcur,h⟩:=h;refine⟨_,(Zb (Z8 (Yi (pv 0) T.znx zob (hr.mono ⋯) Zj))
 (Zb (pS 1 Qw.nd (Yi (pv 0) T.znx zn2 (hr.mono ⋯) Zj))
 (Zb (Z8 (Yg (Zr (K:=K) rfl (pv 0) rfl) T.zox zqk (hr.mono ⋯) Zj (Za (Yi (pv 1) T.zn6 zrh (hr.mono ⋯) Zj) Zd)))
 (Zb (Y5 (Zr (K:=K) rfl (pv 0) rfl) (pv 1))
 (Zb (Y9 (K:=K) rfl (pv 0) Y1 rfl)
 (Zb (Y9 (K:=K) rfl (pv 0) (Z1 Zd) rfl)
 (Zf (Zn (Yi (Zr (K:=K) rfl (pv 0) rfl) T.zox zn8 (hr.mono ⋯) Zj))))))))),?_⟩
 obtain⟨⟨dx,v,a1,a2⟩,br,cl,_⟩:=id SA;obtain⟨⟨dxl,hpl⟩,_⟩:=id cl;refine⟨_,rfl,A'.p,dx,_,rfl,a1,Z6 ⋯,A',S,rfl,SA,?_⟩;refine it2 h (fun _ z=>z) fun h1 h=>?_;refine⟨_,rfl,A'.p,dx,_,rfl,a1,Z6 ⋯,A',S,rfl,SA,h.1,fun s q hc Sq=>?_⟩;obtain⟨ho,hgl,hml⟩:=hcur s hc;obtain⟨dxq,m1,m2,m3,m4,hq⟩:=ShAt.ins Sq;refine⟨_,rfl,A'.p,a.znw,dx,_,_,rfl,a1,T.znx,T.zpj,Ue,A'.pl,dxl,_,rfl,hpl,Hi ⋯ ⋯,_,rfl,q,dxq,_,rfl,hq,Wm ⋯ ⋯ ⋯ ⋯,(·∉A'.fp),q,s,rfl,Sq,ho,hgl,hml,fun l1 ts H1 hl1 tl s1 f1=>?_⟩;have SA1:=SA.same s1;have ok1:l1∉A'.fp:=SA.newOk l1 f1;refine⟨A'.pl,A'.lr,A'.ld,S.led,l1,ts,Yj s,rfl,SA1.led,hl1,#[au,ok1],tl,by rw[A0 hgl];omega,hl,fun H2 L2' k2=>?_⟩;obtain⟨SA2,f2⟩:=SA1.setLed L2' k2;obtain⟨⟨dx2,v2,a21,a22⟩,br2,cl2,d2,⟨vs,f21,f22⟩,_⟩:=id SA2;have Sq2:=(Sq.same s1).keep (fun x o hx e=>f2 x o e hx) (SA1.tups f2);refine⟨_,rfl,A'.p,a.znw,dx2,_,_,rfl,a21,T.znx,T.zrq,Dy,A'.ls,vs,rfl,f21,_,rfl,vs,f21,by have:=f22.length;have h9:vs.length=S.old.length:=this;have:=Tr;omega,?_⟩;have k3:∀ b o,H2 b=#[d]->b≠A'.ls->upd H2 A'.ls (.lst (vs++[.ref q])) b=#[d]:=fun b o e hb=>by rw[Zi hb];exact e
 have kt3:∀ t xs,H2 t=#[A,xs]->upd H2 A'.ls (.lst (vs++[.ref q])) t=#[A,xs]:=fun t xs e=>k3 t _ e (Yz e f21 (fun z=>nomatch z));have ko3:∀ x o,x∉A'.fp->H2 x=#[d]->upd H2 A'.ls (.lst (vs++[.ref q])) x=#[d]:=fun x o hx e=>k3 x o e #[au,hx];obtain⟨SA3,f3⟩:=SA2.setOld (old:=S.old++[s]) Zc ((f22.keep ko3 kt3).snoc (Sq2.keep ko3 kt3)) k3;generalize upd H2 A'.ls (.lst (vs++[.ref q]))=H3 at SA3 f3;obtain⟨⟨dx3,v3,a31,a32⟩,_⟩:=id SA3;refine⟨_,rfl,A'.p,a.znw,dx3,_,rfl,a31,T.znx,T.zos,(by show 8<1000;decide),?_⟩;obtain⟨SA4,f4⟩:=SA3.setCur (H':=upd H3 A'.p (.ins a.znw dx3 (putF "sheet" .non (seaF A' S.len S.rest v3)))) (cur:=none) (v:=.non) ⟨dx3,by rw[Zc];exact congrArg (fun x=>some (HO.ins a.znw dx3 x)) Nj⟩ rfl (fun b o e hb=>by rw[Zi hb];exact e);generalize upd H3 A'.p (.ins a.znw dx3 (putF "sheet" .non (seaF A' S.len S.rest v3)))=H4 at SA4 f4;obtain⟨⟨dx4,v4,a41,a42⟩,_⟩:=id SA4;refine#[ap,fun x hx=>?_];have npx:A'.p≠x:=Zh a41 hx;refine⟨_,rfl,A'.p,a.znw,dx4,_,rfl,(by rw[Zi npx];exact a41),T.znx,T.zpb,(by show 8<1000;decide),?_⟩;obtain⟨SA5,f5⟩:=SA4.freshStd hx a41 a42 rfl;have fr4:FrS A' H H4:=(FrS.of A' s1).trans (f2.trans (f3.trans f4));have fx:H x=none:=fr4.free SA4 hx;generalize upd (upd H4 x (.lst [])) A'.p (.ins a.znw dx4 (putF "standing" (.ref x) (seaF A' S.len S.rest v4)))=H5 at SA5 f5;have SA5:Zw (ca a) H5 { A' with lt:=x } (C3 S s):=SA5;obtain⟨⟨dx5,v5,a51,a52⟩,br5,cl5,_⟩:=id SA5;obtain⟨⟨dxl5,hpl5⟩,_⟩:=id cl5;refine⟨_,rfl,A'.p,a.znw,dx5,_,_,rfl,a51,T.znx,T.zpj,Ue,A'.pl,dxl5,_,rfl,hpl5,Hi ⋯ ⋯,A'.pl,A'.lr,A'.ld,S.led++[Yj s],rfl,cl5,?_⟩;have hfin:=h.2 s x H5 hc SA5 (fr4.trans f5) fx;have e:(((S.led++[Yj s]).length:Nat):Int)=atV S:=by rw[zwt];rfl
 rw[e];exact hfin
abbrev Vm:Stmt:=Z0 (top 59) 14
theorem W6:#[r,["self","last","deed"],["self"],Vm]:=fnS
theorem Oy(F:#[k,"take_back","Season.take_back",Vm])(T:#[n])(zqe:Zp P w K mg base a.zn3 "strike" 1 #[Z] #[e,Aq]):FnOk P w K mg base #[i] 2 f fd ["self"] #[e,Hw]:=by
 refine #[o,W6];obtain⟨A',S,rfl,SA,h1,h2⟩:=h;have hu:=X8 hr;refine⟨_,(Zb (Z3 (Q8 (Dh (K:=K) rfl #[af,Zr,0] fun _=>rfl))
  (Zf (Xg Xf rfl T.zr2 rfl (Za Zl Zd)))
  Zt)
 (Zb (pS 1 W6.nd (zf8 PySem.F.plainAttrs_list PySem.F.slot_list_pop PySem.F.type_list_pop zke (Zr (K:=K) rfl (pv 0) rfl)))
 (Zb (pS 2 W6.nd (pI (iU K) (pv 1) Zg))
 (Zb (Y9 (K:=K) rfl (pv 0) (pI (iU K) (pv 1) Zg) rfl)
 (Zb (Z3 (Zo Xd (pI (iU K) (pv 2) Zg) Zl (Zu _))
  (Zf (Z8 (Yg (Zr (K:=K) rfl (pv 0) rfl) T.zoc zqe (hr.mono ⋯) Zj (Za (pI (iU K) (pv 2) Zg) Zd))))
  Zt)
 (Zb (Z3 (Zo Xd (pI (iU K) (pv 2) Zg) Zl (Zu _))
  (Zf (Z8 (zg5 hu (Zr (K:=K) rfl (pv 0) rfl) (Yc (Za (pI (iU K) (pv 2) Zg) (Za (pI (iU K) (pv 2) Zg) Zd))) ⟨rfl,rfl,rfl,rfl⟩)))
  Zt)
 (Zf (Zn (pv 2))))))))),?_⟩
 show let y1:TS:=_;let y2:TS:=Zx _ y1;let y3:TS:=Zx _ y2;let y4:TS:=Zx _ y3;let y5:TS:=Zx _ y4;let y6:TS:=Zx _ y5;Zx _ y6 _ _ _;intro y1 y2 y3 y4 y5 y6;obtain⟨⟨dx,v,a1,a2⟩,br,cl,d0,f0,⟨us,g1,g2⟩,_⟩:=id SA;refine⟨_,rfl,A'.p,a.znw,dx,_,_,rfl,a1,T.znx,T.zpb,Si,_,.inl ⟨_,SqL.of g1,rfl⟩,?_⟩;have hul:=g2.length;rcases List.eq_nil_or_concat S.std with hn|⟨std',⟨d,s⟩,he⟩
 ·rw[hn] at hul;have hu0:us=[]:=zye.mp hul;rw[hu0];exact iteT ⟨sz1,h1 hn⟩
 have he:S.std=std'++[(d,s)]:=by rw[he,List.concat_eq_append]
 rw[he] at g2;obtain⟨vs',t,u,v',rfl,ht,hu',hs,g3⟩:=U2.unsnoc g2;have hne:(vs'++[V.ref t]).isEmpty=false:=by cases vs'<;>rfl
 rw[hne];refine #[aa];obtain⟨ppl,out,hbk,hfin⟩:=h2 std' d s he;refine⟨_,rfl,A'.p,a.znw,dx,_,_,rfl,a1,T.znx,T.zpb,Si,.inl ⟨rfl,_,SqL.of g1⟩,A'.lt,_,V.ref t,rfl,rfl,g1,by simp,?_⟩;rw[List.dropLast_concat];have k1:∀ b o,H b=#[d]->b≠A'.lt->upd H A'.lt (.lst vs') b=#[d]:=fun b o e hb=>by rw[Zi hb];exact e
 have kt1:∀ t xs,H t=#[A,xs]->upd H A'.lt (.lst vs') t=#[A,xs]:=fun t xs e=>k1 t _ e (Yz e g1 (fun z=>nomatch z));have ko1:∀ x o,x∉A'.fp->H x=#[d]->upd H A'.lt (.lst vs') x=#[d]:=fun x o hx e=>k1 x o e #[au,hx];obtain⟨SA1,f1⟩:=SA.setStd (std:=std') Zc (g3.keep ko1 kt1) k1;have ht1:=kt1 _ _ ht;have hu1:=kt1 _ _ hu';have hs1:=hs.keep ko1 kt1;generalize upd H A'.lt (.lst vs')=H1 at SA1 f1 ht1 hu1 hs1;refine⟨_,rfl,t,_,_,_,rfl,rfl,SqT.of ht1,rfl,?_⟩;obtain⟨⟨dx1,v1,a11,a12⟩,_⟩:=id SA1;refine⟨_,rfl,t,_,_,_,rfl,rfl,SqT.of ht1,rfl,_,rfl,A'.p,a.znw,dx1,_,rfl,a11,T.znx,T.zos,(by show 8<1000;decide),?_⟩;have k2:∀ b o,H1 b=#[d]->b≠A'.p->upd H1 A'.p (.ins a.znw dx1 (putF "sheet" v' (seaF A' S.len S.rest v1))) b=#[d]:=fun b o e hb=>by rw[Zi hb];exact e
 have kt2:∀ t xs,H1 t=#[A,xs]->upd H1 A'.p (.ins a.znw dx1 (putF "sheet" v' (seaF A' S.len S.rest v1))) t=#[A,xs]:=fun t xs e=>k2 t _ e (Yz e a11 (fun z=>nomatch z));obtain⟨SA2,f2⟩:=SA1.setCur (cur:=s) (v:=v') ⟨dx1,by rw[Zc];exact congrArg (fun x=>some (HO.ins a.znw dx1 x)) Nj⟩ (hs1.keep (fun x o hx e=>k2 x o e #[au,hx]) kt2) k2;have hu2:=kt2 _ _ hu1;generalize upd H1 A'.p (.ins a.znw dx1 (putF "sheet" v' (seaF A' S.len S.rest v1)))=H2 at SA2 f2 hu2;have fr2:=f1.trans f2;have d0:atI (Qt d) 0=#[c,.str,d.1]:=rfl;have d1:atI (Qt d) 1=#[c,.int,d.2.1]:=rfl;have d2:atI (Qt d) 2=#[c,.int,d.2.2]:=rfl;have es:∀ w:Str,#[j,V.str d.1=V.str w]=decide (d.1=w):=fun w=>by
  by_cases z:d.1=w
  ·rw[zwy z,zwy (congrArg V.str z)]
  ·rw[zw1 z,zw1 fun q=>z (V.str.inj q)]
 walk_at "if";refine Xi ?_;refine⟨_,rfl,u,_,_,_,rfl,rfl,SqT.of hu2,d0,rfl,_,rfl,?_⟩;rw[es];obtain⟨⟨dx2,v2,a21,a22⟩,br2,cl2,⟨kvs2,e21,e22⟩,_⟩:=id SA2;have n1:¬ (("enrol":Str)="away"):=by decide +kernel
 have n2:¬ (("draw up":Str)="away"):=by decide +kernel
 have n3:¬ (("draw up":Str)="enrol"):=by decide +kernel
 have n4:¬ (("away":Str)="enrol"):=by decide +kernel
 rcases hbk with ⟨hd,⟨g,c0,hp⟩,ho⟩|⟨hd,hp,ho,hno⟩|⟨hd,hp,ho⟩
 ·rw[zwy hd];refine iteT ?_;obtain⟨⟨dxr,kvr,hpr,hdr,en⟩,ndr⟩:=id br2;refine⟨_,rfl,A'.p,a.znw,dx2,_,_,rfl,a21,T.znx,T.zow,Xq,A'.pr,dxr,_,rfl,hpr,Y8.no ⋯,_,rfl,u,_,_,_,rfl,rfl,SqT.of hu2,d1,A'.pr,A'.dr,ppl,d.2.1,g,c0,rfl,(show Y8 a.zn3 H2 A'.pr A'.dr (ppl++[(d.2.1,g,c0)]) by have:Y8 a.zn3 H2 A'.pr A'.dr S.ppl:=br2;rw[hp] at this;exact this),fun H3 R3 k3=>?_⟩;obtain⟨SA3,f3⟩:=SA2.setRos R3 k3;have hu3:=SA2.tups f3 _ _ hu2;refine⟨_,rfl,u,_,_,_,rfl,rfl,SqT.of hu3,d0,rfl,_,rfl,?_⟩;rw[es,zw1 (by rw[hd];exact n1)];refine iteF (Zy #[t,_,?_]);refine hfin u H3 hu3 ?_ (fr2.trans f3);rw[ho];exact SA3
 ·rw[zw1 (by rw[hd];exact n4)];refine #[aa];refine⟨_,rfl,u,_,_,_,rfl,rfl,SqT.of hu2,d0,rfl,_,rfl,?_⟩;rw[es,zwy hd];refine iteT ?_;refine⟨_,rfl,A'.p,a.znw,dx2,_,_,rfl,a21,T.znx,T.zqb,Rv,A'.da,rfl,.inr ⟨kvs2,.inl e21⟩,_,rfl,u,_,_,_,rfl,rfl,SqT.of hu2,d2,_,rfl,u,_,_,_,rfl,rfl,SqT.of hu2,d1,sz2,fun tk htk=>?_⟩;have s3:=Ze (o:=.tup [.int d.2.2,.int d.2.1]) htk;have q3:upd H2 tk (.tup #[Q,d.2.2,d.2.1]) tk=some (.tup (([inl d.2.2,inl d.2.1]:List Key).map kV)):=Zc;generalize upd H2 tk (.tup [.int d.2.2,.int d.2.1])=H3 at s3 q3;have SA3:=SA2.same s3;have e22:Pk kvs2 S.out:=e22;rw[ho] at e22;have hv:∃ vv,valV kvs2 [inl d.2.2,inl d.2.1]=some vv:=zxv.mp (by rw[e22.1,zwy (by simp)]);obtain⟨vv,hv⟩:=hv;refine⟨kvs2,[inl d.2.2,inl d.2.1],tk,vv,s3 _ _ e21,rfl,q3,hv,?_⟩;obtain⟨SA4,f4⟩:=SA3.setOut (out:=out) Zc (e22.drop hno) (fun b o e hb=>by rw[Zi hb];exact e);have hu4:=SA3.tups f4 _ _ (s3 _ _ hu2);refine#[t,_,hfin u _ hu4 ?_ (fr2.trans ((FrS.of A' s3).trans f4))];rw[hp];exact SA4
 ·rw[zw1 (by rw[hd];exact n3)];refine #[aa];refine⟨_,rfl,u,_,_,_,rfl,rfl,SqT.of hu2,d0,rfl,_,rfl,?_⟩;rw[es,zw1 (by rw[hd];exact n2)];refine iteF (Zy #[t,_,hfin u H2 hu2 ?_ fr2]);rw[hp,ho];exact SA2
abbrev Up:Stmt:=Z0 (top 59) 15
theorem My:#[an,Up]:=fnS
theorem Mz(F:#[k,"at_hand","Season.at_hand",Up])(T:#[n])(zn8:Zp P w K mg base a.zn1 "over" 1 ["self"] (Lp a.zn1)):FnOk P w K mg base #[i] 2 f fd ["self"] #[e,Vv]:=by
 refine #[o,My];obtain⟨A',S,rfl,SA,h⟩:=h;refine#[al,_,Zs Yr (Yi #[af,Zr,0] T.zox zn8 (hr.mono ⋯) Zj) Zg];obtain⟨⟨dx,v,a1,a2⟩,b,c,_⟩:=id SA;obtain⟨⟨dxl,hpl⟩,_⟩:=id c;refine⟨_,rfl,A'.p,a.znw,dx,_,_,rfl,a1,T.znx,T.zpj,Ue,A'.pl,dxl,_,rfl,hpl,Hi ⋯ ⋯,A'.pl,A'.lr,A'.ld,S.led,rfl,c,_,_,rfl,rfl,?_⟩;exact h
abbrev V3:Stmt:=Z0 (top 59) 17
theorem N2:#[an,V3]:=fnS
theorem N3(F:#[k,"referees","Season.referees",V3])(T:#[n])(zoo:Zp P w K mg base a.zn3 "numbers" 1 ["self"] #[e,Nf]):FnOk P w K mg base #[i] 2 f fd ["self"] #[e,Hy]:=by
 refine #[o,N2];obtain⟨A',S,rfl,SA,h⟩:=h;refine⟨_,Zf (Zn (Yi #[af,Zr,0] T.zoc zoo (hr.mono ⋯) Zj)),?_⟩;obtain⟨⟨dx,v,a1,a2⟩,br,cl,_⟩:=id SA;obtain⟨⟨dxr,kvr,hpr,hdr,en⟩,ndr⟩:=id br;exact⟨_,rfl,A'.p,a.znw,dx,_,_,rfl,a1,T.znx,T.zow,Xq,A'.pr,dxr,_,rfl,hpr,Y8.no ⋯,A'.pr,A'.dr,S.ppl,rfl,br,fun l hl=>h l _ Zc (Ze hl) hl⟩
abbrev Uq:Stmt:=Z0 (top 59) 18
theorem M0:#[r,#[Z],#[Z],Uq]:=fnS
theorem M3(F:#[k,"referee","Season.referee",Uq])(T:#[n])(zo3:Zp P w K mg base a.zn3 "entry" 2 #[Z] #[e,Ho]):FnOk P w K mg base #[i] 3 f fd #[Z] #[e,D2]:=by
 refine #[o,M0];obtain⟨A',S,n,rfl,SA,sn,h1,h2⟩:=h;refine#[al,_,Yg #[af,Zr,0] T.zoc zo3 (hr.mono ⋯) Zj (Za (pv 1) Zd)];obtain⟨⟨dx,v,a1,a2⟩,br,cl,_⟩:=id SA;obtain⟨⟨dxr,kvr,hpr,hdr,en⟩,ndr⟩:=id br;exact⟨_,rfl,A'.p,a.znw,dx,_,_,rfl,a1,T.znx,T.zow,Xq,A'.pr,dxr,_,rfl,hpr,Y8.no ⋯,_,rfl,A'.pr,A'.dr,S.ppl,n,rfl,br,sn,h1,fun g c t q ht=>h2 g c t q ht⟩
abbrev Ur:Stmt:=Z0 (top 59) 19
theorem M4:#[r,["self","at","number"],["self","at","number"],Ur]:=fnS
theorem M5(F:#[k,"is_away","Season.is_away",Ur])(T:#[n])(zn7:Zp P w K mg base a.znw "check_round" 1 #[v,"at"] #[e,Ij])(zn4:Zp P w K mg base a.zn3 "check_known" 1 #[Z] #[e,Vu]):FnOk P w K mg base #[i] 2 f fd ["self","at","number"] #[e,Ga]:=by
 refine #[o,M4];obtain⟨A',S,i,n,rfl,SA,si,sn,h⟩:=h;have hu:=X8 hr;refine⟨_,(Zb (Z8 (Yg (pv 0) T.znx zn7 (hr.mono ⋯) Zj (Za (pv 1) Zd)))
 (Zb (Z8 (Yg (Zr (K:=K) rfl (pv 0) rfl) T.zoc zn4 (hr.mono ⋯) Zj (Za (pv 2) Zd)))
 (Zf (Zn (zjr (O7 hu (Yc (Za (pv 1) (Za (pv 2) Zd))) (Zr (K:=K) rfl (pv 0) rfl))))))),?_⟩
 obtain⟨⟨dx,v,a1,a2⟩,br,cl,⟨kvs,d1,d2⟩,_⟩:=id SA;obtain⟨⟨dxr,kvr,hpr,hdr,en⟩,ndr⟩:=id br;refine⟨_,rfl,A'.p,dx,_,rfl,a1,Z6 ⋯,_,rfl,A',S,i,rfl,SA,si,?_⟩;refine it2 h (fun _ z=>z) fun h1 h=>?_;refine⟨_,rfl,A'.p,a.znw,dx,_,_,rfl,a1,T.znx,T.zow,Xq,A'.pr,dxr,_,rfl,hpr,Y8.no ⋯,_,rfl,A'.pr,A'.dr,S.ppl,n,rfl,br,sn,?_⟩;refine it2 h (fun hk h=>?_) fun _ z=>z;refine⟨_,rfl,_,rfl,sz2,fun t ht=>?_⟩;have s1:=Ze (o:=.tup [.int i,.int n]) ht;have q1:upd H t (.tup #[Q,i,n]) t=some (.tup (([inl i,inl n]:List Key).map kV)):=Zc;generalize upd H t (.tup [.int i,.int n])=H1 at s1 q1;refine⟨_,rfl,A'.p,a.znw,dx,_,_,rfl,s1 _ _ a1,T.znx,T.zqb,Rv,A'.da,_,rfl,DGet.t (k:=[inl i,inl n]) (s1 _ _ d1) q1,?_⟩;rw[d2.isSome];exact h H1 s1
abbrev Us:Stmt:=Z0 (top 59) 20
theorem M6:#[r,#[v,"at"],#[v,"at"],Us]:=fnS
theorem M7(F:#[k,"matches","Season.matches",Us])(T:#[n])(zn0:Zp P w K mg base a.znw "sheet_of" 3 #[v,"at"] #[e,Ug])(zoz:Zp P w K mg base a.znz "matches" 1 ["self"] #[e,Pl]):FnOk P w K mg base #[i] 4 f fd #[v,"at"] #[e,D3]:=by
 refine #[o,M6];obtain⟨A',S,i,rfl,SA,hr0⟩:=h;refine#[aC,_,Zf,Zn,Yi,0,1,zoz,Zj,?_];obtain⟨si,hol,h⟩:=hr0;obtain⟨⟨dx,v,a1,a2⟩,_⟩:=id SA;refine⟨_,rfl,A'.p,dx,_,rfl,a1,Z6 ⋯,_,rfl,A',S,i,rfl,SA,si,hol,#[aB,h]⟩;obtain⟨dxq,m1,m2,m3,m4,hq⟩:=ShAt.ins Sq;exact⟨q,dxq,_,rfl,hq,Wm ⋯ ⋯ ⋯ ⋯,(·∉A'.fp),q,s,rfl,Sq,fun l ts H' a b c d=>h.2 s hs l ts H' a b c d⟩
abbrev Rf:Stmt:=Z0 (top 59) 21
theorem Fb:#[r,#[v,"at"],#[v,"at"],Rf]:=fnS
theorem Fc(F:#[k,"goes","Season.goes",Rf])(T:#[n])(zn0:Zp P w K mg base a.znw "sheet_of" 3 #[v,"at"] #[e,Ug])(zpd:Zp P w K mg base a.znz "goes" 1 ["self"] #[e,Hr]):FnOk P w K mg base #[i] 4 f fd #[v,"at"] #[e,C4]:=by
 refine #[o,Fb];obtain⟨A',S,i,rfl,SA,hr0⟩:=h;refine#[aC,_,Zf,Zn,Yi,0,1,zpd,Zj,?_];obtain⟨si,hol,h⟩:=hr0;obtain⟨⟨dx,v,a1,a2⟩,_⟩:=id SA;refine⟨_,rfl,A'.p,dx,_,rfl,a1,Z6 ⋯,_,rfl,A',S,i,rfl,SA,si,hol,#[aB,h]⟩;obtain⟨dxq,m1,m2,m3,m4,hq⟩:=ShAt.ins Sq;exact⟨q,dxq,_,rfl,hq,Wm ⋯ ⋯ ⋯ ⋯,(·∉A'.fp),q,s,rfl,Sq,fun l H' a b c=>h.2 s hs l H' a b c⟩
abbrev Sb:Stmt:=Z0 (top 59) 22
theorem Qx:#[r,["self","at","number","sheet"],["self","at","number"],Sb]:=fnS
theorem Jy(F:#[k,"where","Season.where",Sb])(T:#[n])(zn0:Zp P w K mg base a.znw "sheet_of" 3 #[v,"at"] #[e,Ug])(zn4:Zp P w K mg base a.zn3 "check_known" 1 #[Z] #[e,Vu])(zor:Zp P w K mg base a.znz "where" 2 #[Z] #[e,Oi]):FnOk P w K mg base #[i] 4 f fd ["self","at","number"] #[e,zdn]:=by
 refine #[o,Qx];obtain⟨A',S,i,n,rfl,SA,sn,hr0⟩:=h;refine⟨_,(Zb (pS 3 Qx.nd (Yg (pv 0) T.znx zn0 (hr.mono ⋯) Zj (Za (pv 1) Zd)))
 (Zb (Z8 (Yg (Zr (K:=K) rfl (pv 0) rfl) T.zoc zn4 (hr.mono ⋯) Zj (Za (pv 2) Zd)))
 (Zf (Zn (Yg (pv 3) T.zn6 zor (hr.mono ⋯) Zj (Za (pv 2) Zd)))))),?_⟩
 obtain⟨si,hol,h⟩:=hr0;obtain⟨⟨dx,v,a1,a2⟩,br,_⟩:=id SA;obtain⟨⟨dxr,kvr,hpr,hdr,en⟩,ndr⟩:=id br;refine⟨_,rfl,A'.p,dx,_,rfl,a1,Z6 ⋯,_,rfl,A',S,i,rfl,SA,si,hol,#[aB,h]⟩;obtain⟨dxq,m1,m2,m3,m4,hq⟩:=ShAt.ins Sq;obtain⟨k1,k2,k3⟩:=h.2 s hs;refine⟨_,rfl,A'.p,a.znw,dx,_,_,rfl,a1,T.znx,T.zow,Xq,A'.pr,dxr,_,rfl,hpr,Y8.no ⋯,_,rfl,A'.pr,A'.dr,S.ppl,n,rfl,br,sn,?_⟩;refine it2 k3 (fun hk k3=>?_) fun _ z=>z;exact⟨_,rfl,q,dxq,_,rfl,hq,Wm ⋯ ⋯ ⋯ ⋯,_,rfl,(·∉A'.fp),q,s,n,rfl,Sq,k1,k2,fun H' s'=>k3 H' s'⟩
abbrev Rg:Stmt:=Z0 (top 59) 23
theorem Fd:#[r,#[v,"at"],#[v,"at"],Rg]:=fnS
theorem Fe(F:#[k,"left","Season.left",Rg])(T:#[n])(zn0:Zp P w K mg base a.znw "sheet_of" 3 #[v,"at"] #[e,Ug])(zrn:Zp P w K mg base a.znz "left" 2 ["self"] #[e,Ax]):FnOk P w K mg base #[i] 4 f fd #[v,"at"] #[e,A9]:=by
 refine #[o,Fd];obtain⟨A',S,i,rfl,SA,hr0⟩:=h;refine#[aC,_,Zf,Zn,Yi,0,1,zrn,Zj,?_];obtain⟨si,hol,h⟩:=hr0;obtain⟨⟨dx,v,a1,a2⟩,_⟩:=id SA;refine⟨_,rfl,A'.p,dx,_,rfl,a1,Z6 ⋯,_,rfl,A',S,i,rfl,SA,si,hol,#[aB,h]⟩;obtain⟨dxq,m1,m2,m3,m4,hq⟩:=ShAt.ins Sq;obtain⟨k1,k2,k3⟩:=h.2 s hs;exact⟨q,dxq,_,rfl,hq,Wm ⋯ ⋯ ⋯ ⋯,(·∉A'.fp),q,s,rfl,Sq,k1,k2,fun l H' a b c=>k3 l H' a b c⟩
abbrev Qm:Stmt:=Z0 (top 59) 24
theorem El:#[r,#[v,"at"],#[v,"at"],Qm]:=fnS
theorem Em(F:#[k,"why","Season.why",Qm])(T:#[n])(zn0:Zp P w K mg base a.znw "sheet_of" 3 #[v,"at"] #[e,Ug])(zrt:Zp P w K mg base a.znz "why" 3 ["self"] #[e,zdh]):FnOk P w K mg base #[i] 4 f fd #[v,"at"] #[e,zjk]:=by
 refine #[o,El];obtain⟨A',S,i,rfl,SA,hr0⟩:=h;refine#[aC,_,Zf,Zn,Yi,0,1,zrt,Zj,?_];obtain⟨si,hol,h⟩:=hr0;obtain⟨⟨dx,v,a1,a2⟩,_⟩:=id SA;refine⟨_,rfl,A'.p,dx,_,rfl,a1,Z6 ⋯,_,rfl,A',S,i,rfl,SA,si,hol,#[aB,h]⟩;obtain⟨dxq,m1,m2,m3,m4,hq⟩:=ShAt.ins Sq;obtain⟨⟨nu,k0⟩,k1,k2,k3⟩:=h.2 s hs;exact⟨q,dxq,_,rfl,hq,Wm ⋯ ⋯ ⋯ ⋯,(·∉A'.fp),q,s,nu,rfl,Sq,k0,k1,k2,fun t lp lr ps rs H'=>k3 t lp lr ps rs H'⟩
abbrev U6:Stmt:=Z0 (top 59) 25
theorem Kj:#[r,#[v,"at"],#[v,"at"],U6]:=fnS
theorem Kk(F:#[k,"chains","Season.chains",U6])(T:#[n])(zn0:Zp P w K mg base a.znw "sheet_of" 3 #[v,"at"] #[e,Ug])(zo6:Zp P w K mg base a.znz "chains" 1 ["self"] #[e,Nh]):FnOk P w K mg base #[i] 4 f fd #[v,"at"] #[e,zaa]:=by
 refine #[o,Kj];obtain⟨A',S,i,rfl,SA,hr0⟩:=h;refine#[aC,_,Zf,Zn,Yi,0,1,zo6,Zj,?_];obtain⟨si,hol,h⟩:=hr0;obtain⟨⟨dx,v,a1,a2⟩,_⟩:=id SA;refine⟨_,rfl,A'.p,dx,_,rfl,a1,Z6 ⋯,_,rfl,A',S,i,rfl,SA,si,hol,#[aB,h]⟩;obtain⟨dxq,m1,m2,m3,m4,hq⟩:=ShAt.ins Sq;obtain⟨k1,k3⟩:=h.2 s hs;exact⟨q,dxq,_,rfl,hq,Wm ⋯ ⋯ ⋯ ⋯,(·∉A'.fp),q,s,rfl,Sq,k1,fun l ts H' a b c d=>k3 l ts H' a b c d⟩
abbrev Qn:Stmt:=Z0 (top 59) 26
theorem En:#[r,#[v,"place"],#[v,"place"],Qn]:=fnS
theorem Eo(F:#[k,"may","Season.may",Qn])(T:#[n])(zn2:Zp P w K mg base a.znw "sheet_at_hand" 1 ["self"] #[e,Tt])(zrp:Zp P w K mg base a.znz "may" 2 #[v,"place"] #[e,zdi]):FnOk P w K mg base #[i] 3 f fd #[v,"place"] #[e,zjl]:=by
 refine #[o,En];obtain⟨A',S,i,rfl,SA,si,h1,h2⟩:=h;refine#[al,_,Yg (Yi (pv 0) T.znx zn2 (hr.mono ⋯) Zj) T.zn6 zrp (hr.mono ⋯) Zj (Za (pv 1) Zd)];obtain⟨⟨dx,v,a1,a2⟩,_⟩:=id SA;refine⟨_,rfl,A'.p,dx,_,rfl,a1,Z6 ⋯,A',S,rfl,SA,h1,fun s q hs Sq=>?_⟩;obtain⟨dxq,m1,m2,m3,m4,hq⟩:=ShAt.ins Sq;obtain⟨k1,k2,k3⟩:=h2 s hs;exact⟨q,dxq,_,rfl,hq,Wm ⋯ ⋯ ⋯ ⋯,_,rfl,(·∉A'.fp),q,s,i,rfl,Sq,si,k1,k2,fun k r e1 e2 l H' a b c=>k3 k r e1 e2 l H' a b c⟩
abbrev P4:Stmt:=top 61
theorem Bj:#[r,["_law_found"],["_law_found"],P4]:=fnS
theorem Bl(F:#[k,"_law_whole","_law_whole",P4])(T:#[n]):FnOk P w K mg base #[i] 1 f fd ["_law_found"] zc1:=by
 refine #[o,Bj];obtain⟨i,rfl,h⟩:=h;refine#[al,_,Cb (Zq (Yo (K:=K) rfl) (by rfl) T.zn5 PyProof.Rows.boot_isinstance (Za (pv 0) (Za (Ib rfl T.zsv PyProof.Rows.boot_int (show RelV (.ty "int") _ from rfl)) Zd))) (Ld (zju (Zq (Yo (K:=K) rfl) (by rfl) T.zn5 PyProof.Rows.boot_isinstance (Za (pv 0) (Za (Ib rfl T.zt3 PyProof.Rows.boot_bool (show RelV (.ty "bool") _ from rfl)) Zd)))))];refine⟨_,rfl,_,_,_,_,rfl,.of (.int i),.inl ⟨_,rfl⟩,zko K,_,rfl,?_⟩;refine iteT ?_;exact⟨_,rfl,_,_,_,_,rfl,.of (.int i),.inl ⟨_,rfl⟩,zkp K,_,rfl,h⟩
abbrev Ff:Stmt:=top 62
theorem zfh:#[r,["_law_script","_law_k"],["_law_script","_law_k"],Ff]:=fnS
theorem zfi(F:#[k,"_law_at","_law_at",Ff])(T:#[n]):FnOk P w K mg base #[i] 1 f fd ["_law_script","_law_k"] (zed K):=by
 refine #[o,zfh];obtain⟨b,ns,k,rfl,hs,h⟩:=h;refine⟨_,(Zb (Z3 (Zo Kr (pv 1) (Zq (cL K) (by rfl) T.zoi PySem.boot_len (Za (pv 0) Zd)) (Zu _))
  (Zf (Zn (pI (iL K) (pv 0) (pv 1))))
  Zt)
 (Zf (Zn Zg))),?_⟩
 refine⟨_,rfl,_,rfl,b,_,rfl,.inl hs,_,_,rfl,rfl,_,rfl,?_⟩;rw[zwq];refine itD (fun hk=>?_) fun hk=>?_
 ·have hk':k<ns.length:=by omega
  refine⟨_,rfl,_,rfl,b,_,_,_,rfl,rfl,hs,Zz (show (ns.map V.int)[k]?=#[f,Xz ns k] from ?_),h⟩;unfold Xz;rw[zwx,zws hk'];rfl
 ·have e:Xz ns k=0:=by unfold Xz;rw[List.getElem?_eq_none ⋯];rfl
  rw[e] at h;exact h
abbrev Kl:Stmt:=top 63
theorem Qo:#[r,["_law_cell_here","_law_k","_law_one","_law_two","_law_three"],["_law_cell_here","_law_k"],Kl]:=fnS
theorem zcf(F:#[k,"_law_mix","_law_mix",Kl])(T:#[n]):FnOk P w K mg base #[i] 1 f fd ["_law_cell_here","_law_k"] zc2:=by
 refine #[o,Qo];obtain⟨c,k,rfl,h⟩:=h;refine⟨_,(Zb (pS 2 Qo.nd (Zs Ys (Zs Yr (Zs Sv (pv 0) Zg) (pv 1)) Zg))
 (Zb (pS 3 Qo.nd (Zs Ys (Zs Yr (Zs Sv (pv 2) Zg) (Zs Sv Zg (pv 1))) Zg))
 (Zb (pS 4 Qo.nd (Zs Ys (Zs Yr (Zs Sv (pv 3) Zg) (pv 2)) Zg))
 (Zf (Zn (Zs Yr (Zs Sv (Zs Yr (Zs Sv (pv 2) Zg) (pv 3)) Zg) (pv 4))))))),?_⟩
 walk_at "rd";exact h
abbrev Yv:Stmt:=top 64
theorem P5:#[r,["_law_cell_here","_law_many","_law_step"],["_law_cell_here","_law_many"],Yv]:=fnS
@[irreducible] def V4:List Expr:=zex (zah (Oq (Xn (Zv Yv) 0)))
@[irreducible] def P6:Pos:=zey (zah (Oq (Xn (Zv Yv) 0)))
theorem Km:Zv Yv=[.Assign (zhd (Xn (Zv Yv) 0)) (.Subscript (.List V4 P6) (zi0 (Oq (Xn (Zv Yv) 0))) (zi1 (Oq (Xn (Zv Yv) 0)))) (stP (Xn (Zv Yv) 0)),Xn (Zv Yv) 1]:=by unfold V4 P6;kernel_rfl
theorem Kn:Gd V4 [1,2,5,10,100,500,998]:=by unfold V4;exact⟨by kernel_rfl,by kernel_rfl⟩
theorem Fg(F:#[k,"_law_numbers","_law_numbers",Yv])(T:#[n]):FnOk P w K mg base #[i] 1 f fd ["_law_cell_here","_law_many"] Hh:=by
 refine #[o,P5];obtain⟨c,m,rfl,hm,h⟩:=h;rw[Km];refine⟨_,(Zb (pS 2 P5.nd (pI (iL K) (Z1 (Oj [1,2,5,10,100,500,998] Kn)) (Zs Ys (pv 0) Zg)))
 (Zf (Zn (Vb rfl (cT ["_law_cell_here","_law_step"] [0,2]) (Wx rfl T.zpf (Za (pv 1) Zd)) (fun _ _ _ _ _=>Vc) (fun _ _ _ _ _=>(Zs Yr Zg (Zs Ys (Zs Yr (Zs Xc (pv 1) Zg) (Zs Sv (pv 2) (pv 0))) Zg))))))),?_⟩
 refine⟨by show 7<=sizeLine;decide,fun p0 hp0=>?_⟩;walk_at "rd";refine⟨p0,_,_,_,rfl,rfl,SqL.of Zc,Wi (xs:=[1,2,5,10,100,500,998]) ⋯ (by show c%7<7;omega),?_⟩;refine⟨_,rfl,_,rfl,by omega,by omega,Df (fun j=>V.int (numS c j)) (by rw[zxc];exact zw6 hm ⋯) (fun i R hi k=>?_) fun p hp=>?_⟩
 ·rw[zxc] at hi;walk_at "rd";refine⟨.inr ⟨by omega,by omega⟩,?_⟩;walk_at "rd";rw[zyq];exact k
 ·rw[zxc];refine h p _ ?_ ((Ze hp0).trans (Ze hp)) ((Ze hp0).free hp);rw[Zc];unfold Kx;rw[zx1];rfl
abbrev Xb:Stmt:=top 65
theorem M8:#[r,["_law_cell_here","_law_many","_law_step"],["_law_cell_here","_law_many"],Xb]:=fnS
@[irreducible] def Td:List Expr:=zex (zah (Oq (Xn (Zv Xb) 0)))
@[irreducible] def M9:Pos:=zey (zah (Oq (Xn (Zv Xb) 0)))
theorem Fh:Zv Xb=[.Assign (zhd (Xn (Zv Xb) 0)) (.Subscript (.List Td M9) (zi0 (Oq (Xn (Zv Xb) 0))) (zi1 (Oq (Xn (Zv Xb) 0)))) (stP (Xn (Zv Xb) 0)),Xn (Zv Xb) 1]:=by unfold Td M9;kernel_rfl
theorem Fi:Gd Td [1,2,5,10,50,97,98]:=by unfold Td;exact⟨by kernel_rfl,by kernel_rfl⟩
theorem Bm(F:#[k,"_law_clubs","_law_clubs",Xb])(T:#[n]):FnOk P w K mg base #[i] 1 f fd ["_law_cell_here","_law_many"] zc3:=by
 refine #[o,M8];obtain⟨c,m,rfl,hm,h⟩:=h;rw[Fh];refine⟨_,(Zb (pS 2 M8.nd (pI (iL K) (Z1 (Oj [1,2,5,10,50,97,98] Fi)) (Zs Ys (pv 0) Zg)))
 (Zf (Zn (Vb rfl (cT ["_law_cell_here","_law_step"] [0,2]) (Wx rfl T.zpf (Za (pv 1) Zd)) (fun _ _ _ _ _=>Vc) (fun _ _ _ _ _=>(Zs Yr Zg (Zs Ys (Zs Yr (Zs Xc (pv 1) Zg) (Zs Sv (pv 2) (pv 0))) Zg))))))),?_⟩
 refine⟨by show 7<=sizeLine;decide,fun p0 hp0=>?_⟩;walk_at "rd";refine⟨p0,_,_,_,rfl,rfl,SqL.of Zc,Wi (xs:=[1,2,5,10,50,97,98]) ⋯ (by show c%7<7;omega),?_⟩;refine⟨_,rfl,_,rfl,by omega,by omega,Df (fun j=>V.int (Dj c j)) (by rw[zxc];exact zw6 hm ⋯) (fun i R hi k=>?_) fun p hp=>?_⟩
 ·rw[zxc] at hi;walk_at "rd";refine⟨.inr ⟨by omega,by omega⟩,?_⟩;walk_at "rd";rw[zyq];exact k
 ·rw[zxc];refine h p _ ?_ ((Ze hp0).trans (Ze hp)) ((Ze hp0).free hp);rw[Zc];unfold Pd;rw[zx1];rfl
abbrev Qp:Stmt:=top 66
theorem Ep:#[r,["_law_found","_law_due"],["_law_found","_law_due"],Qp]:=fnS
theorem Er(F:#[k,"_law_one_is","_law_one_is",Qp])(T:#[n])(zru:Ya P w K mg base "_law_whole" 1 ["_law_found"] zc1):FnOk P w K mg base #[i] 2 f fd ["_law_found","_law_due"] Cp:=by
 refine #[o,Ep];obtain⟨x,rfl,hx,h⟩:=h;refine#[al,_,Bs (Zo Pa (pv 1) Y1 (Zu _)) (Vr Pa (pv 0) Y1 (Zu _)) (Cb (pF zru hr (Za (pv 0) Zd)) (Ld (Vr Xd (pv 0) (pv 1) (Zu _))))];rcases hx with rfl|⟨i,rfl⟩
 ·refine⟨_,rfl,rfl,_,rfl,?_⟩;refine iteT ?_;exact⟨_,rfl,rfl,h⟩
 ·refine⟨_,rfl,rfl,_,rfl,?_⟩;refine iteF ?_;refine⟨_,rfl,i,rfl,_,rfl,?_⟩;refine iteT ?_;refine⟨_,rfl,_,rfl,rfl,?_⟩;rw[zwy rfl];exact h
abbrev Rh:Stmt:=top 67
theorem P8:#[r,["_law_found","_law_due","_law_k"],["_law_found","_law_due"],Rh]:=fnS
theorem Fj(F:#[k,"_law_list_is","_law_list_is",Rh])(T:#[n])(zph:Ya P w K mg base "_law_one_is" 2 ["_law_found","_law_due"] Cp):FnOk P w K mg base #[i] 3 f fd ["_law_found","_law_due"] (Ae K):=by
 refine #[o,P8];obtain⟨b,c,xs,rfl,hb,hc,ho,hl,h⟩:=h;refine⟨_,(Zb (Z3 (PW.pt (Rk (Q8 (Ss (Zq (Yo (K:=K) rfl) (by rfl) T.zn5 PyProof.Rows.boot_isinstance (Za (pv 0) (Za (Ib rfl T.zpx PyProof.Rows.boot_list (show RelV (.ty "list") _ from rfl)) Zd))))) (V9 (Zo Bx (Zq (cL K) (by rfl) T.zoi PySem.boot_len (Za (pv 0) Zd)) (Zq (cL K) (by rfl) T.zoi PySem.boot_len (Za (pv 1) Zd)) (Zu _)))))
  (Zf (Zn Rj))
  Zt)
 (Zb (Xo PassesOwn.leaving rfl (Wx rfl T.zpf (Za (Zq (cL K) (by rfl) T.zoi PySem.boot_len (Za (pv 1) Zd)) Zd)) (pN 2 P8.nd)
  (Zf (Z3 (Q8 (Ss (pF zph hr (Za (pI (iL K) (pv 0) (pv 2)) (Za (pI (iL K) (pv 1) (pv 2)) Zd)))))
   (Zf (Zn Rj))
   Zt)))
 (Zf (Zn Rj)))),?_⟩
 refine⟨_,rfl,_,_,_,_,rfl,.of (.lst hb),.inl ⟨_,rfl⟩,zkq K,_,rfl,?_⟩;refine iteF ?_;refine⟨_,rfl,b,_,rfl,#[L,hb],_,rfl,c,_,rfl,.inl hc,rfl,_,rfl,?_⟩;rw[zwy rfl];refine iteF ?_;refine⟨_,rfl,c,_,rfl,.inl hc,_,rfl,by omega,by omega,Ua (fun i σ H'=>H'=H/\(∃ v,σ=[some (.ref b),some (.ref c),v])) ⟨rfl,#[C,_]⟩ (fun i σ H' hi ⟨e,⟨v,hv⟩⟩=>?_) fun σ H' ⟨e,⟨v,hv⟩⟩=>?_⟩
 ·subst e hv;rw[zxc] at hi;have h1:xs[i]?=some (xs[i]'hi):=zws hi;rw[zyq];refine⟨_,rfl,_,rfl,b,_,_,_,rfl,rfl,SqL.of hb,Zz h1,_,rfl,_,rfl,c,_,_,_,rfl,rfl,hc,Zz h1,_,rfl,ho _ (zxp hi),_,rfl,?_⟩;exact iteF ⟨rfl,#[C,_]⟩
 ·subst e hv;exact h
abbrev P9:Stmt:=top 68
theorem Lb:#[r,["_law_rounds","_law_rest_here","_law_page"],["_law_rounds","_law_rest_here"],P9]:=fnS
theorem Bn(F:#[k,"_law_first","_law_first",P9])(T:#[n]):FnOk P w K mg base #[i] 1 f fd ["_law_rounds","_law_rest_here"] zdp:=by
 refine #[o,Lb];obtain⟨r,q,rfl,h⟩:=h;have hu:=X8 hr;refine⟨_,(Zb (pS 2 Lb.nd (zcr (Tj Zl (pv 0) (Tj Zl (pv 1) (Tj Zl (Z1 Zd) (Tj Zl (Z1 Zd) (Tj Zl (Z1 Zd) (Tj Zl Y1 zcq)))))) rfl rfl (by simp) ⋯))
 (Zb (Y2 hu (pv 2) Zl Y1 rfl)
 (Zb (Y2 hu (pv 2) Zl (Z1 Zd) rfl)
 (Zb (Y2 hu (pv 2) Zl (Z1 Zd) rfl)
 (Zf (Zn (pv 2))))))),?_⟩
 have sz0:([]:List V).length<=sizeLine:=zxk _;refine fun p fp=>?_;have s1:=Ze (o:=.dK []) fp;have p1:(upd H p (.dK [])) p=#[c,.dK,[]]:=Zc;generalize upd H p (.dK [])=H1 at s1 p1 ⊢;refine⟨_,rfl,_,rfl,sz0,fun l1 f1=>?_⟩;have s2:=Ze (o:=.lst []) f1;have a1:#[y,upd H1 l1 (.lst []),l1,[]]:=Zc;have n1:l1≠p:=fun z=>by rw[z,p1] at f1;cases f1
 generalize upd H1 l1 (.lst [])=H2 at s2 a1 ⊢;refine⟨sz0,fun l2 f2=>?_⟩;have s3:=Ze (o:=.lst []) f2;have a2:#[y,upd H2 l2 (.lst []),l2,[]]:=Zc;have n2:l2≠p:=fun z=>by rw[z,s2 _ _ p1] at f2;cases f2
 generalize upd H2 l2 (.lst [])=H3 at s3 a2 ⊢;refine⟨sz0,fun l3 f3=>?_⟩;have s4:=Ze (o:=.lst []) f3;have a3:#[y,upd H3 l3 (.lst []),l3,[]]:=Zc;have n3:l3≠p:=fun z=>by rw[z,#[N,s3,s2,p1]] at f3;cases f3
 generalize upd H3 l3 (.lst [])=H4 at s4 a3 ⊢;refine⟨s4 _ _ #[N,s3,s2,p1],pg6 r q l1 l2 l3 .non,rfl,(show 6<=15 by decide),?_⟩;rw[ze0];have s5:=Yd (o:=.dK (pg6 r q l1 l2 l3 .non)) fp (s1.trans (s2.trans (s3.trans s4)));have p5:(upd H4 p (.dK (pg6 r q l1 l2 l3 .non))) p=#[c,.dK,pg6 r q l1 l2 l3 .non]:=Zc;have b1:#[y,upd H4 p (.dK (pg6 r q l1 l2 l3 .non)),l1,[]]:=by rw[Zi n1];exact #[N,s4,s3,a1]
 have b2:#[y,upd H4 p (.dK (pg6 r q l1 l2 l3 .non)),l2,[]]:=by rw[Zi n2];exact s4 _ _ a2
 have b3:#[y,upd H4 p (.dK (pg6 r q l1 l2 l3 .non)),l3,[]]:=by rw[Zi n3];exact a3
 generalize upd H4 p (.dK (pg6 r q l1 l2 l3 .non))=H5 at s5 p5 b1 b2 b3 ⊢;walk_at "if";refine#[ac,_,p,_,DPut.k (k:=inr "listed") p5 (Lz (x:=.non) (y:=.non)).1,?_];have s6:=Yd (o:=.dK (putK (pg6 r q l1 l2 l3 .non) (.inr "listed") .non)) fp s5;have p6:(upd H5 p (.dK (putK (pg6 r q l1 l2 l3 .non) (.inr "listed") .non))) p=#[c,.dK,putK (pg6 r q l1 l2 l3 .non) (.inr "listed") .non]:=Zc;have c1:=(Zi (H:=H5) (o:=.dK (putK (pg6 r q l1 l2 l3 .non) (.inr "listed") .non)) n1).trans b1;have c2:=(Zi (H:=H5) (o:=.dK (putK (pg6 r q l1 l2 l3 .non) (.inr "listed") .non)) n2).trans b2;have c3:=(Zi (H:=H5) (o:=.dK (putK (pg6 r q l1 l2 l3 .non) (.inr "listed") .non)) n3).trans b3;generalize upd H5 p (.dK (putK (pg6 r q l1 l2 l3 .non) (.inr "listed") .non))=H6 at s6 p6 c1 c2 c3 ⊢;refine⟨sz0,fun l4 f4=>?_⟩;have s7:=Ze (o:=.lst []) f4;have a4:#[y,upd H6 l4 (.lst []),l4,[]]:=Zc;have n4:l4≠p:=fun z=>by rw[z,p6] at f4;cases f4
 generalize upd H6 l4 (.lst [])=H7 at s7 a4 ⊢;refine#[ac,_,p,_,DPut.k (k:=inr "goes") (s7 _ _ p6) (Lz (y:=.non)).2.1,?_];have s8:=Yd (o:=.dK (putK (putK (pg6 r q l1 l2 l3 .non) (.inr "listed") .non) (.inr "goes") (.ref l4))) fp (s6.trans s7);have p8:(upd H7 p (.dK (putK (putK (pg6 r q l1 l2 l3 .non) (.inr "listed") .non) (.inr "goes") (.ref l4)))) p=#[c,.dK,putK (putK (pg6 r q l1 l2 l3 .non) (.inr "listed") .non) (.inr "goes") (.ref l4)]:=Zc;have d1:=(Zi (H:=H7) (o:=.dK (putK (putK (pg6 r q l1 l2 l3 .non) (.inr "listed") .non) (.inr "goes") (.ref l4))) n1).trans (s7 _ _ c1);have d2:=(Zi (H:=H7) (o:=.dK (putK (putK (pg6 r q l1 l2 l3 .non) (.inr "listed") .non) (.inr "goes") (.ref l4))) n2).trans (s7 _ _ c2);have d3:=(Zi (H:=H7) (o:=.dK (putK (putK (pg6 r q l1 l2 l3 .non) (.inr "listed") .non) (.inr "goes") (.ref l4))) n3).trans (s7 _ _ c3);have d4:=(Zi (H:=H7) (o:=.dK (putK (putK (pg6 r q l1 l2 l3 .non) (.inr "listed") .non) (.inr "goes") (.ref l4))) n4).trans a4;generalize upd H7 p (.dK (putK (putK (pg6 r q l1 l2 l3 .non) (.inr "listed") .non) (.inr "goes") (.ref l4)))=H8 at s8 p8 d1 d2 d3 d4 ⊢;refine⟨sz0,fun l5 f5=>?_⟩;have s9:=Ze (o:=.lst []) f5;have a5:#[y,upd H8 l5 (.lst []),l5,[]]:=Zc;have n5:l5≠p:=fun z=>by rw[z,p8] at f5;cases f5
 generalize upd H8 l5 (.lst [])=H9 at s9 a5 ⊢;refine#[ac,_,p,_,DPut.k (k:=inr "moves") (s9 _ _ p8) Lz.2.2,?_];rw[zi3];refine#[t,_,h p _ ?_ (Yd fp (s8.trans s9)) fp];have fr:∀ x,H4 x=none->H x=none:=fun x hx=>s1.free (s2.free (s3.free (s4.free hx)));exact⟨l1,l2,l3,.non,.non,l4,l5,[],[],[],[],Zc,(Zi n1).trans (s9 _ _ d1),.nil,(Zi n2).trans (s9 _ _ d2),.nil,(Zi n3).trans (s9 _ _ d3),.nil,rfl,rfl,(Zi n4).trans (s9 _ _ d4),(Zi n5).trans a5,.nil,
  fp,s1.free f1,s1.free (s2.free f2),s1.free (s2.free (s3.free f3)),s6.free f4,s8.free f5⟩
abbrev Ko:Stmt:=top 69
theorem Vn:#[r,["_law_page","_law_met_here","_law_listed","_law_goes","_law_moves","_law_may","_law_k"],["_law_page"],Ko]:=fnS
theorem zcg(F:#[k,"_law_met","_law_met",Ko])(T:#[n]):FnOk P w K mg base #[i] 1 f fd ["_law_page"] (zdq K):=by
 refine #[o,Vn];obtain⟨ok,d,P0,rfl,PA,PO,h⟩:=h;have hu:=X8 hr;refine⟨_,(Zb (pS 1 Vn.nd Iy)
 (Zb (Xo PassesOwn.leaving rfl (Yh (K:=K) rfl (B5 (Ac (K:=K) rfl) (pD hu (pv 0) Zl) (zct (Zq (E4 rfl) (by rfl) T.zt1 PyProof.Rows.boot_max (Za Zg (Za (Zs Q9 (Zq (cL K) (by rfl) T.zoi PySem.boot_len (Za (pD hu (pv 0) Zl) Zd)) (pD hu (pv 0) Zl)) Zd)))) zcs)) (Wy (K:=K) (n:=4) rfl rfl (Z9 (pN 2 Vn.nd) (Z9 (pN 3 Vn.nd) (Z9 (pN 4 Vn.nd) (Z9 (pN 5 Vn.nd) Ww)))))
  (Zf (Xo PassesOwn.leaving rfl (Wx rfl T.zpf (Za (Zq (cL K) (by rfl) T.zoi PySem.boot_len (Za (pv 2) Zd)) Zd)) (pN 6 Vn.nd)
   (Zf (Z3 (Zo Uv (pI (iL K) (pv 3) (pv 6)) Y1 (Zu _))
    (Zb (Y2 hu (pv 1) (Yc (Za (pI (iL K) (pv 3) (pv 6)) (Za (pI (iU K) (pI (iL K) (pv 2) (pv 6)) Zg) Zd))) Rj rfl)
    (Zf (Y2 hu (pv 1) (Yc (Za (pI (iL K) (pv 3) (pv 6)) (Za (pI (iU K) (pI (iL K) (pv 2) (pv 6)) Zg) Zd))) Rj rfl)))
    Zt)))))
 (Zf (Zn (pv 1))))),?_⟩
 obtain⟨lp,lo,lv,dv,li,lg,lm,pts,ots,vts,mts,a1,a2,a3,a4,a5,a6,a7,a8,a9,b1,b2,b3,o1,o2,o3,o4,o5,o6⟩:=PA;refine fun m fm=>?_;have s1:=Ze (o:=.dT []) fm;have m1:(upd H m (.dT [])) m=#[c,.dT,[]]:=Zc;generalize upd H m (.dT [])=H1 at s1 m1 ⊢;walk_at "if";refine#[ac,_,d,_,DGet.k (k:=.inr "over") (s1 _ _ a1),?_];refine⟨_,rfl,d,_,rfl,DGet.k (k:=.inr "over") (s1 _ _ a1),lv,vts,rfl,#[L,s1 _ _ a6],_,rfl,d,_,rfl,DGet.k (k:=.inr "rest") (s1 _ _ a1),_,_,rfl,rfl,_,_,rfl,_,rfl,lv,vts,rfl,SqL.of (s1 _ _ a6),fun c fc=>?_⟩;have e0:=zhh vts vts.length P0.rest;rw[a7.length] at e0;have ez:(vts.length:Int)=(P0.over.length:Int):=by rw[a7.length]
 rw[ez,e0];obtain⟨k0,hk0⟩:∃ k:Nat,k=((P0.over.length:Int)-P0.rest).toNat:=#[C,_];rw[<- hk0];have s2:=Ze (o:=.lst (vts.drop k0)) fc;have c2:(upd H1 c (.lst (vts.drop k0))) c=some (.lst (vts.drop k0)):=Zc;have ncm:c≠m:=fun z=>by rw[z,m1] at fc;cases fc
 have OV:Xh ok (upd H1 c (.lst (vts.drop k0))) (vts.drop k0) (P0.over.drop k0):=(a7.drop k0).keep (fun x o _ z=>#[N,s2,s1,z]) fun x o z=>#[N,s2,s1,z];have m2:=s2 _ _ m1;generalize upd H1 c (.lst (vts.drop k0))=H2 at s2 c2 OV m2 ⊢;have hin:∀ s∈P0.over.drop k0,s∈P0.over:=fun s hs=>List.mem_of_mem_drop hs;have hlen:(P0.over.drop k0).length<=100:=by rw[List.length_drop];have:=PO.1;omega
 generalize vts.drop k0=ds at c2 OV ⊢;refine⟨c,rfl,⟨_,SqL.of c2⟩,Wh (K:=K) (a:=c) (xs:=ds) (fun i σ H'=>(∃ v1 v2 v3 v4 v5,σ=[#[b,d],#[b,m],v1,v2,v3,v4,v5])/\(∀ x o,H2 x=#[d]->x≠m->H' x=#[d]) /\
  ∃ kvs,H' m=#[c,.dT,kvs]/\Nm kvs (P0.over.drop k0) i 0/\kvs.length<=40*i) ⟨⟨_,_,_,_,_,rfl⟩,fun _ _ e _=>e,[],m2,.zero _,by simp⟩ (fun i σ H' _ ⟨_,k,_⟩=>SqL.of (k _ _ c2 ncm)) ?_ ?_⟩
 ·rintro i x σ H' hx ⟨⟨v1,v2,v3,v4,v5,rfl⟩,k2,kvs,hm,mi,kl⟩;obtain⟨t,l,g,mm,y,ts,s,rfl,hs,ht,hl,tl,hg,_,_⟩:=OV.get hx;have htn:t≠m:=#[aq,Yz,ht,m2];have hln:l≠m:=#[aq,Yz,hl,m2];have hgn:g≠m:=#[aq,Yz,hg,m2];refine⟨t,_,rfl,SqT.of (k2 _ _ ht htn),rfl,_,_,rfl,_,_,rfl,_,_,rfl,_,_,rfl,rfl,?_⟩;have hsz:=PO.2.2 s (hin s (zw4 hs));have hi:i<ds.length:=(zwr.mp hx).1;have hdl:=OV.length;have tln:ts.length=s.ms.length:=by rw[tl.length,zwq]
  have rln:(Yj s).length=s.ms.length:=by unfold Yj;rw[List.length_zipWith,hsz.2.1,Nat.min_self]
  refine⟨_,rfl,l,ts,rfl,#[L,k2 _ _ hl hln],_,rfl,by omega,by omega,Ua (fun j σ H'=>(∃ v,σ=[#[b,d],#[b,m],#[b,l],#[b,g],#[b,mm],#[b,y],v])/\(∀ x o,H2 x=#[d]->x≠m->H' x=#[d]) /\
   ∃ kvs,H' m=#[c,.dT,kvs]/\Nm kvs (P0.over.drop k0) i j/\kvs.length<=40*i+2*j) ⟨⟨_,rfl⟩,k2,kvs,hm,mi,by omega⟩ ?_ ?_⟩
  ·rintro j σ H3 hj ⟨⟨v,rfl⟩,k3,kvs3,hm3,mi3,kl3⟩;rw[zxc] at hj;rw[zyq];have hj2:j<s.gv.length:=by omega
   have hg3:s.gv[j]?=some (s.gv[j]'hj2):=zws hj2;have hone:=hsz.2.2 _ (zxp hj2);generalize s.gv[j]'hj2=xv at hg3 hone;have ht3:ts[j]?=some (ts[j]'hj):=zws hj;obtain⟨tj,mj,e1,hmj,htj⟩:=Jg tl ht3;rw[e1] at ht3;have htjn:tj≠m:=#[aq,Yz,htj,m2];have hr3:(Yj s)[j]?=some (Ay mj xv):=by unfold Yj;rw[List.getElem?_zipWith,hmj,hg3]
   refine⟨_,rfl,_,rfl,g,_,_,_,rfl,rfl,SqL.of (k3 _ _ hg hgn),Zz hg3,rfl,_,rfl,?_⟩;rcases hone with rfl|⟨w,rfl⟩
   ·refine iteF ?_;exact⟨#[C,_],k3,kvs3,hm3,mi3.none hs hr3 rfl,by omega⟩
   ·refine iteT ?_;refine⟨_,rfl,_,rfl,_,rfl,g,_,_,_,rfl,rfl,SqL.of (k3 _ _ hg hgn),Zz hg3,?_⟩;have big:∀ n:Nat,n<=200000->n<sizeLine:=fun n hn=>Nat.lt_trans (zyc hn ⋯) Tr;refine⟨_,rfl,_,rfl,l,_,_,_,rfl,rfl,SqL.of (k3 _ _ hl hln),Zz ht3,tj,_,_,_,rfl,rfl,SqT.of (k3 _ _ htj htjn),rfl,sz2,fun t2 ht2=>⟨m,_,rfl,DPut.t (k:=[inl w,inl mj.1]) (by rw[Zi (Zh hm3 ht2)];exact hm3) Zc (big _ ⋯),?_⟩⟩;have k4:∀ x o,H2 x=#[d]->x≠m->upd (upd H3 t2 (.tup #[Q,w,mj.1])) m (.dT (putK kvs3 [inl w,inl mj.1] (.bl true))) x=#[d]:=fun x o e n=>by
     have:=k3 x o e n;rw[Zi n,Zi (Zh this ht2)];exact this
    have hm4:upd (upd H3 t2 (.tup #[Q,w,mj.1])) m (.dT (putK kvs3 [inl w,inl mj.1] (.bl true))) m=#[c,.dT,putK kvs3 [inl w,inl mj.1] (.bl true)]:=Zc;have l4:=Xs kvs3 ([inl w,inl mj.1]:List Key) (.bl true);generalize upd (upd H3 t2 (.tup [.int w,.int mj.1])) m (.dT (putK kvs3 [inl w,inl mj.1] (.bl true)))=H4 at k4 hm4 ⊢;refine⟨_,rfl,_,rfl,_,rfl,g,_,_,_,rfl,rfl,SqL.of (k4 _ _ hg hgn),Zz hg3,?_⟩;refine⟨_,rfl,_,rfl,l,_,_,_,rfl,rfl,SqL.of (k4 _ _ hl hln),Zz ht3,tj,_,_,_,rfl,rfl,SqT.of (k4 _ _ htj htjn),rfl,sz2,fun t4 ht4=>⟨m,_,rfl,DPut.t (k:=[inl w,inl mj.2.1]) (by rw[Zi (Zh hm4 ht4)];exact hm4) Zc (big _ ⋯),?_⟩⟩;have l5:=Xs (putK kvs3 ([inl w,inl mj.1]:List Key) (.bl true)) ([inl w,inl mj.2.1]:List Key) (.bl true);refine⟨#[C,_],fun x o e n=>?_,_,Zc,mi3.some hs hr3 rfl,by omega⟩;have:=k4 x o e n;rw[Zi n,Zi (Zh this ht4)];exact this
  ·rintro σ H3 ⟨⟨v,rfl⟩,k3,kvs3,hm3,mi3,kl3⟩;rw[zxc] at mi3 kl3;rw[tln,<- rln] at mi3;exact⟨⟨_,_,_,_,_,rfl⟩,k3,kvs3,hm3,mi3.next hs,by omega⟩
 ·rintro σ H' ⟨⟨v1,v2,v3,v4,v5,rfl⟩,k2,kvs,hm,mi,kl⟩;rw[OV.length] at mi;refine#[t,_,h m kvs H' hm (mi.all hk0) (fun x o e=>k2 _ _ #[N,s2,s1,e] (Zh e fm)) fm]
abbrev N4:Stmt:=top 70
theorem Wa:#[r,["_law_page","_law_met_here","_law_person","_law_match","_law_number","_law_grade","_law_club","_law_home","_law_guest","_law_asked","_law_told"],["_law_page","_law_met_here","_law_person","_law_match"],N4]:=fnS
theorem zaw(F:#[k,"_law_bars","_law_bars",N4])(T:#[n]):FnOk P w K mg base #[i] 1 f fd ["_law_page","_law_met_here","_law_person","_law_match"] (zan K):=by
 refine #[o,Wa];obtain⟨ok,d,m,t1,t2,P0,kvs,x,y,rfl,PA,hm,mo,h1,h2,h⟩:=h;have hu:=X8 hr;refine⟨_,(Zb (Iq (pv 2) (Wy (K:=K) (n:=3) rfl rfl (Z9 (pN 4 Wa.nd) (Z9 (pN 5 Wa.nd) (Z9 (pN 6 Wa.nd) Ww)))))
 (Zb (Iq (pv 3) (Wy (K:=K) (n:=3) rfl rfl (Z9 (pN 7 Wa.nd) (Z9 (pN 8 Wa.nd) (Z9 (pN 9 Wa.nd) Ww)))))
 (Zb (pS 10 Wa.nd (Z1 Zd))
 (Zb (Z3 (Zo (C6 (K:=K) rfl hr.units) (Yc (Za (Zs Yr (Zq (cL K) (by rfl) T.zoi PySem.boot_len (Za (pD hu (pv 0) Zl) Zd)) Zg) (Za (pv 4) Zd))) (pD hu (pv 0) Zl) (by with_unfolding_all rfl))
  (Zf (Y5 (pv 10) Zl))
  Zt)
 (Zb (Z3 (Zo Ti (pv 9) (pv 5) (Zu _))
  (Zf (Y5 (pv 10) Zl))
  Zt)
 (Zb (Z3 (PW.pt (Rk (Zo Xd (pv 6) (pv 7) (Zu _)) (V9 (Zo Xd (pv 6) (pv 8) (Zu _)))))
  (Zf (Y5 (pv 10) Zl))
  Zt)
 (Zb (Z3 (PW.pt (Rk (R4 (O7 hu (Yc (Za (pv 4) (Za (pv 7) Zd))) (pv 1))) (V9 (R4 (O7 hu (Yc (Za (pv 4) (Za (pv 8) Zd))) (pv 1))))))
  (Zf (Y5 (pv 10) Zl))
  Zt)
 (Zf (Zn (pv 10)))))))))),?_⟩
 show let y1:TS:=_;let y2:TS:=Zx _ y1;let y3:TS:=Zx _ y2;let y4:TS:=Zx _ y3;let y5:TS:=Zx _ y4;let y6:TS:=Zx _ y5;let y7:TS:=Zx _ y6;Zx _ y7 _ _ _;intro y1 y2 y3 y4 y5 y6 y7;obtain⟨n,g,c⟩:=x;obtain⟨ho,gu,as⟩:=y;have h1:#[R,H,t1,#[S,.int n,g,c]]:=h1;have h2:#[R,H,t2,#[S,.int ho,gu,as]]:=h2;obtain⟨lp,lo,lv,dv,li,lg,lm,pts,ots,vts,mts,a1,a2,a3,a4,a5,a6,a7,a8,a9,c1,c2,c3,o1,o2,o3,o4,o5,o6⟩:=PA;refine⟨_,rfl,t1,_,rfl,SqT.of h1,rfl,_,_,rfl,_,_,rfl,_,_,rfl,rfl,?_⟩;refine⟨_,rfl,t2,_,rfl,SqT.of h2,rfl,_,_,rfl,_,_,rfl,_,_,rfl,rfl,?_⟩;refine#[ap,fun l hl=>?_];have s1:=Ze (o:=.lst []) hl;have q1:upd H l (.lst []) l=some (.lst (([]:List Str).map V.str)):=Zc;generalize upd H l (.lst [])=H1 at s1 q1;walk_at "if";have b1:=Ls (decide (((P0.over.length:Int)+1,n)∈P0.out)) "away";have b2:=Ls (decide (g<as)) "grade";have b3:=Ls (#[j,c=ho]||#[j,c=gu]) "club";refine Sg (b:=decide (((P0.over.length:Int)+1,n)∈P0.out)) (H0:=H) (fun Q q=>?_) hl s1 q1 ⋯ rfl fun H2 s2 q2 _=>?_
 ·refine⟨_,rfl,d,_,rfl,DGet.k (k:=.inr "over") (s1 _ _ a1),lv,vts,rfl,#[L,s1 _ _ a6],_,_,rfl,rfl,_,rfl,sz2,fun t ht=>?_⟩;have s3:=Ze (o:=.tup [.int ((vts.length:Int)+1),.int n]) ht;refine⟨_,rfl,d,_,rfl,DGet.k (k:=.inr "out") #[N,s3,s1,a1],t,lo,ots,_,_,P0.out,rfl,rfl,SqT.of Zc,SqL.of (s3 _ _ (s1 _ _ a4)),a5.mono fun _ _ z=>#[N,s3,s1,z],_,rfl,?_⟩;rw[a7.length] at s3 ⊢;exact q _ s3
 rw[List.nil_append] at q2;have din:∀ (H3:Hp) (cc:Int) (Q3:Bool->Hp->Prop),Same H H3->(∀ H4,Same H3 H4->Q3 (Qs (P0.over.map Yj) n cc P0.rest) H4)->∀ t,H3 t=none->Q3 (valV kvs [inl n,inl cc]).isSome (upd H3 t (.tup #[Q,n,cc])):=fun H3 cc Q3 s3 q3 t ht=>by
  rw[mo n cc];exact q3 _ (Ze ht)
 refine Sg (b:=decide (g<as)) (H0:=H) (Wz fun Q q=>⟨_,rfl,_,rfl,_,_,rfl,rfl,_,rfl,q⟩) hl s2 q2 ⋯ rfl fun H3 s3 q3 _=>?_;refine Sg (b:=decide (c=ho)||decide (c=gu)) (H0:=H) (Wz (Mf (fun Q q=>⟨_,rfl,_,rfl,rfl,_,rfl,Pb▸q⟩) fun Q q=>⟨_,rfl,_,rfl,rfl,_,rfl,Pb▸q⟩)) hl s3 q3 (by rw[zwt];omega) rfl fun H4 s4 q4 _=>?_;refine Sg (b:=Qs (P0.over.map Yj) n ho P0.rest||Qs (P0.over.map Yj) n gu P0.rest) (H0:=H) (Hj (fun Q q=>?_) fun H5 s5 Q q=>?_) hl s4 q4 (by rw[zwt,zwt];omega) rfl fun H5 s5 q5 _=>?_
 ·exact⟨_,rfl,_,rfl,sz2,fun t ht=>⟨_,rfl,m,_,rfl,DGet.t (k:=[inl n,inl ho]) (Ze ht _ _ (s4 _ _ hm)) Zc,_,rfl,din _ ho _ s4 q t ht⟩⟩
 ·exact⟨_,rfl,_,rfl,sz2,fun t ht=>⟨_,rfl,m,_,rfl,DGet.t (k:=[inl n,inl gu]) (Ze ht _ _ #[N,s5,s4,hm]) Zc,_,rfl,din _ gu _ (s4.trans s5) q t ht⟩⟩
 refine#[t,_,h l H5 ?_ s5 hl];unfold Ot whyS;rw[q5,zyf,zyf]
abbrev N5:Stmt:=top 71
theorem U0:#[r,["_law_page","_law_met_here","_law_may","_law_match","_law_fit"],["_law_page"],N5]:=fnS
theorem zax(F:#[k,"_law_open","_law_open",N5])(T:#[n])(zsr:Ya P w K mg base "_law_met" 1 ["_law_page"] (zdq K))(zsc:Ya P w K mg base "_law_bars" 1 ["_law_page","_law_met_here","_law_person","_law_match"] (zan K)):FnOk P w K mg base #[i] 2 f fd ["_law_page"] (zhi K):=by
 refine #[o,U0];obtain⟨ok,d,P0,ms,rfl,PA,PO,hms,hl1,hl2,h⟩:=h;have hu:=X8 hr;refine⟨_,(Zb (pS 1 U0.nd (pF zsr hr (Za (pv 0) Zd)))
 (Zb (pS 2 U0.nd (Z1 Zd))
 (Zb (Xo PassesOwn.leaving rfl (Yh (K:=K) rfl (pD hu (pv 0) Zl)) (pN 3 U0.nd)
  (Zb (Vp (i:=4) U0.nd rfl rfl rfl (cT ["_law_page","_law_met_here","_law_match"] [0,1,3]) (Yh (K:=K) rfl (pD hu (pv 0) Zl)) (fun _ _ _ _ _=>R8 (Zo (ziq (K:=K) rfl hr.units) (Dg zsc (hr.mono ⋯) zcz rfl (Za (pv 1) (Za (pv 2) (Za (pv 0) (Za (pv 3) Zd))))) (Z1 Zd) (Zu _))) (fun _ _ _ _ _=>(pv 0)))
  (Zf (Y5 (pv 2) (Vb rfl (cT [] []) (Yh (K:=K) rfl (pv 4)) (fun _ _ _ _ _=>Vc) (fun _ _ _ _ _=>(pI (iU K) (pv 0) Zg)))))))
 (Zf (Zn (pv 2)))))),?_⟩
 refine⟨_,rfl,ok,d,P0,rfl,PA,PO,fun m kvs H1 hm mo s1 fm=>?_⟩;obtain⟨lp,lo,lv,dv,li,lg,lm,pts,ots,vts,mts,a1,a2,a3,a4,a5,a6,a7,a8,a9,c1,c2,c3,o1,o2,o3,o4,o5,o6⟩:=id PA;refine#[ap,fun r hr'=>?_];have s2:=s1.trans (Ze (o:=.lst []) hr');have q2:upd H1 r (.lst []) r=#[c,.lst,[]]:=Zc;have hm2:upd H1 r (.lst []) m=#[c,.dT,kvs]:=Ze hr' _ _ hm;have fr:=s1.free hr';walk_at "if";generalize upd H1 r (.lst [])=H2 at s2 q2 hm2 ⊢;rw[hms] at a9;obtain⟨ll,ts,rfl,hll,tl,_⟩:=a9;have htl:ts.length=ms.length:=by rw[tl.length,zwq]
 have hpl:pts.length=P0.ppl.length:=by rw[a3.length,zwq]
 have hmr:m≠r:=fun z=>by rw[z,q2] at hm2;cases hm2
 refine⟨_,rfl,d,_,rfl,DGet.k (k:=.inr "listed") (s2 _ _ a1),ll,rfl,⟨_,SqL.of (s2 _ _ hll)⟩,Wh (K:=K) (a:=ll) (xs:=ts) (fun i σ H'=>(∃ v1 v2,σ=[#[b,d],#[b,m],#[b,r],v1,v2])/\(∀ x o,H2 x=#[d]->x≠r->H' x=#[d]) /\
  ∃ ls,H' r=#[T,ls.map,V.ref]/\ILs H' ls ((Pn P0 ms).take i)/\ls.length=i/\∀ x∈ls,H x=none/\x≠r) ⟨⟨_,_,rfl⟩,fun _ _ e _=>e,[],q2,.nil,rfl,by simp⟩ (fun i σ H' _ ⟨_,k,_⟩=>SqL.of (k _ _ (s2 _ _ hll) (Zh hll fr))) ?_ ?_⟩
 ·rintro i x σ H' hx ⟨⟨v1,v2,rfl⟩,k2,ls,hr3,il,hln,hfr⟩;obtain⟨t,mm,rfl,hmm,ht⟩:=Jg tl hx;have sh:#[q]:=fun x o e=>k2 _ _ (s2 _ _ e) (Zh e fr);refine⟨_,rfl,d,_,rfl,DGet.k (k:=.inr "people") (sh _ _ a1),lp,rfl,⟨_,SqL.of (sh _ _ a2)⟩,?_⟩;refine Xp (K:=K) (a:=lp) (xs:=pts) (fun i ys H''=>Same H' H''/\Yf H'' ys (((P0.ppl.take i).filter fun x=>(Ot P0 x mm).isEmpty).map pV)) ⟨Same.refl _,.nil⟩ (fun i ys H'' _ ⟨z,_⟩=>SqL.of (z _ _ (sh _ _ a2))) (szN ⋯) (fun i ys H' ⟨_,e⟩=>by rw[e.length,zwq];exact zw6 (zxo _ _) (zx5 _ _)) ?_ ?_
  ·rintro j x ys H3 hx3 ⟨s3,tl3⟩;obtain⟨tp,pp,rfl,hpp,htp⟩:=Jg a3 hx3;have sh3:=sh.trans s3;refine⟨_,rfl,_,rfl,_,rfl,_,rfl,ok,d,m,tp,t,P0,kvs,pp,mm,rfl,PA.same sh3,s3 _ _ (k2 _ _ hm2 hmr),mo,sh3 _ _ htp,sh3 _ _ ht,fun lw H4 hlw s4 fw=>?_⟩;refine#[ap,fun le hle=>?_];have s5:=s4.trans (Ze (o:=.lst []) hle);refine⟨_,_,.lst (SqL.of (Ze hle _ _ hlw)) (Qd _),.lst (SqL.of Zc) .nil,C7 _ zi5,zc7,_,rfl,?_⟩;generalize upd H4 le (.lst [])=H5 at s5 ⊢;rw[#[g,(show ¬ false=true by decide)],zc8];have e:P0.ppl.take (j+1)=P0.ppl.take j++[pp]:=X6 hpp;rw[e,zyd,zww];refine itB (fun hb=>?_) fun hb=>?_
   ·refine⟨_,rfl,s3.trans s5,?_⟩;rw[zx7 (p:=fun x=>(Ot P0 x mm).isEmpty) (a:=pp) hb,zyr];exact(tl3.same s5).snoc (s5 _ _ (sh3 _ _ htp))
   ·refine⟨s3.trans s5,?_⟩;rw[zx8 (p:=fun x=>(Ot P0 x mm).isEmpty) (a:=pp) (by rw[hb];decide),zyr,List.map_nil,zy0];exact tl3.same s5
  ·rintro ys H3 ⟨s3,tl3⟩ lf hlf;rw[hpl,zw9] at tl3;have s4:=s3.trans (Ze (o:=.lst ys) hlf);have q4:upd H3 lf (.lst ys) lf=#[c,.lst,ys]:=Zc;have tl4:=tl3.same (Ze (o:=.lst ys) hlf);show X3 4 (V.ref lf) _ (upd H3 lf (.lst ys)) _;generalize upd H3 lf (.lst ys)=H4 at s4 q4 tl4 ⊢;have hfl:ys.length<=100:=by rw[tl3.length,zwq];exact zw6 (zxo _ _) hl2
   walk_at "if";refine⟨_,rfl,r,_,rfl,s4 _ _ hr3,_,rfl,lf,rfl,⟨_,SqL.of q4⟩,Xp (K:=K) (a:=lf) (xs:=ys) (fun i zs H''=>Same H4 H''/\zs=((P0.ppl.filter fun x=>(Ot P0 x mm).isEmpty).take i).map fun x=>V.int x.1) #[C,Same.refl _] (fun i zs H'' _ ⟨z,_⟩=>SqL.of (z _ _ q4)) (szN ⋯) (fun i zs H'' ⟨_,e⟩=>by rw[e,zwq];exact zx5 _ _) ?_ ?_⟩
   ·rintro j x zs H5 hx5 ⟨s5,rfl⟩;obtain⟨tp,pp,rfl,hpp,htp⟩:=Jg tl4 hx5;unfold tYes;dsimp only;rw[#[l,rfl]];refine⟨_,rfl,tp,_,_,_,rfl,rfl,SqT.of (s5 _ _ htp),show atI (pV pp) 0=some _ from rfl,s5,?_⟩;rw[X6 hpp,zww];rfl
   ·rintro zs H5 ⟨s5,rfl⟩ ln hln';have hyl:ys.length=(P0.ppl.filter fun x=>(Ot P0 x mm).isEmpty).length:=by rw[tl3.length,zwq]
    rw[hyl,zw9];have er:(P0.ppl.filter fun x=>(Ot P0 x mm).isEmpty).map (fun x=>V.int x.1)=((P0.ppl.filter fun x=>(Ot P0 x mm).isEmpty).map (·.1)).map V.int:=by rw[zx1];rfl
    rw[er];have s6:=(s4.trans s5).trans (Ze (o:=.lst (((P0.ppl.filter fun x=>(Ot P0 x mm).isEmpty).map (·.1)).map V.int)) hln');have q6:upd H5 ln (.lst (((P0.ppl.filter fun x=>(Ot P0 x mm).isEmpty).map (·.1)).map V.int)) ln=some (.lst (((P0.ppl.filter fun x=>(Ot P0 x mm).isEmpty).map (·.1)).map V.int)):=Zc;have fl:H' ln=none:=(s4.trans s5).free hln';dsimp only;generalize upd H5 ln (.lst (((P0.ppl.filter fun x=>(Ot P0 x mm).isEmpty).map (·.1)).map V.int))=H6 at s6 q6 ⊢;refine⟨_,s6 _ _ hr3,szN (by rw[zwq];have:=(zwr.mp hx).1;omega),⟨_,_,rfl⟩,fun x o e n=>by rw[Zi n];exact s6 _ _ (k2 _ _ e n),ls++[ln],by rw[zww];exact Zc,?_,by rw[zwt,hln];rfl,fun y hy=>?_⟩
    ·have e:(Pn P0 ms).take (i+1)=(Pn P0 ms).take i++[(P0.ppl.filter fun x=>(Ot P0 x mm).isEmpty).map (·.1)]:=by
      unfold Pn;rw[zx9,zwx,hmm];rfl
     rw[e];refine ILs.snoc (by rw[Zi (Zh hr3 fl).symm];exact q6) (il.keep fun x hx' o q=>?_);rw[Zi (hfr x hx').2];exact s6 _ _ q
    ·rcases zw2.mp hy with z|z
     ·exact hfr y z
     ·rw[zwv.mp z];exact⟨sh.free fl,(Zh hr3 fl).symm⟩
 ·rintro σ H' ⟨⟨v1,v2,rfl⟩,k2,ls,hr3,il,hln,hfr⟩;have sh:#[q]:=fun x o e=>k2 _ _ (s2 _ _ e) (Zh e fr);have hml:(Pn P0 ms).length=ms.length:=by unfold Pn;rw[zwq]
  rw[htl,<- hml,zw9] at il;exact#[t,_,h r ls H' hr3 il sh fr fun x hx=>(hfr x hx).1]
abbrev Oa:Stmt:=top 72
theorem Te:#[r,["_law_pages","_law_deed_here","_law_page","_law_at_here","_law_kept"],["_law_pages","_law_deed_here"],Oa]:=fnS
theorem Bo(F:#[k,"_law_paged","_law_paged",Oa])(T:#[n])(zsa:Ya P w K mg base "_law_open" 2 ["_law_page"] (zhi K)):FnOk P w K mg base #[i] 3 f fd ["_law_pages","_law_deed_here"] (C8 K):=by
 refine #[o,Te];obtain⟨ok,l,t,ds,d,P0,D,rfl,hl,PA,hD,PO,hpl,hol,hdl,hcl,h⟩:=h;have hu:=X8 hr;refine⟨_,(Zb (pS 2 Te.nd (Yq zby (by rfl) T.zt7 PyProof.Rows.boot_dict (Za (pI (iL K) (pv 0) (Rl Ub Zg)) Zd)))
 (Zb (pS 3 Te.nd (Zs Yr (Zq (cL K) (by rfl) T.zoi PySem.boot_len (Za (pD hu (pv 2) Zl) Zd)) Zg))
 (Zb (Z3 (Zo Xd (pI (iU K) (pv 1) Zg) Zl (Zu _))
  (Zf (Zn (B5 (Ac (K:=K) rfl) (pv 0) zcs (zct (Rl Ub Zg)))))
  Zt)
 (Zb (Z3 (Zo Xd (pI (iU K) (pv 1) Zg) Zl (Zu _))
  (Zb (pS 4 Te.nd (Yc (Za (pD hu (pv 2) Zl) (Za (pD hu (pv 2) Zl) (Za (pD hu (pv 2) Zl) (Za (pF zsa hr (Za (pv 2) Zd)) Zd))))))
  (Zb (Y2 hu (pv 2) Zl (Zs W2 (pD hu (pv 2) Zl) (Z1 (Za (pv 4) Zd))) rfl)
  (Zb (Y2 hu (pv 2) Zl Y1 rfl)
  (Zb (Y2 hu (pv 2) Zl (Z1 Zd) rfl)
  (Zb (Y2 hu (pv 2) Zl (Z1 Zd) rfl)
  (Zf (Zn (Z1 (Za (pv 2) Zd)))))))))
  Zt)
 (Zb (Z3 (Zo Xd (pI (iU K) (pv 1) Zg) Zl (Zu _))
  (Zb (Y2 hu (pv 2) Zl (Zs W2 (pD hu (pv 2) Zl) (Z1 (Za (Yc (Za (pI (iU K) (pv 1) Zg) (Za (pI (iU K) (pv 1) Zg) (Za (pI (iU K) (pv 1) Zg) Zd)))) Zd))) rfl)
  (Zf (Y2 hu (pv 2) Zl (Yc (Za Zl (Za (pI (iU K) (pv 1) Zg) (Za (pv 3) Zd)))) rfl)))
  (Zf (Z3 (Zo Xd (pI (iU K) (pv 1) Zg) Zl (Zu _))
   (Zb (Y2 hu (pv 2) Zl (pI (iU K) (pv 1) Zg) rfl)
   (Zf (Y2 hu (pv 2) Zl (Yc (Za Zl (Za (Zq (cL K) (by rfl) T.zoi PySem.boot_len (Za (pI (iU K) (pv 1) Zg) Zd)) (Za (pv 3) Zd)))) rfl)))
   (Zb (Y2 hu (pv 2) Zl (Zs W2 (pD hu (pv 2) Zl) (Z1 (Za (Yc (Za (pI (iU K) (pv 1) Zg) (Za (pI (iU K) (pv 1) Zg) Zd))) Zd))) rfl)
   (Zf (Y2 hu (pv 2) Zl (Yc (Za Zl (Za (pI (iU K) (pv 1) Zg) (Za (pI (iU K) (pv 1) Zg) Zd)))) rfl))))))
 (Zf (Zn (Zs W2 (pv 0) (Z1 (Za (pv 2) Zd)))))))))),?_⟩
 show let y1:TS:=_;let y2:TS:=Zx _ y1;let y3:TS:=Zx _ y2;let y4:TS:=Zx _ y3;let y5:TS:=Zx _ y4;let y6:TS:=_;let y7:TS:=Zx _ y6;let y8:TS:=Zx (Ip _ (Zx _ y5) _) y7;let y9:TS:=Zx _ y8;let y10:TS:=Zx _ y9;Zx _ y10 _ _ _;intro y1 y2 y3 y4 y5 y6 y7 y8 y9 y10;obtain⟨lp,lo,lv,dv,li,lg,lm,a1,PB,okd⟩:=id PA.split;have hat:atI ((ds++[d]).map V.ref) (-1)=#[c,V.ref,d]:=by rw[zww];exact L2.atI_last _ _
 refine⟨_,rfl,_,rfl,l,_,_,_,rfl,rfl,SqL.of hl,hat,d,_,rfl,.inl a1,fun d' fd'=>?_⟩;obtain⟨ok1,hok1⟩:∃ ok1:Addr->Prop,ok1=fun x=>ok x\/H x=none:=#[C,_];have okf:∀ x,H x=none->ok1 x:=fun x hx=>by rw[hok1];exact .inr hx
 have oko:∀ x,ok x->ok1 x:=fun x hx=>by rw[hok1];exact .inl hx
 rw[<- hok1] at h;have s1:=Ze (o:=.dK (pgF P0.len P0.rest lp lo lv dv li lg lm)) fd';have q1:upd H d' (.dK (pgF P0.len P0.rest lp lo lv dv li lg lm)) d'=#[c,.dK,pgF P0.len P0.rest lp lo lv dv li lg lm]:=Zc;have PB1:=(PB.imp (fun x _ o=>oko x o)).keepL (.of s1);walk_at "if";generalize upd H d' (.dK (pgF P0.len P0.rest lp lo lv dv li lg lm))=H1 at s1 q1 PB1 ⊢;have PA1:PgAt ok1 H1 d' P0:=.join q1 PB1 (okf _ fd');obtain⟨vts,v1,v2,v3⟩:=PB1.vv;refine⟨_,rfl,d',_,rfl,DGet.k (k:=.inr "over") q1,lv,vts,rfl,#[L,v1],_,_,rfl,rfl,?_⟩;rw[v2.length];have wr:∀ {H:Hp} {lp lo lv:Addr} {dv li:V} {lg lm:Addr} {x:V} {k:Str},H d'=#[c,.dK,pgF P0.len P0.rest lp lo lv dv li lg lm]->DPut H d' (.str k) x (upd H d' (.dK (putK (pgF P0.len P0.rest lp lo lv dv li lg lm) (.inr k) x))):=fun q=>DPut.k (k:=.inr _) q zhf;have sz0:([]:List V).length<=sizeLine:=zxk _;have sz1:∀ x:V,[x].length<=sizeLine:=fun x=>by show 1<=sizeLine;rw[sizeLine_eq];decide
 walk_at "if";cases D with
 | back =>
   have ht:#[R,H,t,[.str "take back"]]:=hD;refine⟨_,rfl,t,_,_,_,rfl,rfl,SqT.of (s1 _ _ ht),rfl,rfl,_,rfl,?_⟩;rw[C5];refine iteT ?_;refine⟨_,rfl,_,rfl,_,rfl,l,_,rfl,SqL.of (s1 _ _ hl),fun c fc=>?_⟩;rw[zww,show Fo (ds.map V.ref++[d].map V.ref) none (some (-1))=ds.map V.ref from zhj _ _];exact h c d' _ Zc (fun z=>absurd rfl z) (s1.trans (Ze fc)) (s1.free fc) fd'
 | close =>
   have ht:#[R,H,t,[.str "close"]]:=hD;refine⟨_,rfl,t,_,_,_,rfl,rfl,SqT.of (s1 _ _ ht),rfl,rfl,_,rfl,?_⟩;rw[Tw ⋯];refine #[aa];refine⟨_,rfl,t,_,_,_,rfl,rfl,SqT.of (s1 _ _ ht),rfl,rfl,_,rfl,?_⟩;rw[C5];refine iteT ?_;obtain⟨ms,hms,hml⟩:=hcl rfl;refine⟨_,rfl,d',_,rfl,DGet.k (k:=.inr "listed") q1,_,rfl,d',_,rfl,DGet.k (k:=.inr "goes") q1,_,rfl,d',_,rfl,DGet.k (k:=.inr "moves") q1,_,rfl,ok1,d',P0,ms,rfl,PA1,PO,hms,hml,hpl,fun ly ls H2 hly ily s2 fly fls=>?_⟩;obtain⟨ll,ts,rfl,b1,b2,b3⟩:∃ l ts,li=.ref l/\H1 l=#[w,ts]/\Yf H1 ts (ms.map pV)/\ok1 l:=by have:=PB1.li;rw[hms] at this;exact this
   obtain⟨mts,c1,c2,c3⟩:=PB1.mm;obtain⟨g1,g2⟩:=PB1.gg;have sh2:=s1.trans s2;refine⟨by show 4<=sizeLine;rw[sizeLine_eq];decide,fun tk ftk=>?_⟩;have s3:=s2.trans (Ze (o:=.tup [.ref ll,.ref lg,.ref lm,.ref ly]) ftk);have t3:=Zc (H:=H2) (a:=tk) (o:=.tup [.ref ll,.ref lg,.ref lm,.ref ly]);have y3:=Ze (o:=.tup [.ref ll,.ref lg,.ref lm,.ref ly]) ftk _ _ hly;have i3:=ily.same (Ze (o:=.tup [.ref ll,.ref lg,.ref lm,.ref ly]) ftk);generalize upd H2 tk (.tup [.ref ll,.ref lg,.ref lm,.ref ly])=H3 at s3 t3 y3 i3 ⊢;walk_at "if";refine⟨_,rfl,d',_,rfl,DGet.k (k:=.inr "over") (s3 _ _ q1),_,rfl,sz1 _,fun l1 f1=>?_⟩;have s4:=Ze (o:=.lst [.ref tk]) f1;have t4:=Zc (H:=H3) (a:=l1) (o:=.lst [.ref tk]);generalize upd H3 l1 (.lst [.ref tk])=H4 at s4 t4 ⊢;have s04:=s3.trans s4;refine⟨lv,l1,vts,_,rfl,rfl,s04 _ _ v1,t4,szN (by rw[v2.length];have:=PO.1;show P0.over.length+1<=1000;omega),fun lv' fv'=>?_⟩;have s5:=s4.trans (Ze (o:=.lst (vts++[.ref tk])) fv');have t5:=Zc (H:=H4) (a:=lv') (o:=.lst (vts++[.ref tk]));generalize upd H4 lv' (.lst (vts++[.ref tk]))=H5 at s5 t5 ⊢;have s15:=s3.trans s5;refine#[ac,_,d',_,wr (s15 _ _ q1),?_];rw[zhe];have s6:=Yd (o:=.dK (pgF P0.len P0.rest lp lo lv' dv (.ref ll) lg lm)) fd' (s1.trans s15);have q6:=Zc (H:=H5) (a:=d') (o:=.dK (pgF P0.len P0.rest lp lo lv' dv (.ref ll) lg lm));have k6:=Xl.dict (s15 _ _ q1) (kvs':=pgF P0.len P0.rest lp lo lv' dv (.ref ll) lg lm);generalize upd H5 d' (.dK (pgF P0.len P0.rest lp lo lv' dv (.ref ll) lg lm))=H6 at s6 q6 k6 ⊢;refine#[ac,_,d',_,wr q6,?_];rw[Gf];have s7:=Yd (o:=.dK (pgF P0.len P0.rest lp lo lv' dv .non lg lm)) fd' s6;have q7:=Zc (H:=H6) (a:=d') (o:=.dK (pgF P0.len P0.rest lp lo lv' dv .non lg lm));have k7:=k6.trans (Xl.dict q6 (kvs':=pgF P0.len P0.rest lp lo lv' dv .non lg lm));generalize upd H6 d' (.dK (pgF P0.len P0.rest lp lo lv' dv .non lg lm))=H7 at s7 q7 k7 ⊢;refine⟨sz0,fun lg' fg'=>?_⟩;have s8:=Ze (o:=.lst []) fg';have t8:=Zc (H:=H7) (a:=lg') (o:=.lst []);generalize upd H7 lg' (.lst [])=H8 at s8 t8 ⊢;refine#[ac,_,d',_,wr (s8 _ _ q7),?_];rw[zal];have s9:=Yd (o:=.dK (pgF P0.len P0.rest lp lo lv' dv .non lg' lm)) fd' (s7.trans s8);have q9:=Zc (H:=H8) (a:=d') (o:=.dK (pgF P0.len P0.rest lp lo lv' dv .non lg' lm));have k9':=Xl.dict (s8 _ _ q7) (kvs':=pgF P0.len P0.rest lp lo lv' dv .non lg' lm);generalize upd H8 d' (.dK (pgF P0.len P0.rest lp lo lv' dv .non lg' lm))=H9 at s9 q9 k9' ⊢;have k9:=(k7.trans (.of s8)).trans k9';refine⟨sz0,fun lm' fm'=>?_⟩;have s10:=Ze (o:=.lst []) fm';have t10:=Zc (H:=H9) (a:=lm') (o:=.lst []);generalize upd H9 lm' (.lst [])=H10 at s10 t10 ⊢;refine#[ac,_,d',_,wr (s10 _ _ q9),?_];rw[zez];have s11:=Yd (o:=.dK (pgF P0.len P0.rest lp lo lv' dv .non lg' lm')) fd' (s9.trans s10);have q11:=Zc (H:=H10) (a:=d') (o:=.dK (pgF P0.len P0.rest lp lo lv' dv .non lg' lm'));have k11':=Xl.dict (s10 _ _ q9) (kvs':=pgF P0.len P0.rest lp lo lv' dv .non lg' lm');generalize upd H10 d' (.dK (pgF P0.len P0.rest lp lo lv' dv .non lg' lm'))=H11 at s11 q11 k11' ⊢;have k11:=(k9.trans (.of s10)).trans k11';refine⟨_,rfl,sz1 _,fun lr flr=>?_⟩;have s12:=Ze (o:=.lst [.ref d']) flr;have t12:=Zc (H:=H11) (a:=lr) (o:=.lst [.ref d']);have k12:=k11.trans (.of s12);have k1:=(Xl.of s15).trans k12;have k3:=(Xl.of s5).trans k12;generalize upd H11 lr (.lst [.ref d'])=H12 at s12 t12 k12 k1 k3 ⊢;refine h lr d' H12 t12 (fun _=>?_) (s11.trans s12) (s11.free flr) fd';have b:=PB1.keepL k1;have e:Ui P0 .close={ P0 with over:=P0.over++[⟨ms,Pn P0 ms,P0.gv,P0.mv⟩],lis:=none,gv:=[],mv:=[] }:=by unfold Ui;rw[hms];rfl
   rw[e];have fr2:∀ x,H2 x=none->H x=none:=fun x hx=>sh2.free hx;refine .join (P:={ P0 with over:=P0.over++[⟨ms,Pn P0 ms,P0.gv,P0.mv⟩],lis:=none,gv:=[],mv:=[] }) (s12 _ _ q11) ⟨b.pp,b.oo,⟨_,k12.1 _ _ t5,Xh.snoc (s:=⟨ms,Pn P0 ms,P0.gv,P0.mv⟩) (k3.2 _ _ t3) (k1.1 _ _ b1) (b2.mono k1.2) (k1.1 _ _ g1) (k1.1 _ _ c1) (c2.keepL k1) (k3.1 _ _ y3) (ILs.keepL k3 i3) ⟨b3,g2,c3,okf _ (s1.free fly),fun x hx=>okf _ (s1.free (fls x hx))⟩ (v2.keepL k1),okf _ (s1.free (s04.free fv'))⟩,b.dd,rfl,⟨?_,okf _ (s7.free fg')⟩,[],?_,.nil,okf _ (s9.free fm')⟩ (okf _ fd')
   ·exact #[N,s12,k11'.1,#[N,s10,k9'.1,t8]]
   ·exact #[N,s12,k11'.1,t10]
 | enrol n g c =>
   have ht:#[R,H,t,[.str "enrol",.int n,.int g,.int c]]:=hD;have ht1:=s1 _ _ ht;have sz3:∀ x y z:V,[x,y,z].length<=sizeLine:=fun x y z=>by show 3<=sizeLine;rw[sizeLine_eq];decide
   refine⟨_,rfl,t,_,_,_,rfl,rfl,SqT.of ht1,rfl,rfl,_,rfl,?_⟩;rw[Tw ⋯];refine #[aa];refine⟨_,rfl,t,_,_,_,rfl,rfl,SqT.of ht1,rfl,rfl,_,rfl,?_⟩;rw[Tw ⋯];refine #[aa];refine⟨_,rfl,t,_,_,_,rfl,rfl,SqT.of ht1,rfl,rfl,_,rfl,?_⟩;rw[C5];refine iteT ?_;obtain⟨pts,p1,p2,p3⟩:=PB1.pp;refine⟨_,rfl,d',_,rfl,DGet.k (k:=.inr "people") q1,_,rfl,t,_,_,_,rfl,rfl,SqT.of ht1,rfl,_,rfl,t,_,_,_,rfl,rfl,SqT.of ht1,rfl,_,rfl,t,_,_,_,rfl,rfl,SqT.of ht1,rfl,sz3 _ _ _,fun tp ftp=>?_⟩;have s2:=Ze (o:=.tup [.int n,.int g,.int c]) ftp;have t2:=Zc (H:=H1) (a:=tp) (o:=.tup [.int n,.int g,.int c]);generalize upd H1 tp (.tup [.int n,.int g,.int c])=H2 at s2 t2 ⊢;refine⟨sz1 _,fun l1 f1=>?_⟩;have s3:=Ze (o:=.lst [.ref tp]) f1;have t3:=Zc (H:=H2) (a:=l1) (o:=.lst [.ref tp]);generalize upd H2 l1 (.lst [.ref tp])=H3 at s3 t3 ⊢;have s13:=s2.trans s3;refine⟨lp,l1,pts,_,rfl,rfl,s13 _ _ p1,t3,szN (by rw[p2.length,zwq];show _+1<=1000;omega),fun lp' fp'=>?_⟩;have s4:=s13.trans (Ze (o:=.lst (pts++[.ref tp])) fp');have t4:=Zc (H:=H3) (a:=lp') (o:=.lst (pts++[.ref tp]));have t2':=(s3.trans (Ze (o:=.lst (pts++[.ref tp])) fp')) _ _ t2;generalize upd H3 lp' (.lst (pts++[.ref tp]))=H4 at s4 t4 t2' ⊢;refine#[ac,_,d',_,wr (s4 _ _ q1),?_];rw[zbz];have s5:=Yd (o:=.dK (pgF P0.len P0.rest lp' lo lv dv li lg lm)) fd' (s1.trans s4);have q5:=Zc (H:=H4) (a:=d') (o:=.dK (pgF P0.len P0.rest lp' lo lv dv li lg lm));have k5':=Xl.dict (s4 _ _ q1) (kvs':=pgF P0.len P0.rest lp' lo lv dv li lg lm);generalize upd H4 d' (.dK (pgF P0.len P0.rest lp' lo lv dv li lg lm))=H5 at s5 q5 k5' ⊢;have k5:=(Xl.of s4).trans k5';refine⟨_,rfl,t,_,_,_,rfl,rfl,SqT.of (s5 _ _ ht),rfl,_,rfl,sz3 _ _ _,fun td ftd=>?_⟩;have s6:=Ze (o:=.tup [.str "enrol",.int n,.int ((P0.over.length:Int)+1)]) ftd;have t6:=Zc (H:=H5) (a:=td) (o:=.tup [.str "enrol",.int n,.int ((P0.over.length:Int)+1)]);generalize upd H5 td (.tup [.str "enrol",.int n,.int ((P0.over.length:Int)+1)])=H6 at s6 t6 ⊢;refine#[ac,_,d',_,wr (s6 _ _ q5),?_];rw[Ge];have s7:=Yd (o:=.dK (pgF P0.len P0.rest lp' lo lv (.ref td) li lg lm)) fd' (s5.trans s6);have q7:=Zc (H:=H6) (a:=d') (o:=.dK (pgF P0.len P0.rest lp' lo lv (.ref td) li lg lm));have k7':=Xl.dict (s6 _ _ q5) (kvs':=pgF P0.len P0.rest lp' lo lv (.ref td) li lg lm);generalize upd H6 d' (.dK (pgF P0.len P0.rest lp' lo lv (.ref td) li lg lm))=H7 at s7 q7 k7' ⊢;have k7:=(k5.trans (.of s6)).trans k7';refine⟨_,rfl,_,rfl,sz1 _,fun l2 f2=>?_⟩;have s8:=Ze (o:=.lst [.ref d']) f2;have t8:=Zc (H:=H7) (a:=l2) (o:=.lst [.ref d']);generalize upd H7 l2 (.lst [.ref d'])=H8 at s8 t8 ⊢;refine⟨l,l2,_,_,rfl,rfl,#[N,s8,s7,hl],t8,szN (by rw[zwq,zwt];show ds.length+1+1<=1000;omega),fun lr flr=>?_⟩;have er:(ds++[d]).map V.ref++[.ref d']=(ds++[d]++[d']).map V.ref:=by rw[zww (l₁:=ds++[d])];rfl
   rw[er];have s9:=s8.trans (Ze (o:=.lst ((ds++[d]++[d']).map V.ref)) flr);have t9:=Zc (H:=H8) (a:=lr) (o:=.lst ((ds++[d]++[d']).map V.ref));generalize upd H8 lr (.lst ((ds++[d]++[d']).map V.ref))=H9 at s9 t9 ⊢;have k9:=k7.trans (.of s9);have t6':=#[N,s9,k7'.2,t6];refine h lr d' H9 t9 (fun _=>?_) (s7.trans s9) (s7.free (s8.free flr)) fd';have b:=PB1.keepL k9;refine .join (P:=Ui P0 (.enrol n g c)) (s9 _ _ q7) ⟨⟨_,#[N,s9,k7'.1,#[N,s6,k5'.1,t4]],?_,okf _ (s1.free (s13.free fp'))⟩,b.oo,b.vv,#[t,td,t6'],b.li,b.gg,b.mm⟩ (okf _ fd');unfold Ui;dsimp only;rw[zww];exact(p2.mono k9.2).snoc (s9 _ _ (k7'.2 _ _ #[N,s6,k5'.2,t2']))
 | draw ms =>
   obtain⟨ll,ts,ht,hll,tl,okl⟩:∃ l ts,H t=#[A,[.str "draw up",.ref l]]/\H l=#[w,ts]/\Yf H ts (ms.map pV)/\ok l:=hD;have ht1:=s1 _ _ ht;have sz3:∀ x y z:V,[x,y,z].length<=sizeLine:=fun x y z=>by show 3<=sizeLine;rw[sizeLine_eq];decide
   refine⟨_,rfl,t,_,_,_,rfl,rfl,SqT.of ht1,rfl,rfl,_,rfl,?_⟩;rw[Tw ⋯];refine #[aa];refine⟨_,rfl,t,_,_,_,rfl,rfl,SqT.of ht1,rfl,rfl,_,rfl,?_⟩;rw[Tw ⋯];refine #[aa];refine⟨_,rfl,t,_,_,_,rfl,rfl,SqT.of ht1,rfl,rfl,_,rfl,?_⟩;rw[Tw ⋯];refine iteF ?_;refine⟨_,rfl,t,_,_,_,rfl,rfl,SqT.of ht1,rfl,rfl,_,rfl,?_⟩;rw[C5];refine iteT ?_;refine⟨_,rfl,t,_,_,_,rfl,rfl,SqT.of ht1,rfl,_,rfl,d',_,rfl,wr q1,?_⟩;rw[Gf];have s5:=Yd (o:=.dK (pgF P0.len P0.rest lp lo lv dv (.ref ll) lg lm)) fd' s1;have q5:=Zc (H:=H1) (a:=d') (o:=.dK (pgF P0.len P0.rest lp lo lv dv (.ref ll) lg lm));have k5:=Xl.dict q1 (kvs':=pgF P0.len P0.rest lp lo lv dv (.ref ll) lg lm);generalize upd H1 d' (.dK (pgF P0.len P0.rest lp lo lv dv (.ref ll) lg lm))=H5 at s5 q5 k5 ⊢;have ez:(ts.length:Int)=(ms.length:Int):=by rw[tl.length,zwq]
   refine⟨_,rfl,t,_,_,_,rfl,rfl,SqT.of (s5 _ _ ht),rfl,ll,ts,rfl,#[L,s5 _ _ hll],_,rfl,sz3 _ _ _,fun td ftd=>?_⟩;have s6:=Ze (o:=.tup [.str "draw up",.int (ts.length:Int),.int ((P0.over.length:Int)+1)]) ftd;have t6:=Zc (H:=H5) (a:=td) (o:=.tup [.str "draw up",.int (ts.length:Int),.int ((P0.over.length:Int)+1)]);generalize upd H5 td (.tup [.str "draw up",.int (ts.length:Int),.int ((P0.over.length:Int)+1)])=H6 at s6 t6 ⊢;refine#[ac,_,d',_,wr (s6 _ _ q5),?_];rw[Ge];have s7:=Yd (o:=.dK (pgF P0.len P0.rest lp lo lv (.ref td) (.ref ll) lg lm)) fd' (s5.trans s6);have q7:=Zc (H:=H6) (a:=d') (o:=.dK (pgF P0.len P0.rest lp lo lv (.ref td) (.ref ll) lg lm));have k7':=Xl.dict (s6 _ _ q5) (kvs':=pgF P0.len P0.rest lp lo lv (.ref td) (.ref ll) lg lm);generalize upd H6 d' (.dK (pgF P0.len P0.rest lp lo lv (.ref td) (.ref ll) lg lm))=H7 at s7 q7 k7' ⊢;have k7:=(k5.trans (.of s6)).trans k7';refine⟨_,rfl,_,rfl,sz1 _,fun l2 f2=>?_⟩;have s8:=Ze (o:=.lst [.ref d']) f2;have t8:=Zc (H:=H7) (a:=l2) (o:=.lst [.ref d']);generalize upd H7 l2 (.lst [.ref d'])=H8 at s8 t8 ⊢;refine⟨l,l2,_,_,rfl,rfl,#[N,s8,s7,hl],t8,szN (by rw[zwq,zwt];show ds.length+1+1<=1000;omega),fun lr flr=>?_⟩;have er:(ds++[d]).map V.ref++[.ref d']=(ds++[d]++[d']).map V.ref:=by rw[zww (l₁:=ds++[d])];rfl
   rw[er];have s9:=s8.trans (Ze (o:=.lst ((ds++[d]++[d']).map V.ref)) flr);have t9:=Zc (H:=H8) (a:=lr) (o:=.lst ((ds++[d]++[d']).map V.ref));generalize upd H8 lr (.lst ((ds++[d]++[d']).map V.ref))=H9 at s9 t9 ⊢;have k9:=k7.trans (.of s9);have t6':=#[N,s9,k7'.2,t6];refine h lr d' H9 t9 (fun _=>?_) (s7.trans s9) (s7.free (s8.free flr)) fd';have b:=PB1.keepL k9;rw[ez] at t6';exact .join (P:=Ui P0 (.draw ms)) (s9 _ _ q7) ⟨b.pp,b.oo,b.vv,#[t,td,t6'],⟨ll,ts,rfl,#[N,s9,s7,hll],tl.mono fun x xs z=>#[N,s9,s7,z],oko _ okl⟩,b.gg,b.mm⟩ (okf _ fd')
 | away i n =>
   have ht:#[R,H,t,#[S,.str "away",i,n]]:=hD;have ht1:=s1 _ _ ht;have sz3:∀ x y z:V,[x,y,z].length<=sizeLine:=fun x y z=>by show 3<=sizeLine;rw[sizeLine_eq];decide
   refine⟨_,rfl,t,_,_,_,rfl,rfl,SqT.of ht1,rfl,rfl,_,rfl,?_⟩;rw[Tw ⋯];refine #[aa];refine⟨_,rfl,t,_,_,_,rfl,rfl,SqT.of ht1,rfl,rfl,_,rfl,?_⟩;rw[Tw ⋯];refine #[aa];refine⟨_,rfl,t,_,_,_,rfl,rfl,SqT.of ht1,rfl,rfl,_,rfl,?_⟩;rw[Tw ⋯];refine iteF ?_;refine⟨_,rfl,t,_,_,_,rfl,rfl,SqT.of ht1,rfl,rfl,_,rfl,?_⟩;rw[Tw ⋯];refine iteF ?_;obtain⟨pts,p1,p2,p3⟩:=PB1.oo;refine⟨_,rfl,d',_,rfl,DGet.k (k:=.inr "out") q1,_,rfl,t,_,_,_,rfl,rfl,SqT.of ht1,rfl,_,rfl,t,_,_,_,rfl,rfl,SqT.of ht1,rfl,sz2,fun tp ftp=>?_⟩;have s2:=Ze (o:=.tup [.int i,.int n]) ftp;have t2:=Zc (H:=H1) (a:=tp) (o:=.tup [.int i,.int n]);generalize upd H1 tp (.tup [.int i,.int n])=H2 at s2 t2 ⊢;refine⟨sz1 _,fun l1 f1=>?_⟩;have s3:=Ze (o:=.lst [.ref tp]) f1;have t3:=Zc (H:=H2) (a:=l1) (o:=.lst [.ref tp]);generalize upd H2 l1 (.lst [.ref tp])=H3 at s3 t3 ⊢;have s13:=s2.trans s3;refine⟨lo,l1,pts,_,rfl,rfl,s13 _ _ p1,t3,szN (by rw[p2.length,zwq];show _+1<=1000;omega),fun lo' fp'=>?_⟩;have s4:=s13.trans (Ze (o:=.lst (pts++[.ref tp])) fp');have t4:=Zc (H:=H3) (a:=lo') (o:=.lst (pts++[.ref tp]));have t2':=(s3.trans (Ze (o:=.lst (pts++[.ref tp])) fp')) _ _ t2;generalize upd H3 lo' (.lst (pts++[.ref tp]))=H4 at s4 t4 t2' ⊢;refine#[ac,_,d',_,wr (s4 _ _ q1),?_];rw[zi2];have s5:=Yd (o:=.dK (pgF P0.len P0.rest lp lo' lv dv li lg lm)) fd' (s1.trans s4);have q5:=Zc (H:=H4) (a:=d') (o:=.dK (pgF P0.len P0.rest lp lo' lv dv li lg lm));have k5':=Xl.dict (s4 _ _ q1) (kvs':=pgF P0.len P0.rest lp lo' lv dv li lg lm);generalize upd H4 d' (.dK (pgF P0.len P0.rest lp lo' lv dv li lg lm))=H5 at s5 q5 k5' ⊢;have k5:=(Xl.of s4).trans k5';refine⟨_,rfl,t,_,_,_,rfl,rfl,SqT.of (s5 _ _ ht),rfl,_,rfl,t,_,_,_,rfl,rfl,SqT.of (s5 _ _ ht),rfl,sz3 _ _ _,fun td ftd=>?_⟩;have s6:=Ze (o:=.tup [.str "away",.int n,.int i]) ftd;have t6:=Zc (H:=H5) (a:=td) (o:=.tup [.str "away",.int n,.int i]);generalize upd H5 td (.tup [.str "away",.int n,.int i])=H6 at s6 t6 ⊢;refine#[ac,_,d',_,wr (s6 _ _ q5),?_];rw[Ge];have s7:=Yd (o:=.dK (pgF P0.len P0.rest lp lo' lv (.ref td) li lg lm)) fd' (s5.trans s6);have q7:=Zc (H:=H6) (a:=d') (o:=.dK (pgF P0.len P0.rest lp lo' lv (.ref td) li lg lm));have k7':=Xl.dict (s6 _ _ q5) (kvs':=pgF P0.len P0.rest lp lo' lv (.ref td) li lg lm);generalize upd H6 d' (.dK (pgF P0.len P0.rest lp lo' lv (.ref td) li lg lm))=H7 at s7 q7 k7' ⊢;have k7:=(k5.trans (.of s6)).trans k7';refine⟨_,rfl,_,rfl,sz1 _,fun l2 f2=>?_⟩;have s8:=Ze (o:=.lst [.ref d']) f2;have t8:=Zc (H:=H7) (a:=l2) (o:=.lst [.ref d']);generalize upd H7 l2 (.lst [.ref d'])=H8 at s8 t8 ⊢;refine⟨l,l2,_,_,rfl,rfl,#[N,s8,s7,hl],t8,szN (by rw[zwq,zwt];show ds.length+1+1<=1000;omega),fun lr flr=>?_⟩;have er:(ds++[d]).map V.ref++[.ref d']=(ds++[d]++[d']).map V.ref:=by rw[zww (l₁:=ds++[d])];rfl
   rw[er];have s9:=s8.trans (Ze (o:=.lst ((ds++[d]++[d']).map V.ref)) flr);have t9:=Zc (H:=H8) (a:=lr) (o:=.lst ((ds++[d]++[d']).map V.ref));generalize upd H8 lr (.lst ((ds++[d]++[d']).map V.ref))=H9 at s9 t9 ⊢;have k9:=k7.trans (.of s9);have t6':=#[N,s9,k7'.2,t6];refine h lr d' H9 t9 (fun _=>?_) (s7.trans s9) (s7.free (s8.free flr)) fd';have b:=PB1.keepL k9;refine .join (P:=Ui P0 (.away i n)) (s9 _ _ q7) ⟨b.pp,⟨_,#[N,s9,k7'.1,#[N,s6,k5'.1,t4]],?_,okf _ (s1.free (s13.free fp'))⟩,b.vv,#[t,td,t6'],b.li,b.gg,b.mm⟩ (okf _ fd');unfold Ui;dsimp only;rw[zww];exact(p2.mono k9.2).snoc (s9 _ _ (k7'.2 _ _ #[N,s6,k5'.2,t2']))
abbrev Ym:Stmt:=top 73
theorem Y4:#[r,["_law_cell_here","_law_clubs_here","_law_most","_law_mixed","_law_matches_here","_law_many","_law_grades","_law_rest_here","_law_k","_law_home","_law_guest"],["_law_cell_here","_law_clubs_here","_law_most","_law_mixed"],Ym]:=fnS
@[irreducible] def V5:List Expr:=zex (Oq (Xn (Zv Ym) 2))
@[irreducible] def Ob:Pos:=zey (Oq (Xn (Zv Ym) 2))
theorem Kp:Zv Ym=[Xn (Zv Ym) 0,Xn (Zv Ym) 1,.Assign (zhd (Xn (Zv Ym) 2)) (.List V5 Ob) (stP (Xn (Zv Ym) 2)),Xn (Zv Ym) 3,Xn (Zv Ym) 4,Xn (Zv Ym) 5]:=by unfold V5 Ob;kernel_rfl
theorem Kq:Gd V5 [1,2,3,4,5,6,7,8,9,1,1,1,1,2,2,3,3,4]:=by unfold V5;exact⟨by kernel_rfl,by kernel_rfl⟩
theorem Fl(F:#[k,"_law_matches","_law_matches",Ym])(T:#[n])(zpe:Ya P w K mg base "_law_mix" 1 ["_law_cell_here","_law_k"] zc2):FnOk P w K mg base #[i] 2 f fd ["_law_cell_here","_law_clubs_here","_law_most","_law_mixed"] (K5 K):=by
 refine #[o,Y4];obtain⟨b,ns,cell,most,mixed,rfl,hb,hl1,hl2,nd,rng,hm1,hmx,h⟩:=h;rw[Kp];refine⟨_,(Zb (pS 4 Y4.nd (Z1 Zd))
 (Zb (pS 5 Y4.nd (Zq (cL K) (by rfl) T.zoi PySem.boot_len (Za (pv 1) Zd)))
 (Zb (pS 6 Y4.nd (Z1 (Oj [1,2,3,4,5,6,7,8,9,1,1,1,1,2,2,3,3,4] Kq)))
 (Zb (pS 7 Y4.nd (Zs Xc (pv 0) (Zs Yr (pv 2) Zg)))
 (Zb (Xo PassesOwn.leaving rfl (Wx rfl T.zpf (Za (Zs Ys (pv 0) (Zs Yr (pv 2) Zg)) Zd)) (pN 8 Y4.nd)
  (Zb (pS 9 Y4.nd (Zs Ys (pv 7) (pv 5)))
  (Zb (pS 10 Y4.nd (Zs Ys (Zs Yr (Zs Yr (pv 9) Zg) (Zs Ys (Zs Xc (pv 7) (pv 5)) (Zs Q9 (pv 5) Zg))) (pv 5)))
  (Zb (Y5 (pv 4) (Yc (Za (pI (iL K) (pv 1) (pv 9)) (Za (pI (iL K) (pv 1) (pv 10)) (Za (pI (iL K) (pv 6) (Zs Ys (Zs Xc (Zs Xc (pv 7) (pv 5)) (Zs Q9 (pv 5) Zg)) Zg)) Zd)))))
  (Zf (pS 7 Y4.nd (pI (iL K) (Z1 (Za (Zs Xc (Zs Xc (Zs Xc (pv 7) (pv 5)) (Zs Q9 (pv 5) Zg)) Zg) (Za (pF zpe hr (Za (pv 7) (Za (pv 8) Zd))) Zd))) (pv 3))))))))
 (Zf (Zn (pv 4)))))))),?_⟩
 show let y1:TS:=_;let y2:TS:=Zx _ y1;let y3:TS:=Zx _ y2;let y4:TS:=_;let y5:TS:=Zx (zfo _ _ (Zx _ y3)) y4;let y6:TS:=Zx _ y5;let y7:TS:=Zx _ y6;let y8:TS:=Zx _ y7;Zx _ y8 _ _ _;intro y1 y2 y3 y4 y5 y6 y7 y8;have sz0:([]:List V).length<=sizeLine:=zxk _;have sz3:∀ x y z:V,[x,y,z].length<=sizeLine:=fun x y z=>by show 3<=sizeLine;rw[sizeLine_eq];decide
 refine⟨sz0,fun r fr=>?_⟩;have s1:=Ze (o:=.lst []) fr;have q1:=Zc (H:=H) (a:=r) (o:=.lst []);walk_at "if";generalize upd H r (.lst [])=H1 at s1 q1 ⊢;refine#[ac,_,b,_,#[L,s1 _ _ hb],?_];rw[zwq];walk_at "if";refine zaj [1,2,3,4,5,6,7,8,9,1,1,1,1,2,2,3,3,4] ⋯ fun lg H2 hg s2 fg=>?_;have frg:lg≠r:=(Zh q1 fg).symm;have hc:(0:Int)<(most:Int)+1:=by omega
 refine⟨_,rfl,_,rfl,_,_,rfl,rfl,_,_,rfl,rfl,⟨hc,by omega⟩,?_⟩;walk_at "if";refine⟨_,rfl,_,rfl,_,_,rfl,rfl,_,_,rfl,rfl,hc,_,rfl,?_⟩;have c0:=zxw cell (show ((most:Int)+1)≠0 by omega);have c1:=zxn cell hc;have hn0:(0:Int)<(ns.length:Int):=by omega
 have hn1:(0:Int)<(ns.length:Int)-1:=by omega
 let jv1:Nat->L2.St->Hp->Prop:=fun i σ H'=>(∃ v8 v9 v10 R,σ=[some (.int cell),some (.ref b),some (.int most),some (.int mixed),some (.ref r),some (.int ns.length),some (.ref lg),some (.int R),v8,v9,v10])/\(∀ x o,H2 x=some o->x≠r->H' x=some o)/\∃ ts ms,H' r=#[w,ts]/\Yf H' ts (ms.map pV)/\ms.length=i/\zb2 ms
 refine⟨by omega,by omega,Ua jv1
  ⟨⟨_,_,_,_,rfl⟩,fun _ _ e _=>e,[],[],s2 _ _ q1,.nil,rfl,(fun m z=>nomatch z),(fun m z=>nomatch z)⟩ ?_ ?_⟩
 ·rintro i σ H' hi ⟨⟨v8,v9,v10,R,rfl⟩,k,ts,ms,hr',tl,hml,gm⟩;have hb':=k _ _ #[N,s2,s1,hb] (Zh hb fr);have hg':=k _ _ hg frg;have e0:=zxw R (show (ns.length:Int)≠0 by omega);have e1:=zxn R hn0;have f0:=zxw (R/(ns.length:Int)) (show (ns.length:Int)-1≠0 by omega);have f1:=zxn (R/(ns.length:Int)) hn1;have w0:=zxw (R/(ns.length:Int)/((ns.length:Int)-1)) (show (18:Int)≠0 by omega);have w1:=zxn (R/(ns.length:Int)/((ns.length:Int)-1)) (show (0:Int)<18 by omega);obtain⟨g0,g1,g2⟩:=zhl e0 e1 (y:=1+R/(ns.length:Int)%((ns.length:Int)-1)) ⋯ ⋯;rw[<- Int.add_assoc] at g0 g1 g2;refine⟨_,rfl,_,rfl,_,_,rfl,rfl,hn0,?_⟩;walk_at "if";refine⟨_,rfl,_,_,rfl,rfl,_,rfl,_,rfl,_,_,rfl,rfl,⟨hn0,by omega⟩,_,rfl,_,_,rfl,rfl,_,_,rfl,rfl,hn1,_,_,rfl,rfl,_,rfl,_,_,rfl,rfl,hn0,?_⟩;walk_at "if";generalize hG:(R%(ns.length:Int)+1+R/(ns.length:Int)%((ns.length:Int)-1))%(ns.length:Int)=gu at g0 g1 g2 ⊢;generalize hHo:R%(ns.length:Int)=ho at e0 e1 g2 ⊢;refine#[ac,_,r,_,hr',?_];have hgr:=Wi (xs:=C9) w0 (by show _<((18:Nat):Int);omega);have rgr:=zb3 (R/(ns.length:Int)/((ns.length:Int)-1)%18).toNat ⋯;generalize hgv:C9.getD (R/(ns.length:Int)/((ns.length:Int)-1)%18).toNat 0=gv at hgr rgr;have hho:=Wi (xs:=ns) e0 ⋯;have hgu:=Wi (xs:=ns) g0 ⋯;have mho:=Th (ns:=ns) (i:=ho.toNat) ⋯;have mgu:=Th (ns:=ns) (i:=gu.toNat) ⋯;have hne:ns.getD ho.toNat 0≠ns.getD gu.toNat 0:=fun z=>by
   have:=zhm nd ⋯ ⋯ z;omega
  generalize ns.getD ho.toNat 0=a1 at hho mho hne;generalize ns.getD gu.toNat 0=a2 at hgu mgu hne;refine⟨_,rfl,_,rfl,b,_,_,_,rfl,rfl,SqL.of hb',hho,_,rfl,_,rfl,b,_,_,_,rfl,rfl,SqL.of hb',hgu,?_⟩;refine⟨_,rfl,_,rfl,_,rfl,_,_,rfl,rfl,⟨hn0,by omega⟩,_,rfl,_,_,rfl,rfl,_,_,rfl,rfl,⟨hn1,by omega⟩,_,_,rfl,rfl,⋯,lg,_,_,_,rfl,rfl,SqL.of hg',hgr,sz3 _ _ _,fun t ft=>?_⟩;have s3:=Ze (o:=.tup [.int a1,.int a2,.int gv]) ft;have q3:=Zc (H:=H') (a:=t) (o:=.tup [.int a1,.int a2,.int gv]);generalize upd H' t (.tup [.int a1,.int a2,.int gv])=H3 at s3 q3 ⊢;have tln:=tl.length;rw[zwq] at tln;refine⟨ts,s3 _ _ hr',szN ⋯,?_⟩;have hi':i<101:=by omega
  have k4:∀ x o,H3 x=#[d]->x≠r->upd H3 r (.lst (ts++[.ref t])) x=#[d]:=fun x o e n=>by rw[Zi n];exact e
  have q4:=Zc (H:=H3) (a:=r) (o:=.lst (ts++[.ref t]));have kt4:∀ x ys,H3 x=#[A,ys]->upd H3 r (.lst (ts++[.ref t])) x=#[A,ys]:=fun x ys e=>k4 _ _ e #[aq,Yz,e,s3 _ _ hr'];dsimp only;generalize upd H3 r (.lst (ts++[.ref t]))=H4 at k4 q4 kt4 ⊢;obtain⟨z,hz⟩:=at2 (R/(ns.length:Int)/((ns.length:Int)-1)/18) (zbo R (0+(i:Int))) hmx;refine⟨_,rfl,_,rfl,_,_,rfl,rfl,⟨hn0,by omega⟩,_,rfl,_,_,rfl,rfl,_,_,rfl,rfl,⟨hn1,by omega⟩,_,_,rfl,rfl,⟨by omega,by omega⟩,_,rfl,_,rfl,_,_,rfl,sz2,fun l2 f2=>⟨_,rfl,l2,_,_,_,rfl,rfl,SqL.of Zc,hz,?_⟩⟩;have s5:=Ze (o:=.lst [.int (R/(ns.length:Int)/((ns.length:Int)-1)/18),.int (zbo R (0+(i:Int)))]) f2;refine⟨⟨_,_,_,_,rfl⟩,fun x o e n=>s5 _ _ (k4 _ _ (s3 _ _ (k _ _ e n)) n),ts++[.ref t],ms++[(a1,a2,gv)],s5 _ _ q4,?_,by rw[zwt,hml];rfl,?_,?_⟩
  ·rw[zww];exact(tl.mono fun x ys e=>s5 _ _ (kt4 _ _ (s3 _ _ e))).snoc (s5 _ _ (kt4 _ _ q3))
  ·intro m hm;rcases zw2.mp hm with hm|hm
   ·exact gm.1 m hm
   ·rw[zwv.mp hm];have:=rng _ mho;have:=rng _ mgu;unfold badM;dsimp only;omega
  ·intro m hm;rcases zw2.mp hm with hm|hm
   ·exact gm.2 m hm
   ·rw[zwv.mp hm];exact hne
 ·rintro σ H' ⟨⟨v8,v9,v10,R,rfl⟩,k,ts,ms,hr',tl,hml,gm⟩;refine#[t,_,h r ts ms H' hr' tl ⋯ gm (fun x o e=>k _ _ #[N,s2,s1,e] (Zh e fr)) fr]
abbrev Fm:Stmt:=top 74
theorem zfj:#[r,["_law_season","_law_deed_here"],["_law_season","_law_deed_here"],Fm]:=fnS
theorem zfk(F:#[k,"_law_do","_law_do",Fm])(T:#[n])(zqo:Zp P w K mg base a.znw "enrol" 5 #[ar] #[e,zdl])(zq9:Zp P w K mg base a.znw "away" 7 ["self","at","number"] #[e,zha])(zpz:Zp P w K mg base a.znw "draw_up" 6 #[v,"matches"] (A7 K (ca a)))(zqr:Zp P w K mg base a.znw "close" 4 ["self"] #[e,zdm])(zpl:Zp P w K mg base a.znw "take_back" 2 ["self"] #[e,Hw]):FnOk P w K mg base #[i] 8 f fd ["_law_season","_law_deed_here"] (ziy K (ca a)):=by
 refine #[o,zfj];obtain⟨A',S,t,d,rfl,SA,hd,gd,co,po,hz,hoz,htot,hl,hol,hln,hsn,hbk,h⟩:=h;refine⟨_,(Zb (Z3 (Zo Xd (pI (iU K) (pv 1) Zg) Zl (Zu _))
  (Zf (Zn (Yg (pv 0) T.znx zqo (hr.mono ⋯) Zj (Za (pI (iU K) (pv 1) Zg) (Za (pI (iU K) (pv 1) Zg) (Za (pI (iU K) (pv 1) Zg) Zd))))))
  Zt)
 (Zb (Z3 (Zo Xd (pI (iU K) (pv 1) Zg) Zl (Zu _))
  (Zf (Zn (Yg (pv 0) T.znx zq9 (hr.mono ⋯) Zj (Za (pI (iU K) (pv 1) Zg) (Za (pI (iU K) (pv 1) Zg) Zd)))))
  Zt)
 (Zb (Z3 (Zo Xd (pI (iU K) (pv 1) Zg) Zl (Zu _))
  (Zf (Zn (Yg (pv 0) T.znx zpz (hr.mono ⋯) Zj (Za (Yq (Xj (K:=K) rfl) (by rfl) T.zpx PyProof.Rows.boot_list (Za (pI (iU K) (pv 1) Zg) Zd)) Zd))))
  Zt)
 (Zb (Z3 (Zo Xd (pI (iU K) (pv 1) Zg) Zl (Zu _))
  (Zf (Zn (Yi (pv 0) T.znx zqr (hr.mono ⋯) Zj)))
  Zt)
 (Zf (Zn (Yi (pv 0) T.znx zpl (hr.mono ⋯) Zj))))))),?_⟩
 obtain⟨⟨dx,v,a1,a2⟩,_⟩:=id SA;cases d with
 | enrol n g c0 =>
   have ht:#[R,H,t,[.str "enrol",.int n,.int g,.int c0]]:=hd;obtain⟨g1,g2,g3,g4,g5⟩:=gd;have hb:=g3;unfold badI at hb;refine⟨_,rfl,t,_,_,_,rfl,rfl,#[P],rfl,rfl,_,rfl,?_⟩;rw[C5];refine iteT ?_;refine⟨_,rfl,A'.p,dx,_,rfl,a1,Z6 ⋯,_,rfl,t,_,_,_,rfl,rfl,#[P],rfl,_,rfl,t,_,_,_,rfl,rfl,#[P],rfl,_,rfl,t,_,_,_,rfl,rfl,#[P],rfl,A',S,n,g,c0,rfl,SA,⟨Z5 ⋯ ⋯,Z5 ⋯ ⋯,Z5 ⋯ ⋯⟩,by omega,by omega,?_⟩;rw[if_neg ⋯,#[g,(by rw[g2];decide)],#[g,g3],#[g,g4],if_neg ⋯,if_neg ⋯];exact fun H' SA' f'=>h .non A' _ H' (.enrol n g c0) SA' (.refl A' H) f' (fun l z=>nomatch z)
 | away i n =>
   have ht:#[R,H,t,#[S,.str "away",i,n]]:=hd;obtain⟨g1,g2,g3,g4⟩:=gd;refine⟨_,rfl,t,_,_,_,rfl,rfl,#[P],rfl,rfl,_,rfl,?_⟩;rw[Tw ⋯];refine #[aa];refine⟨_,rfl,t,_,_,_,rfl,rfl,#[P],rfl,rfl,_,rfl,?_⟩;rw[C5];refine iteT ?_;have si:Z7 i:=Z5 ⋯ ⋯;refine⟨_,rfl,A'.p,dx,_,rfl,a1,Z6 ⋯,_,rfl,t,_,_,_,rfl,rfl,#[P],rfl,_,rfl,t,_,_,_,rfl,rfl,#[P],rfl,A',S,i,n,rfl,SA,si,hsn i n rfl,by omega,hoz,po,fun s hs=>?_,?_⟩
   ·obtain⟨c1,c2,c3,c4,c5⟩:=co s hs;exact⟨c1,c2,c4,by omega⟩
   rw[if_neg ⋯,if_neg ⋯,#[l,g3],#[g,g4],if_neg ⋯];refine⟨fun hc l H' hl' SA' f' fl=>h _ A' _ H' (.awayN hc hl') SA' (.refl A' H) f' (fun l2 z _=>by cases z;exact fl),fun s hi hs hp l H' hl' SA' f' fl=>?_,fun s p hi hs hp l us st e w' H' hl' tl CR SA' f' fl=>?_⟩
   ·subst hi;exact h _ A' _ H' (.awayF hs hp hl') SA' (.refl A' H) f' (fun l2 z _=>by cases z;exact fl)
   ·subst hi;exact h _ A' _ H' (.awayC hs hp hl' tl CR) SA' (.refl A' H) f' (fun l2 z _=>by cases z;exact fl)
 | draw ms =>
   obtain⟨l0,ts,ht,hl0,tl,okl⟩:∃ l ts,H t=#[A,[.str "draw up",.ref l]]/\H l=#[w,ts]/\Yf H ts (ms.map pV)/\l∉A'.fp:=hd;obtain⟨g1,g2,g3,g4,g5⟩:=gd;refine⟨_,rfl,t,_,_,_,rfl,rfl,#[P],rfl,rfl,_,rfl,?_⟩;rw[Tw ⋯];refine #[aa];refine⟨_,rfl,t,_,_,_,rfl,rfl,#[P],rfl,rfl,_,rfl,?_⟩;rw[Tw ⋯];refine #[aa];refine⟨_,rfl,t,_,_,_,rfl,rfl,#[P],rfl,rfl,_,rfl,?_⟩;rw[C5];refine iteT ?_;refine⟨_,rfl,A'.p,dx,_,rfl,a1,Z6 ⋯,_,rfl,t,_,_,_,rfl,rfl,#[P],rfl,l0,ts,rfl,#[L,hl0],fun l1 hl1=>?_⟩;have s1:=Ze (o:=.lst ts) hl1;have q1:upd H l1 (.lst ts) l1=#[c,.lst,ts]:=Zc;generalize upd H l1 (.lst ts)=H1 at s1 q1;have nb:¬ Qb ms:=fun ⟨m,hm,hb⟩=>g4 m hm hb;have ns:¬ Qc ms:=fun ⟨m,hm,hb⟩=>g5 m hm hb;refine⟨A',S,l1,ts,ms,rfl,SA.same s1,SqL.of q1,tl.same s1,fun m hm=>?_,by omega,by omega,po,?_⟩
   ·have:=g4 m hm;unfold badM at this;exact⟨Z5 ⋯ ⋯,Z5 ⋯ ⋯,Z5 ⋯ ⋯⟩
   rw[if_neg ⋯,#[g,(by rw[g2];decide)]];refine⟨fun z=>absurd z ⋯,fun _ z=>absurd z nb,fun _ _ z=>absurd z ns,fun _ _ _=>⟨fun z=>absurd z ⋯,fun _ l gv H' hl' SA' FP SP f' fl=>?_⟩⟩;exact h _ A' _ H' (.draw hl' FP SP) SA' (.refl A' H) ((FrS.of A' s1).trans f') (fun l2 z _=>by cases z;exact s1.free fl)
 | close =>
   have ht:#[R,H,t,[.str "close"]]:=hd;obtain⟨g1,g2⟩:=gd;refine⟨_,rfl,t,_,_,_,rfl,rfl,#[P],rfl,rfl,_,rfl,?_⟩;rw[Tw ⋯];refine #[aa];refine⟨_,rfl,t,_,_,_,rfl,rfl,#[P],rfl,rfl,_,rfl,?_⟩;rw[Tw ⋯];refine #[aa];refine⟨_,rfl,t,_,_,_,rfl,rfl,#[P],rfl,rfl,_,rfl,?_⟩;rw[Tw ⋯];refine #[aa];refine⟨_,rfl,t,_,_,_,rfl,rfl,#[P],rfl,rfl,_,rfl,?_⟩;rw[C5];refine iteT ?_;refine⟨_,rfl,A'.p,dx,_,rfl,a1,Z6 ⋯,A',S,rfl,SA,htot,hl,hol,fun s hs=>?_,?_⟩
   ·obtain⟨c1,c2,c3,c4,c5⟩:=co s hs;refine⟨c2.one,?_,by omega⟩;rw[c2.len,c4];unfold mayS;rw[zwq]
   rw[if_neg ⋯];exact⟨fun z=>absurd z g2,fun s x H' hs SA' f' fx=>h _ { A' with lt:=x } _ H' (.close hs) SA' #[t,x,.inr fx] f' (fun l2 z=>nomatch z)⟩
 | back =>
   have ht:#[R,H,t,[.str "take back"]]:=hd;refine⟨_,rfl,t,_,_,_,rfl,rfl,#[P],rfl,rfl,_,rfl,?_⟩;rw[Tw ⋯];refine #[aa];refine⟨_,rfl,t,_,_,_,rfl,rfl,#[P],rfl,rfl,_,rfl,?_⟩;rw[Tw ⋯];refine #[aa];refine⟨_,rfl,t,_,_,_,rfl,rfl,#[P],rfl,rfl,_,rfl,?_⟩;rw[Tw ⋯];refine #[aa];refine⟨_,rfl,t,_,_,_,rfl,rfl,#[P],rfl,rfl,_,rfl,?_⟩;rw[Tw ⋯];refine #[aa];obtain⟨S0,hs0⟩:=hbk rfl;obtain⟨d0,e1,e2,e3,e4,e5,e6⟩:=id hs0;refine⟨_,rfl,A'.p,dx,_,rfl,a1,Z6 ⋯,A',S,rfl,SA,fun z=>absurd z gd,fun std d s he=>?_⟩;rw[e1] at he;obtain⟨he1,he2⟩:=List.append_inj' he rfl;have he2:(d0,S0.cur)=(d,s):=by simpa using he2
   cases he2;subst he1;refine⟨S0.ppl,S0.out,e2,fun t' H' ht' SA' f'=>?_⟩;have eS:{ S with ppl:=S0.ppl,out:=S0.out,cur:=S0.cur,std:=S0.std }=S0:=by
    cases S;cases S0;simp only at e3 e4 e5 e6 ⊢;subst e3 e4 e5 e6;rfl
   rw[eS] at SA';exact h _ A' S0 H' (.back e1 ht' hs0) SA' (.refl A' H) f' (fun l2 z hx=>by cases z;obtain⟨xs,hx⟩:=hx;rw[ht'] at hx;cases hx)
abbrev N6:Stmt:=top 75
theorem Y6:#[r,["_law_pages","_law_cell_here","_law_pool_here","_law_most","_law_mixed","_law_clubs_here","_law_numbers_here","_law_page","_law_at_here","_law_kind","_law_rest_here","_law_day","_law_here","_law_known","_law_fresh","_law_club"],["_law_pages","_law_cell_here","_law_pool_here","_law_most","_law_mixed"],N6]:=fnS
theorem zay(F:#[k,"_law_deed","_law_deed",N6])(T:#[n])(zqx:Ya P w K mg base "_law_matches" 2 ["_law_cell_here","_law_clubs_here","_law_most","_law_mixed"] (K5 K)):FnOk P w K mg base #[i] 3 f fd ["_law_pages","_law_cell_here","_law_pool_here","_law_most","_law_mixed"] (zao K):=by
 refine #[o,Y6];obtain⟨ok,l,t,lc,ln,ds,d,P0,cell,cs,nu,most,mixed,rfl,hl,PA,PL,hm1,hmx,hov,hpp,h⟩:=h;have hu:=X8 hr;refine⟨_,(Zb (Iq (pv 2) (Wy (K:=K) (n:=2) rfl rfl (Z9 (pN 5 Y6.nd) (Z9 (pN 6 Y6.nd) Ww))))
 (Zb (pS 7 Y6.nd (pI (iL K) (pv 0) (Rl Ub Zg)))
 (Zb (pS 8 Y6.nd (Zs Yr (Zq (cL K) (by rfl) T.zoi PySem.boot_len (Za (pD hu (pv 7) Zl) Zd)) Zg))
 (Zb (pS 9 Y6.nd (Zs Ys (pv 1) Zg))
 (Zb (pS 10 Y6.nd (Zs Xc (pv 1) Zg))
 (Zb (Z3 (PW.pt (Su (Zo Xd (pv 9) Zg (Zu _)) (Uu (Zo Ti (Zq (cL K) (by rfl) T.zoi PySem.boot_len (Za (pv 0) Zd)) Zg (Zu _)))))
  (Zf (Zn (Yc (Za Zl Zd))))
  Zt)
 (Zb (pS 11 Y6.nd (Zq (E5 rfl) (by rfl) T.zt8 PyProof.Rows.boot_min (Za (pD hu (pv 7) Zl) (Za (Zs Yr (pv 8) (pI (iL K) (Z1 (Za Zg (Za (Zs Yr Zg (Zs Ys (Zs Xc (pv 10) Zg) Zg)) Zd))) (Yq Rn (by rfl) T.zsv PyProof.Rows.boot_int (Za (Vr Xd (pv 9) Zg (Zu _)) Zd)))) Zd))))
 (Zb (Vp (i:=12) Y6.nd rfl rfl rfl (cT ["_law_day","_law_page"] [11,7]) (Yh (K:=K) rfl (pD hu (pv 7) Zl)) (fun _ _ _ _ _=>R8 (Zo (Ji (K:=K) rfl hr.units) (Yc (Za (pv 1) (Za (pI (iU K) (pv 0) Zg) Zd))) (pD hu (pv 2) Zl) (by with_unfolding_all rfl))) (fun _ _ _ _ _=>(pI (iU K) (pv 0) Zg)))
 (Zb (Z3 (PW.pt (Su (Zo (Cn (K:=K) rfl hr.units) (pv 12) (Z1 Zd) (Zu _)) (Uu (PW.pt (Rk (Zo Ti (pv 9) Zg (Zu _)) (V9 (PW.pt (Su (Zo Ti (pv 9) Zg (Zu _)) (Uu (Zo Uv (pD hu (pv 7) Zl) Y1 (Zu _)))))))))))
  (Zf (Zn (Yc (Za Zl (Za (pv 11) (Za (pI (iL K) (pv 12) (Zs Ys (pv 10) (Zq (cL K) (by rfl) T.zoi PySem.boot_len (Za (pv 12) Zd)))) Zd))))))
  Zt)
 (Zb (Z3 (Zo Uv (pD hu (pv 7) Zl) Y1 (Zu _))
  (Zf (Zn (Yc (Za Zl Zd))))
  Zt)
 (Zb (pS 13 Y6.nd (Vb rfl (cT [] []) (Yh (K:=K) rfl (pD hu (pv 7) Zl)) (fun _ _ _ _ _=>Vc) (fun _ _ _ _ _=>(pI (iU K) (pv 0) Zg))))
 (Zb (Vp (i:=14) Y6.nd rfl rfl rfl (cT ["_law_known"] [13]) (Yh (K:=K) rfl (pv 6)) (fun _ _ _ _ _=>R8 (Zo (Sx (K:=K) rfl) (pv 0) (pv 1) (by with_unfolding_all rfl))) (fun _ _ _ _ _=>(pv 0)))
 (Zb (Z3 (PW.pt (Su (Zo Xd (pv 9) Zg (Zu _)) (Uu (Zo (Cn (K:=K) rfl hr.units) (pv 14) (Z1 Zd) (Zu _)))))
  (Zb (pS 15 Y6.nd (pI (iL K) (pv 5) (Zs Ys (Zs Xc (pv 10) Zg) (Zq (cL K) (by rfl) T.zoi PySem.boot_len (Za (pv 5) Zd)))))
  (Zf (Zn (Yc (Za Zl (Za (pI (iL K) (pv 14) (Zs Ys (pv 10) (Zq (cL K) (by rfl) T.zoi PySem.boot_len (Za (pv 14) Zd)))) (Za (Zs Yr Zg (Zs Ys (Zs Xc (pv 10) Zg) Zg)) (Za (pv 15) Zd))))))))
  Zt)
 (Zf (Zn (Yc (Za Zl (Za (pF zqx hr (Za (pv 10) (Za (pv 5) (Za (pv 3) (Za (pv 4) Zd))))) Zd)))))))))))))))))),?_⟩
 show let y1:TS:=_;let y2:TS:=Zx _ y1;let y3:TS:=Zx _ y2;let y4:TS:=Zx _ y3;let y5:TS:=Zx _ y4;let y6:TS:=Zx _ y5;let y7:TS:=Zx _ y6;let y8:TS:=Zx _ y7;let y9:TS:=Zx _ y8;let y10:TS:=Zx _ y9;let y11:TS:=Zx _ y10;let y12:TS:=Zx _ y11;let y13:TS:=Zx _ y12;Zx _ y13 _ _ _;intro y1 y2 y3 y4 y5 y6 y7 y8 y9 y10 y11 y12 y13;have sz0:([]:List V).length<=sizeLine:=zxk _;obtain⟨lp,lo,lv,dv,li,lg,lm,a1,PB,okd⟩:=id PA.split;have hat:atI ((ds++[d]).map V.ref) (-1)=#[c,V.ref,d]:=by rw[zww];exact L2.atI_last _ _
 obtain⟨vts,v1,v2,v3⟩:=PB.vv;refine⟨_,rfl,t,_,rfl,SqT.of PL.tup,rfl,_,_,rfl,_,_,rfl,rfl,?_⟩;walk_at "if";refine⟨_,rfl,_,rfl,l,_,_,_,rfl,rfl,SqL.of hl,hat,?_⟩;walk_at "if";refine⟨_,rfl,d,_,rfl,DGet.k (k:=.inr "over") a1,lv,vts,rfl,#[L,v1],_,_,rfl,rfl,?_⟩;rw[v2.length];walk_at "if";refine⟨_,rfl,_,_,rfl,rfl,⋯,?_⟩;walk_at "if";refine⟨_,rfl,_,_,rfl,rfl,⟨by omega,by omega⟩,?_⟩;walk_at "if";obtain⟨kd,hkd⟩:∃ kd,kd=cell%8:=#[C,_];obtain⟨R,hR⟩:∃ R,R=cell/8:=#[C,_];rw[<- hkd,<- hR];show Zx _ _ _ [#[b,l],#[f,cell],#[b,t],#[f,most],#[f,mixed],#[b,lc],#[b,ln],#[b,d],#[f,(P0.over.length:Int)+1],#[f,kd],#[f,R],none,none,none,none,none] H;have hdl:((((ds++[d]).map V.ref).length:Nat):Int)=(ds.length:Int)+1:=by rw[zwq,zwt];rfl
 have tup1:∀ (w:Str),([V.str w]).length<=sizeLine:=fun w=>by show 1<=sizeLine;rw[sizeLine_eq];decide
 refine Xi (X0 (b:=decide (V.int kd=V.int 7)&&decide (1<(ds.length:Int)+1)) (Og (fun Q q=>⟨_,rfl,rfl,_,rfl,q⟩) fun Q q=>⟨_,rfl,l,_,rfl,#[L,hl],_,_,rfl,rfl,_,rfl,by rw[hdl];exact q⟩) (itB (fun hb=>?_) fun _=>Zy ?_))
 ·refine⟨tup1 _,fun tt ft=>?_⟩;refine h tt .back _ (show upd H tt _ tt=_ from Zc) ?_ (Ze ft) ft;rw[zx3,decide_eq_true_eq,decide_eq_true_eq] at hb;intro z;rw[z] at hb;have:=hb.2;simp at this
 refine⟨_,rfl,d,_,rfl,DGet.k (k:=.inr "rounds") a1,_,rfl,_,rfl,_,_,rfl,rfl,⟨by omega,by omega⟩,_,_,rfl,rfl,⋯,_,_,rfl,rfl,sz2,fun l2 f2=>?_⟩;have s2:=Ze (o:=.lst [.int 0,.int (1+R/60%3)]) f2;have q2:=Zc (H:=H) (a:=l2) (o:=.lst [.int 0,.int (1+R/60%3)]);generalize upd H l2 (.lst [.int 0,.int (1+R/60%3)])=H2 at s2 q2 ⊢;obtain⟨z,hz,hz0⟩:∃ z:Int,atI [V.int 0,V.int (1+R/60%3)] (if #[j,V.int kd=V.int 6]=true then 1 else 0)=#[f,z]/\0<=z:=by
  cases decide (V.int kd=V.int 6) with
  | true=>exact#[t,_,by omega]
  | false=>exact#[t,0,by omega]
 refine⟨_,rfl,rfl,.inr ⟨_,rfl,l2,_,_,_,rfl,rfl,SqL.of q2,hz,_,_,rfl,rfl,_,_,rfl,?_⟩⟩;obtain⟨day,hday,hd1,hd2⟩:∃ day:Int,(if ((P0.over.length:Int)+1+z)<(P0.len:Int) then ((P0.over.length:Int)+1+z) else (P0.len:Int))=day/\(P0.over.length:Int)<day/\day<=P0.len:=⟨_,rfl,by split<;>omega,by split<;>omega⟩;rw[hday];walk_at "if";obtain⟨pts,p1,p2,p3⟩:=PB.pp;obtain⟨ots,o1,o2,o3⟩:=PB.oo;have hpl:pts.length=P0.ppl.length:=by rw[p2.length,zwq]
 have hls:=PB.li.some;refine⟨_,rfl,d,_,rfl,DGet.k (k:=.inr "people") (s2 _ _ a1),lp,rfl,⟨_,SqL.of (s2 _ _ p1)⟩,Xp (K:=K) (a:=lp) (xs:=pts) (fun i ys H'=>Same H2 H'/\ys=(((P0.ppl.take i).filter fun x=>!decide ((day,x.1)∈P0.out)).map (·.1)).map V.int) #[C,Same.refl _] (fun i ys H' _ ⟨z,_⟩=>SqL.of (z _ _ (s2 _ _ p1))) (szN ⋯) (fun i ys H' ⟨_,e⟩=>by rw[e,zwq,zwq];exact zw6 (zxo _ _) (zx5 _ _)) ?_ ?_⟩
 ·rintro j x ys H3 hx3 ⟨s3,rfl⟩;obtain⟨tp,pp,rfl,hpp',htp⟩:=Jg p2 hx3;have sh3:=s2.trans s3;refine⟨_,rfl,_,rfl,tp,_,_,_,rfl,rfl,SqT.of (sh3 _ _ htp),show atI (pV pp) 0=some _ from rfl,sz2,fun t3 f3=>?_⟩;have s4:=Ze (o:=.tup [.int day,.int pp.1]) f3;have q4:=Zc (H:=H3) (a:=t3) (o:=.tup [.int day,.int pp.1]);generalize upd H3 t3 (.tup [.int day,.int pp.1])=H4 at s4 q4 ⊢;have sh4:=sh3.trans s4;refine⟨_,rfl,d,_,rfl,DGet.k (k:=.inr "out") (sh4 _ _ a1),t3,lo,ots,_,_,P0.out,rfl,rfl,SqT.of q4,SqL.of (sh4 _ _ o1),o2.same sh4,_,rfl,?_⟩;rw[#[l,rfl],X6 hpp',zyd,zww,zww];refine itB (fun hb=>?_) fun hb=>?_
  ·refine⟨_,rfl,tp,_,_,_,rfl,rfl,SqT.of (sh4 _ _ htp),show atI (pV pp) 0=some _ from rfl,s3.trans s4,?_⟩;rw[zx7 (p:=fun x:P3=>!decide ((day,x.1)∈P0.out)) (a:=pp) hb,zyr];rfl
  ·refine⟨s3.trans s4,?_⟩;rw[zx8 (p:=fun x:P3=>!decide ((day,x.1)∈P0.out)) (a:=pp) (by rw[hb];decide),zyr];simp
 rintro ys H3 ⟨s3,rfl⟩ lh flh;rw[hpl,zw9];obtain⟨he,hhe⟩:∃ he,he=(P0.ppl.filter fun x=>!decide ((day,x.1)∈P0.out)).map (·.1):=#[C,_];rw[<- hhe];have hel:he.length<=100:=by rw[hhe,zwq];exact zw6 (zxo _ _) hpp
 have hem:∀ n∈he,n∈P0.ppl.map (·.1)/\(day,n)∉P0.out:=fun n hn=>by
  rw[hhe] at hn;obtain⟨x,hx,rfl⟩:=zw0.mp hn;obtain⟨hx1,hx2⟩:=zxu.mp hx;exact⟨zw0.mpr ⟨x,hx1,rfl⟩,by simpa using hx2⟩
 have s4:=(s2.trans s3).trans (Ze (o:=.lst (he.map V.int)) flh);have q4:=Zc (H:=H3) (a:=lh) (o:=.lst (he.map V.int));show X3 12 (V.ref lh) _ (upd H3 lh (.lst (he.map V.int))) _;generalize upd H3 lh (.lst (he.map V.int))=H4 at s4 q4 ⊢;walk_at "if";refine Xi (X5 (b:=!he.isEmpty&&(decide (3<kd)||(decide (0<kd)&&P0.lis.isSome))) (D5 (K7 rfl q4) fun H5 s5=>Wz (Mf (fun Q q=>⟨_,rfl,_,_,rfl,rfl,_,rfl,q⟩) (Og (fun Q q=>⟨_,rfl,_,_,rfl,rfl,_,rfl,q⟩) fun Q q=>⟨_,rfl,d,_,rfl,DGet.k (k:=.inr "listed") #[N,s5,s4,a1],rfl,_,rfl,by rw[hls];exact q⟩))) fun H5 s5=>itB (fun hb=>?_) fun _=>Zy ?_)
 ·rw[zx3] at hb;have hne:he.length≠0:=by have:=hb.1;intro z;rw[zye.mp z] at this;exact absurd this ⋯
  have hpos:(0:Int)<(he.length:Int):=by omega
  have y0:=zxw R (show (he.length:Int)≠0 by omega);have y1:=zxn R hpos;have hix:=Wi (xs:=he) y0 ⋯;have mix:=Th (ns:=he) (i:=(R%(he.length:Int)).toNat) ⋯;generalize he.getD (R%(he.length:Int)).toNat 0=n at hix mix;refine⟨_,rfl,_,rfl,_,rfl,_,rfl,lh,_,rfl,#[L,s5 _ _ q4],?_⟩;rw[zwq];refine⟨_,_,rfl,rfl,hpos,lh,_,_,_,rfl,rfl,SqL.of (s5 _ _ q4),hix,(by show 3<=sizeLine;rw[sizeLine_eq];decide),fun tt ft=>?_⟩;exact h tt (.away day n) _ (show upd H5 tt _ tt=_ from Zc) ⟨hd1,hd2,(hem n mix).1,(hem n mix).2⟩ ((s4.trans s5).trans (Ze ft)) ((s4.trans s5).free ft)
 have s05:=s4.trans s5;dsimp only;refine Xi (X0 (b:=P0.lis.isSome) (fun Q q=>⟨_,rfl,d,_,rfl,DGet.k (k:=.inr "listed") (s05 _ _ a1),rfl,_,rfl,by rw[hls];exact q⟩) (itB (fun hb=>?_) fun hb=>Zy ?_))
 ·refine⟨tup1 _,fun tt ft=>?_⟩;exact h tt .close _ (show upd H5 tt _ tt=_ from Zc) (fun z=>by rw[z] at hb;cases hb) (s05.trans (Ze ft)) (s05.free ft)
 have hno:P0.lis=none:=by
  cases hq:P0.lis with
  | none=>rfl
  | some ms=>rw[hq] at hb;cases hb
 dsimp only;have nul:=PL.nfew;have csl:=PL.few;refine⟨_,rfl,d,_,rfl,DGet.k (k:=.inr "people") (s05 _ _ a1),lp,rfl,⟨_,SqL.of (s05 _ _ p1)⟩,Xp (K:=K) (a:=lp) (xs:=pts) (fun i ys H'=>Same H5 H'/\ys=((P0.ppl.take i).map (·.1)).map V.int) #[C,Same.refl _] (fun i ys H' _ ⟨z,_⟩=>SqL.of (z _ _ (s05 _ _ p1))) (szN ⋯) (fun i ys H' ⟨_,e⟩=>by rw[e,zwq,zwq];exact zx5 _ _) ?_ ?_⟩
 ·rintro j x ys H6 hx6 ⟨s6,rfl⟩;obtain⟨tp,pp,rfl,hpp',htp⟩:=Jg p2 hx6;unfold tYes;dsimp only;rw[#[l,rfl]];refine⟨_,rfl,tp,_,_,_,rfl,rfl,SqT.of (s6 _ _ (s05 _ _ htp)),show atI (pV pp) 0=some _ from rfl,s6,?_⟩;rw[X6 hpp',zww,zww];rfl
 rintro ys H6 ⟨s6,rfl⟩ lk flk;rw[hpl,zw9];obtain⟨kn,hkn⟩:∃ kn,kn=P0.ppl.map (·.1):=#[C,_];rw[<- hkn];have s7:=(s05.trans s6).trans (Ze (o:=.lst (kn.map V.int)) flk);have q7:=Zc (H:=H6) (a:=lk) (o:=.lst (kn.map V.int));show X3 13 (V.ref lk) _ (upd H6 lk (.lst (kn.map V.int))) _;generalize upd H6 lk (.lst (kn.map V.int))=H7 at s7 q7 ⊢;walk_at "if";refine⟨_,rfl,ln,rfl,⟨_,SqL.of (s7 _ _ PL.nums)⟩,Xp (K:=K) (a:=ln) (xs:=nu.map V.int) (fun i ys H'=>H'=H7/\ys=((nu.take i).filter fun n=>!decide (n∈kn)).map V.int) #[C,rfl] (fun i ys H' _ ⟨z,_⟩=>by rw[z];exact SqL.of (s7 _ _ PL.nums)) (szN (by rw[zwq];omega)) (fun i ys H' ⟨_,e⟩=>by rw[e,zwq];exact zw6 (zxo _ _) (zx5 _ _)) ?_ ?_⟩
 ·rintro j x ys H8 hx8 ⟨rfl,rfl⟩;rw[zwx] at hx8;obtain⟨n,hn,rfl⟩:=zyo.mp hx8;refine⟨_,rfl,_,rfl,lk,_,rfl,#[L,q7],rfl,(zyx.mpr fun y hy=>by obtain⟨i,_,rfl⟩:=zw0.mp hy;rfl),_,rfl,?_⟩;rw[#[l,rfl],Ig,X6 hn,zyd,zww];refine itB (fun hb=>?_) fun hb=>?_
  ·refine⟨_,rfl,rfl,?_⟩;rw[zx7 (p:=fun n:Int=>!decide (n∈kn)) (a:=n) hb,zyr];rfl
  ·refine⟨rfl,?_⟩;rw[zx8 (p:=fun n:Int=>!decide (n∈kn)) (a:=n) (by rw[hb];decide),zyr];simp
 rintro ys H8 ⟨rfl,rfl⟩ lf flf;rw[zwq,zw9];obtain⟨fs,hfs⟩:∃ fs,fs=nu.filter fun n=>!#[j,n∈kn]:=#[C,_];rw[<- hfs];have hfm:∀ n∈fs,n∈nu/\n∉P0.ppl.map (·.1):=fun n hn=>by
  rw[hfs] at hn;obtain⟨hx1,hx2⟩:=zxu.mp hn;exact⟨hx1,by rw[<- hkn];simpa using hx2⟩
 have hfl:fs.length<=100:=by rw[hfs];exact zw6 (zxo _ _) ⋯
 have s9:=s7.trans (Ze (o:=.lst (fs.map V.int)) flf);have q9:=Zc (H:=H8) (a:=lf) (o:=.lst (fs.map V.int));show X3 14 (V.ref lf) _ (upd H8 lf (.lst (fs.map V.int))) _;generalize upd H8 lf (.lst (fs.map V.int))=H9 at s9 q9 ⊢;walk_at "if";refine Xi (X5 (b:=decide (V.int kd=V.int 3) && !fs.isEmpty) (D5 (Wz fun Q q=>⟨_,rfl,rfl,_,rfl,q⟩) fun H10 s10=>K7 rfl (s10 _ _ q9)) fun H10 s10=>itB (fun hb=>?_) fun _=>Zy ?_)
 ·rw[zx3] at hb;have hne:fs.length≠0:=by have:=hb.2;intro z;rw[zye.mp z] at this;exact absurd this ⋯
  have hpos:(0:Int)<(fs.length:Int):=by omega
  have y0:=zxw R (show (fs.length:Int)≠0 by omega);have y1:=zxn R hpos;have hix:=Wi (xs:=fs) y0 ⋯;have mix:=Th (ns:=fs) (i:=(R%(fs.length:Int)).toNat) ⋯;generalize fs.getD (R%(fs.length:Int)).toNat 0=n at hix mix;have hcl:(0:Int)<(cs.length:Int):=by omega
  have w0:=zxw (R/360) (show (cs.length:Int)≠0 by omega);have w1:=zxn (R/360) hcl;have hcs:=Wi (xs:=cs) w0 ⋯;have mcs:=Th (ns:=cs) (i:=(R/360%(cs.length:Int)).toNat) ⋯;generalize cs.getD (R/360%(cs.length:Int)).toNat 0=c at hcs mcs;have s010:=s9.trans s10;refine⟨_,rfl,_,rfl,_,_,rfl,rfl,⟨by omega,by omega⟩,_,rfl,lc,_,rfl,#[L,s010 _ _ PL.clubs],?_⟩;rw[zwq];refine⟨_,_,rfl,rfl,hcl,lc,_,_,_,rfl,rfl,SqL.of (s010 _ _ PL.clubs),hcs,?_⟩;walk_at "if";refine⟨_,rfl,_,rfl,_,rfl,lf,_,rfl,#[L,s10 _ _ q9],?_⟩;rw[zwq];refine⟨_,_,rfl,rfl,hpos,lf,_,_,_,rfl,rfl,SqL.of (s10 _ _ q9),hix,_,rfl,_,_,rfl,rfl,⟨by omega,by omega⟩,_,_,rfl,rfl,⋯,_,_,rfl,rfl,_,rfl,(by show 4<=sizeLine;rw[sizeLine_eq];decide),fun tt ft=>?_⟩;exact h tt (.enrol n (1+R/40%9) c) _ (show upd H10 tt _ tt=_ from Zc) ⟨hno,(hfm n mix).1,(hfm n mix).2,by omega,by omega,mcs⟩ (s010.trans (Ze ft)) (s010.free ft)
 have s010:=s9.trans s10;dsimp only;refine⟨_,rfl,_,rfl,_,rfl,_,rfl,lc,cs,R,most,mixed,rfl,s010 _ _ PL.clubs,by omega,by omega,PL.cnd,PL.crng,hm1,hmx,fun lm' ts ms H11 hlm tl hml gm s11 flm=>⟨sz2,fun tt ft=>?_⟩⟩;have s12:=Ze (o:=.tup [.str "draw up",.ref lm']) ft;exact h tt (.draw ms) _ ⟨lm',ts,Zc,s12 _ _ hlm,tl.same s12,s010.free flm⟩ ⟨hno,hml,gm⟩ ((s010.trans s11).trans s12) ((s010.trans s11).free ft)
abbrev Xm:Stmt:=top 76
theorem Jb:#[r,["_law_script","_law_crowd","_law_many"],["_law_script","_law_crowd"],Xm]:=fnS
@[irreducible] def So:List Expr:=zex (zah (Oq (Xn (Zv Xm) 0)))
@[irreducible] def Jc:Pos:=zey (zah (Oq (Xn (Zv Xm) 0)))
theorem Et:Zv Xm=[.Assign (zhd (Xn (Zv Xm) 0)) (.Subscript (.List So Jc) (zi0 (Oq (Xn (Zv Xm) 0))) (zi1 (Oq (Xn (Zv Xm) 0)))) (stP (Xn (Zv Xm) 0)),Xn (Zv Xm) 1]:=by unfold So Jc;kernel_rfl
theorem Eu:Gd So [4,3,5,4,6,10,4,8]:=by unfold So;exact⟨by kernel_rfl,by kernel_rfl⟩
theorem zaz(F:#[k,"_law_pool","_law_pool",Xm])(T:#[n])(zof:Ya P w K mg base "_law_at" 1 ["_law_script","_law_k"] (zed K))(zry:Ya P w K mg base "_law_clubs" 1 ["_law_cell_here","_law_many"] zc3)(zq3:Ya P w K mg base "_law_numbers" 1 ["_law_cell_here","_law_many"] Hh):FnOk P w K mg base #[i] 2 f fd ["_law_script","_law_crowd"] (zad K):=by
 refine #[o,Jb];obtain⟨b,ns,cr,rfl,hS,hc1,hc2,h⟩:=h;rw[Et];refine⟨_,(Zb (pS 2 Jb.nd (pI (iL K) (Z1 (Oj [4,3,5,4,6,10,4,8] Eu)) (Zs Ys (Zs Xc (pF zof hr (Za (pv 0) (Za Zg Zd))) Zg) Zg)))
 (Zf (Zn (Yc (Za (pF zry hr (Za (pF zof hr (Za (pv 0) (Za Zg Zd))) (Za (pv 2) Zd))) (Za (pF zq3 hr (Za (pF zof hr (Za (pv 0) (Za Zg Zd))) (Za (pv 1) Zd))) Zd)))))),?_⟩
 refine zk4 [4,3,5,4,6,10,4,8] ⋯ fun l H1 q1 s1 fl=>?_;have h0:=zxw (Xz ns 0/4) (show (8:Int)≠0 by decide);have h1:=zxn (Xz ns 0/4) (show (0:Int)<8 by decide);refine⟨_,rfl,b,ns,0,rfl,s1.seq hS,_,_,rfl,rfl,⟨by decide,by decide⟩,_,_,rfl,rfl,(show (0:Int)<8 by decide),l,_,_,_,rfl,rfl,SqL.of q1,Wi (xs:=[4,3,5,4,6,10,4,8]) h0 (by show _<((8:Nat):Int);omega),?_⟩;obtain⟨m,hm,hm1,hm2⟩:∃ m:Nat,([4,3,5,4,6,10,4,8]:List Int).getD (Xz ns 0/4%8).toNat 0=m/\3<=m/\m<=10:=by
  have hk:(Xz ns 0/4%8).toNat<8:=by omega
  generalize (Xz ns 0/4%8).toNat=k at hk
  match k,hk with
  | 0,_=>exact⟨4,rfl,by decide,by decide⟩
  | 1,_=>exact⟨3,rfl,by decide,by decide⟩
  | 2,_=>exact⟨5,rfl,by decide,by decide⟩
  | 3,_=>exact⟨4,rfl,by decide,by decide⟩
  | 4,_=>exact⟨6,rfl,by decide,by decide⟩
  | 5,_=>exact⟨10,rfl,by decide,by decide⟩
  | 6,_=>exact⟨4,rfl,by decide,by decide⟩
  | 7,_=>exact⟨8,rfl,by decide,by decide⟩
 rw[hm];refine⟨_,rfl,b,ns,3,rfl,s1.seq hS,_,rfl,_,m,rfl,by omega,fun lc H2 hlc s2 f2=>?_⟩;refine⟨_,rfl,b,ns,2,rfl,(s1.trans s2).seq hS,_,rfl,_,cr,rfl,by omega,fun ln H3 hln s3 f3=>?_⟩;refine⟨sz2,fun t ht=>?_⟩;have s4:=Ze (o:=.tup [.ref lc,.ref ln]) ht;have s13:=s1.trans (s2.trans s3);refine h t lc ln _ _ _ ⟨Zc,#[N,s4,s3,hlc],s4 _ _ hln,by rw[Fw];exact⟨hm1,hm2⟩,zaf _ hm2,zeu _ _,by rw[Mg];exact⟨hc1,hc2⟩,zag _ ⋯,zew _ _⟩ (Mg _ _) (s13.trans s4) (s13.free ht) (s1.free f2) ((s1.trans s2).free f3)
abbrev Yk:Stmt:=top 77
theorem Yy:#[r,["_law_script","_law_pool_here","_law_clubs_here","_law_numbers_here","_law_many","_law_grades","_law_rest_here","_law_deeds","_law_k"],["_law_script","_law_pool_here"],Yk]:=fnS
@[irreducible] def Ux:List Expr:=zex (Oq (Xn (Zv Yk) 3))
@[irreducible] def O2:Pos:=zey (Oq (Xn (Zv Yk) 3))
theorem Jz:Zv Yk=[Xn (Zv Yk) 0,Xn (Zv Yk) 1,Xn (Zv Yk) 2,.Assign (zhd (Xn (Zv Yk) 3)) (.List Ux O2) (stP (Xn (Zv Yk) 3)),Xn (Zv Yk) 4,Xn (Zv Yk) 5,Xn (Zv Yk) 6,Xn (Zv Yk) 7]:=by unfold Ux O2;kernel_rfl
theorem J0:Gd Ux [1,2,3,4,5,6,7,8,9,9,9,9,9,8,8,7,6,5]:=by unfold Ux;exact⟨by kernel_rfl,by kernel_rfl⟩
theorem Ew(F:#[k,"_law_people","_law_people",Yk])(T:#[n])(zof:Ya P w K mg base "_law_at" 1 ["_law_script","_law_k"] (zed K))(zpe:Ya P w K mg base "_law_mix" 1 ["_law_cell_here","_law_k"] zc2):FnOk P w K mg base #[i] 2 f fd ["_law_script","_law_pool_here"] (Gj K):=by
 refine #[o,Yy];obtain⟨b,t,lc,ln,ns,cs,nu,rfl,hS,PA,h⟩:=h;rw[Jz];refine⟨_,(Zb (Iq (pv 1) (Wy (K:=K) (n:=2) rfl rfl (Z9 (pN 2 Yy.nd) (Z9 (pN 3 Yy.nd) Ww))))
 (Zb (pS 4 Yy.nd (Zs Ys (pF zof hr (Za (pv 0) (Za Zg Zd))) (Zs Yr (Zq (cL K) (by rfl) T.zoi PySem.boot_len (Za (pv 3) Zd)) Zg)))
 (Zb (Z3 (Zo Xd (Zs Ys (Zs Xc (pF zof hr (Za (pv 0) (Za Zg Zd))) (Zs Yr (Zq (cL K) (by rfl) T.zoi PySem.boot_len (Za (pv 3) Zd)) Zg)) Zg) Zg (Zu _))
  (Zf (pS 4 Yy.nd (Zs Q9 (Zq (cL K) (by rfl) T.zoi PySem.boot_len (Za (pv 3) Zd)) (Zs Ys (pv 4) Zg))))
  Zt)
 (Zb (pS 5 Yy.nd (Z1 (Oj [1,2,3,4,5,6,7,8,9,9,9,9,9,8,8,7,6,5] J0)))
 (Zb (pS 6 Yy.nd (pF zof hr (Za (pv 0) (Za Zg Zd))))
 (Zb (pS 7 Yy.nd (Z1 Zd))
 (Zb (Xo PassesOwn.leaving rfl (Wx rfl T.zpf (Za (pv 4) Zd)) (pN 8 Yy.nd)
  (Zb (Y5 (pv 7) (Yc (Za Zl (Za (pI (iL K) (pv 3) (pv 8)) (Za (pI (iL K) (pv 5) (Zs Ys (pv 6) Zg)) (Za (pI (iL K) (pv 2) (Zs Ys (Zs Xc (pv 6) Zg) (Zq (cL K) (by rfl) T.zoi PySem.boot_len (Za (pv 2) Zd)))) Zd))))))
  (Zf (pS 6 Yy.nd (pI (iL K) (Z1 (Za (Zs Xc (Zs Xc (pv 6) Zg) (Zq (cL K) (by rfl) T.zoi PySem.boot_len (Za (pv 2) Zd))) (Za (pF zpe hr (Za (pv 6) (Za (pv 8) Zd))) Zd))) (Zs Ys (pF zof hr (Za (pv 0) (Za Zg Zd))) Zg))))))
 (Zf (Zn (pv 7)))))))))),?_⟩
 show let y1:TS:=_;let y2:TS:=Zx _ y1;let y3:TS:=Zx _ y2;let y4:TS:=Zx _ y3;let y5:TS:=Zx _ y4;let y6:TS:=Zx _ y5;let y7:TS:=Zx _ y6;Zx _ y7 _ _ _;intro y1 y2 y3 y4 y5 y6 y7;have sz0:([]:List V).length<=sizeLine:=zxk _;have hw:(0:Int)<(nu.length:Int)+1:=by omega
 obtain⟨c1,c2⟩:=PA.few;obtain⟨n1,n2⟩:=PA.nfew;refine⟨_,rfl,t,_,rfl,SqT.of PA.tup,rfl,_,_,rfl,_,_,rfl,rfl,?_⟩;walk_at "if";refine⟨_,rfl,b,ns,4,rfl,hS,_,rfl,ln,_,rfl,#[L,PA.nums],_,_,rfl,rfl,?_⟩;rw[zwq];refine⟨_,_,rfl,rfl,hw,?_⟩;walk_at "if";have u0:=zxw (Xz ns 4) (show (nu.length:Int)+1≠0 by omega);have u1:=zxn (Xz ns 4) hw
 let jv2:L2.St->Hp->Prop:=fun σ' H'=>H'=H/\∃ m:Nat,σ'=[#[b,b],#[b,t],#[b,lc],#[b,ln],#[f,m],none,none,none,none]/\m<=nu.length
 refine Pc (b:=decide (V.int (Xz ns 4/((nu.length:Int)+1)%2)=V.int 1)) jv2 (fun Q q=>?_) (fun _ N hN=>?_) (fun _ N hN=>?_) ?_
 ·refine⟨_,rfl,b,ns,4,rfl,hS,_,rfl,ln,_,rfl,#[L,PA.nums],_,_,rfl,rfl,?_⟩;rw[zwq];exact⟨_,_,rfl,rfl,⟨hw,by omega⟩,_,_,rfl,rfl,by omega,rfl,_,rfl,q⟩
 ·refine#[ac,_,ln,_,#[L,PA.nums],?_];rw[zwq];refine⟨_,rfl,_,_,rfl,rfl,by omega,_,_,rfl,rfl,hN _ _ ⟨rfl,((nu.length:Int)-Xz ns 4%((nu.length:Int)+1)%2).toNat,?_,by omega⟩⟩;rw[zyy ⋯];rfl
 ·refine Zy (hN _ _ ⟨rfl,(Xz ns 4%((nu.length:Int)+1)).toNat,?_,by omega⟩);rw[zyy ⋯];rfl
 rintro σ H' ⟨rfl,m,rfl,hm⟩;refine zaj [1,2,3,4,5,6,7,8,9,9,9,9,9,8,8,7,6,5] ⋯ fun lg H2 hg s2 fg=>?_;refine⟨_,rfl,b,ns,5,rfl,s2.seq hS,sz0,fun r fr=>?_⟩;have s1:=s2.trans (Ze (o:=.lst []) fr);have q1:=Zc (H:=H2) (a:=r) (o:=.lst []);have hg1:=Ze (o:=.lst []) fr _ _ hg;walk_at "if";generalize upd H2 r (.lst [])=H1 at s1 q1 hg1 ⊢;have fr0:=s2.free fr;have frg:lg≠r:=Zh hg fr
 let jv3:Nat->L2.St->Hp->Prop:=fun i σ H3=>(∃ v8 R,σ=[some (.ref b),some (.ref t),some (.ref lc),some (.ref ln),some (.int m),some (.ref lg),some (.int R),some (.ref r),v8])/\(∀ x o,H1 x=some o->x≠r->H3 x=some o)/\∃ ts es,H3 r=#[w,ts]/\Yf H3 ts ((es:List P3).map enV)/\es.length=i/\es.map (·.1)=nu.take i/\(∀ x∈es,1<=x.2.1/\x.2.1<=9/\x.2.2∈cs)
 refine⟨_,rfl,_,rfl,by omega,by omega,Ua jv3
  ⟨⟨_,_,rfl⟩,fun _ _ e _=>e,[],[],q1,.nil,rfl,rfl,(fun m z=>nomatch z)⟩ ?_ ?_⟩
 ·rintro i σ H3 hi ⟨⟨v8,R,rfl⟩,k,ts,es,hr',tl,hml,enu,eok⟩;rw[zxc] at hi;rw[zyq];have s3:Same H' H3:=fun x o e=>k _ _ (s1 _ _ e) (Zh e fr0);have hg3:=k _ _ hg1 frg;have PA3:=PA.same s3;have hcl:(0:Int)<(cs.length:Int):=by omega
  have w0:=zxw R (show (18:Int)≠0 by omega);have w1:=zxn R (show (0:Int)<18 by omega);have y0:=zxw (R/18) (show (cs.length:Int)≠0 by omega);have y1:=zxn (R/18) hcl;have hgr:=Wi (xs:=Ba) w0 (by show _<((18:Nat):Int);omega);have rgr:=zb4 (R%18).toNat ⋯;generalize hgv:Ba.getD (R%18).toNat 0=gv at hgr rgr;have hcs:=Wi (xs:=cs) y0 ⋯;have mcs:=Th (ns:=cs) (i:=(R/18%(cs.length:Int)).toNat) ⋯;generalize cs.getD (R/18%(cs.length:Int)).toNat 0=c at hcs mcs;have hni:i<nu.length:=by omega
  have hnu:nu[i]?=some (nu[i]'hni):=zws hni;have etk:nu.take (i+1)=nu.take i++[nu[i]'hni]:=zxe hni;generalize nu[i]'hni=n at hnu etk;walk_at "if";refine#[ac,_,r,_,hr',?_];refine⟨_,rfl,_,rfl,ln,_,_,_,rfl,rfl,SqL.of PA3.nums,Zz (by rw[zwx,hnu];rfl),_,rfl,_,rfl,_,_,rfl,rfl,⋯,lg,_,_,_,rfl,rfl,SqL.of hg3,hgr,?_⟩;refine⟨_,rfl,_,rfl,_,_,rfl,rfl,⟨by omega,by omega⟩,_,rfl,lc,_,rfl,#[L,PA3.clubs],?_⟩;rw[zwq];refine⟨_,_,rfl,rfl,hcl,lc,_,_,_,rfl,rfl,SqL.of PA3.clubs,hcs,(by show 4<=sizeLine;rw[sizeLine_eq];decide),fun tt ft=>?_⟩;have s4:=Ze (o:=.tup [.str "enrol",.int n,.int gv,.int c]) ft;have q4:=Zc (H:=H3) (a:=tt) (o:=.tup [.str "enrol",.int n,.int gv,.int c]);generalize upd H3 tt (.tup [.str "enrol",.int n,.int gv,.int c])=H4 at s4 q4 ⊢;have tln:=tl.length;rw[zwq] at tln;refine⟨ts,s4 _ _ hr',szN ⋯,?_⟩;have k5:∀ x o,H4 x=#[d]->x≠r->upd H4 r (.lst (ts++[.ref tt])) x=#[d]:=fun x o e n=>by rw[Zi n];exact e
  have q5:=Zc (H:=H4) (a:=r) (o:=.lst (ts++[.ref tt]));have kt5:∀ x ys,H4 x=#[A,ys]->upd H4 r (.lst (ts++[.ref tt])) x=#[A,ys]:=fun x ys e=>k5 _ _ e #[aq,Yz,e,s4 _ _ hr'];dsimp only;generalize upd H4 r (.lst (ts++[.ref tt]))=H5 at k5 q5 kt5 ⊢;have s05:Same H' H5:=fun x o e=>k5 _ _ #[N,s4,s3,e] (Zh e fr0);have PA5:=PA.same s05;obtain⟨mx,hmx,hmx1⟩:∃ mx:Nat,Xz ns 0%2=mx/\mx<=1:=⟨(Xz ns 0%2).toNat,by omega,by omega⟩;obtain⟨z,hz⟩:=at2 (R/18/(cs.length:Int)) (zbo R (i:Int)) hmx1;refine⟨_,rfl,_,_,rfl,rfl,⟨by omega,by omega⟩,_,rfl,lc,_,rfl,#[L,PA5.clubs],?_⟩;rw[zwq];refine⟨_,_,rfl,rfl,⟨hcl,by omega⟩,_,rfl,_,rfl,_,_,rfl,sz2,fun l2 f2=>?_⟩;have s6:=Ze (o:=.lst [.int (R/18/(cs.length:Int)),.int (zbo R (i:Int))]) f2;have q6:=Zc (H:=H5) (a:=l2) (o:=.lst [.int (R/18/(cs.length:Int)),.int (zbo R (i:Int))]);generalize upd H5 l2 (.lst [.int (R/18/(cs.length:Int)),.int (zbo R (i:Int))])=H6 at s6 q6 ⊢;refine⟨_,rfl,b,ns,0,rfl,(s05.trans s6).seq hS,_,_,rfl,rfl,⋯,l2,_,_,_,rfl,rfl,SqL.of q6,(by rw[hmx];exact hz),?_⟩;refine⟨⟨_,_,rfl⟩,fun x o e n=>s6 _ _ (k5 _ _ (s4 _ _ (k _ _ e n)) n),ts++[.ref tt],es++[(n,gv,c)],s6 _ _ q5,?_,by rw[zwt,hml];rfl,?_,?_⟩
  ·rw[zww];exact(tl.mono fun x ys e=>s6 _ _ (kt5 _ _ (s4 _ _ e))).snoc (s6 _ _ (kt5 _ _ q4))
  ·rw[zww,enu,etk];rfl
  ·intro m hm;rcases zw2.mp hm with hm|hm
   ·exact eok m hm
   ·rw[zwv.mp hm];exact⟨rgr.1,rgr.2,mcs⟩
 ·rintro σ H3 ⟨⟨v8,R,rfl⟩,k,ts,es,hr',tl,hml,enu,eok⟩;rw[zxc] at hml enu;refine#[t,_,h r ts es H3 hr' tl (by rw[hml];exact enu) ⋯ eok (fun x o e=>k _ _ (s1 _ _ e) (Zh e fr0)) fr0]
abbrev Sd:Stmt:=top 78
theorem U7:#[r,["_law_season","_law_pages","_law_deeds","_law_deed_here"],["_law_season","_law_pages","_law_deeds"],Sd]:=fnS
theorem J1(F:#[k,"_law_enrolled","_law_enrolled",Sd])(T:#[n])(zpt:Ya P w K mg base "_law_do" 8 ["_law_season","_law_deed_here"] (ziy K (ca a)))(zpo:Ya P w K mg base "_law_paged" 3 ["_law_pages","_law_deed_here"] (C8 K)):FnOk P w K mg base #[i] 9 f fd ["_law_season","_law_pages","_law_deeds"] (Ja K (ca a)):=by
 refine #[o,U7];obtain⟨mb,A',l,le,ts,es,ds,d,P0,S,nu,n,rfl,SA,hl,hlo,F,hle,hlf,tl,nd,eok,hp30,hn90,hcur,hlen,h⟩:=h;refine⟨_,(Zb (Xo PassesOwn.leaving rfl (Yh (K:=K) rfl (pv 2)) (pN 3 U7.nd)
  (Zb (Z8 (pF zpt hr (Za (pv 0) (Za (pv 3) Zd))))
  (Zf (pS 1 U7.nd (pF zpo hr (Za (pv 1) (Za (pv 3) Zd)))))))
 (Zf (Zn (pv 1)))),?_⟩
 have tln:=tl.length;rw[zwq] at tln
 let jv4:Nat->L2.St->Hp->Prop:=fun i σ H1=>∃ A1 l1 ds1 d1 P1 S1 v,σ=[#[b,A'.p],#[b,l1],#[b,le],v]/\Zw (ca a) H1 A1 S1/\H1 l1=#[T,(ds1++[d1]).map,V.ref]/\l1∉A1.fp/\Full mb (·∉A1.fp) H1 nu (n+i) ds1 d1 P1 S1/\FrN A' A1 H H1/\S1.cur=none/\S1.led=S.led/\S1.len=S.len/\S1.ppl=S.ppl++es.take i
 refine⟨_,rfl,le,rfl,⟨_,SqL.of hle⟩,Wh (K:=K) (a:=le) (xs:=ts) jv4
  ⟨A',l,ds,d,P0,S,_,rfl,SA,hl,hlo,F,.refl _ _,hcur,rfl,rfl,by simp⟩ (fun i σ H1 _ ⟨A1,_,_,_,_,_,_,_,_,_,_,_,f,_⟩=>SqL.of (f.k _ _ hle hlf).1) ?_ ?_⟩
 ·rintro i x σ H1 hx ⟨A1,l1,ds1,d1,P1,S1,v,rfl,SA1,hl1,ho1,F1,f1,e1,e2,e3,e4⟩;have hi:i<ts.length:=(zwr.mp hx).1;have hie:i<es.length:=by omega
  have hex:es[i]?=some (es[i]'hie):=zws hie;have etk:=X6 hex;have hmem:es[i]'hie∈es:=zxp hie;obtain⟨t,ht1,ht2⟩:∃ t,x=.ref t/\H t=some (.tup (enV (es[i]'hie))):=by
   obtain⟨t,r,z1,z2,z3⟩:=tl.get hx;rw[zwx,hex] at z2;cases z2;exact⟨t,z1,z3⟩
  have hfr:(es[i]'hie).1∉(es.take i).map (·.1):=fun z=>by
   obtain⟨y,hy,ey⟩:=zw0.mp z;obtain⟨j,hj,rfl⟩:=zx4 hy;rw[zyw] at hj;rw[List.getElem_take] at ey;have h1:(es.map (·.1))[j]'(by rw[zwq];omega)=(es.map (·.1))[i]'(by rw[zwq];omega):=by rw[List.getElem_map,List.getElem_map];exact ey
   have:=(List.getElem_inj nd).mp h1;omega
  have hok:=eok _ hmem;have hlen:=hlen (List.ne_nil_of_mem hmem);generalize es[i]'hie=x0 at hex etk hmem ht2 hfr hok;obtain⟨k,gr,c⟩:=x0;subst ht1;have hD:Uh (·∉A1.fp) H1 t (.enrol k gr c):=f1.kt _ _ ht2;have g:K3 S1 (.enrol k gr c):=by
   refine⟨by rw[e2,e3];exact hlen,e1,hok.2.1,?_,?_⟩
   ·rw[e4,zww];intro z;rcases zw2.mp z with z|z
    ·exact hok.2.2 z
    ·exact hfr z
   ·rw[e4,zwt,zyw];omega
  obtain⟨b1,b2,b3,b4,b5,b6,b7,b8,b9,b10⟩:=F1.pre g ⋯;refine⟨_,rfl,_,rfl,A1,S1,t,_,(by rw[f1.p];rfl),SA1,hD,g,b1,b2,b3,b4,b5,b6,b7,b8,b9,b10,fun v' A2 S2 H2 af SA2 nx fr _=>?_⟩;have f12:=FrN.next SA1 nx fr;obtain⟨c1,c2,c3,c4,c5⟩:=F1.pre2 g ⋯
  refine⟨_,rfl,_,rfl,(·∉A2.fp),l1,t,ds1,d1,P1,.enrol k gr c,rfl,(f12.k _ _ hl1 ho1).1,F1.pg.fr f12,hD.fr f12,c1,c2,c3,c4,c5,fun l3 d3 H3 hl3 pg s3 fl3 fd3=>?_⟩;obtain⟨ds2,d2,P2,ek,Pe,eP,_⟩:=turn F1 SA1 af SA2 nx fr g (fun k' gr' c' z=>by cases z;exact hok.1) pg s3 fd3;cases af with
  | enrol k gr c =>
    rw[ek] at hl3;refine⟨A2,l3,ds2,d2,P2,_,_,rfl,SA2.same s3,hl3,SA2.newOk _ fl3,Pe.full (fun s hs=>?_) fun z=>?_,f1.trans (f12.trans (.of s3)),e1,e2,e3,?_⟩
    ·have hs:S1.cur=some s:=hs;rw[e1] at hs;cases hs
    ·rw[eP nofun];show P1.mv=_;rw[F1.re.mv z,Nn e1];exact(Nn e1).symm
    ·show S1.ppl++[(k,gr,c)]=_;rw[e4,etk,zyf]
 ·rintro σ H1 ⟨A1,l1,ds1,d1,P1,S1,v,rfl,SA1,hl1,ho1,F1,f1,e1,e2,e3,e4⟩;rw[tln] at F1;exact#[t,_,h A1 l1 ds1 d1 P1 S1 H1 SA1 hl1 ho1 F1 f1 e1 e2 e3]
abbrev Wg:Stmt:=top 79
theorem za0:#[r,["_law_script"],["_law_script"],Wg]:=fnS
@[irreducible] def Sr:List Expr:=zex (zah (ziz (Xn (Zv Wg) 0)))
@[irreducible] def Jd:Pos:=zey (zah (ziz (Xn (Zv Wg) 0)))
theorem Ex:Zv Wg=[.Return (some (.Subscript (.List Sr Jd) (zi0 (ziz (Xn (Zv Wg) 0))) (zi1 (ziz (Xn (Zv Wg) 0))))) (stP (Xn (Zv Wg) 0))]:=by unfold Sr Jd;kernel_rfl
theorem Ey:Gd Sr [0,1,2,3,4,5,6,7,8,9,10,0,0,0,1,1,1,2,2,0,1,3]:=by unfold Sr;exact⟨by kernel_rfl,by kernel_rfl⟩
theorem za1(F:#[k,"_law_rest","_law_rest",Wg])(T:#[n])(zof:Ya P w K mg base "_law_at" 1 ["_law_script","_law_k"] (zed K)):FnOk P w K mg base #[i] 2 f fd ["_law_script"] (zab K):=by
 refine #[o,za0];obtain⟨b,ns,rfl,hS,h⟩:=h;rw[Ex];refine#[al,_,pI (iL K) (Z1 (Oj [0,1,2,3,4,5,6,7,8,9,10,0,0,0,1,1,1,2,2,0,1,3] Ey)) (Zs Ys (pF zof hr (Za (pv 0) (Za Zg Zd))) Zg)];refine zk3 K2 ⋯ fun l H1 q1 s1 fl=>?_;have h0:=zxw (Xz ns 1) (show (22:Int)≠0 by decide);have h1:=zxn (Xz ns 1) (show (0:Int)<22 by decide);have hat:=Wi (xs:=K2) h0 (show _<((22:Nat):Int) by omega);have hb:0<=K2.getD (Xz ns 1%22).toNat 0/\K2.getD (Xz ns 1%22).toNat 0<=10:=by
  generalize (Xz ns 1%22).toNat=k;rw[zxi];cases e:K2[k]? with
  | none=>exact⟨by decide,by decide⟩
  | some x =>
    have hm:=zw4 e;have:∀ x∈K2,0<=x/\x<=10:=by decide
    exact this x hm
 have hfin:=h (K2.getD (Xz ns 1%22).toNat 0).toNat H1 rfl ⋯ s1;rw[zyy hb.1] at hfin;exact⟨_,rfl,b,ns,1,rfl,s1.seq hS,_,_,rfl,rfl,(show (0:Int)<22 by decide),l,_,_,_,rfl,rfl,SqL.of q1,hat,hfin⟩
abbrev N7:Stmt:=top 80
theorem za2:#[r,["_law_script","_law_k"],["_law_script","_law_k"],N7]:=fnS
theorem za3(F:#[k,"_law_cell","_law_cell",N7])(T:#[n])(zof:Ya P w K mg base "_law_at" 1 ["_law_script","_law_k"] (zed K))(zpe:Ya P w K mg base "_law_mix" 1 ["_law_cell_here","_law_k"] zc2):FnOk P w K mg base #[i] 2 f fd ["_law_script","_law_k"] (zac K):=by
 refine #[o,za2];obtain⟨b,ns,k,rfl,hS,hk,h⟩:=h;refine⟨_,(Zb (Z3 (Zo Xd (Zs Ys (pF zof hr (Za (pv 0) (Za Zg Zd))) Zg) Zg (Zu _))
  (Zf (Zn (pF zpe hr (Za (pI (iL K) (pv 0) (pv 1)) (Za (pv 1) Zd)))))
  Zt)
 (Zf (Zn (pI (iL K) (pv 0) (pv 1))))),?_⟩
 have hk':(ns.map V.int)[k]?=#[f,ns[k]'hk]:=by rw[zwx,zws hk];rfl
 refine⟨_,rfl,b,ns,0,rfl,hS,_,_,rfl,rfl,(show (0:Int)<2 by decide),rfl,_,rfl,?_⟩;refine itB (fun _=>?_) fun _=>?_
 ·exact⟨_,rfl,_,rfl,b,_,_,_,rfl,rfl,hS,Zz hk',_,rfl,_,_,rfl,h _ H (Same.refl _)⟩
 ·exact⟨_,rfl,_,rfl,b,_,_,_,rfl,rfl,hS,Zz hk',h _ H (Same.refl _)⟩
abbrev Ut:Stmt:=Z0 (top 59) 27
theorem Xu:#[r,["self","number","place","sheet","person","match","out"],["self","number","place"],Ut]:=fnS
theorem Lc(F:#[k,"reasons","Season.reasons",Ut])(T:#[n])(zn2:Zp P w K mg base a.znw "sheet_at_hand" 1 ["self"] #[e,Tt])(zoy:Zp P w K mg base a.zn3 "person" 3 #[Z] #[e,Hq])(zp5:Zp P w K mg base a.znz "match_at" 2 #[v,"place"] #[e,K0])(zov:Zp P w K mg base a.znw "is_away" 2 ["self","at","number"] #[e,Ga])(zny:Zp P w K mg base a.znw "at_hand" 2 ["self"] #[e,Vv])(zo5:Ya P w K mg base "reasons_bars" 3 ["referee","match","out","ledger","rest"] (Lr K a.zn1)):FnOk P w K mg base #[i] 4 f fd ["self","number","place"] #[e,K9]:=by
 refine #[o,Xu];obtain⟨A',S,n,i,rfl,SA,sn,si,hlt0,hl,hno,h⟩:=h;refine⟨_,(Zb (pS 3 Xu.nd (Yi (pv 0) T.znx zn2 (hr.mono ⋯) Zj))
 (Zb (pS 4 Xu.nd (Yg (Zr (K:=K) rfl (pv 0) rfl) T.zoc zoy (hr.mono ⋯) Zj (Za (pv 1) Zd)))
 (Zb (pS 5 Xu.nd (Yg (pv 3) T.zn6 zp5 (hr.mono ⋯) Zj (Za (pv 2) Zd)))
 (Zb (pS 6 Xu.nd (Yg (pv 0) T.znx zov (hr.mono ⋯) Zj (Za (Yi (pv 0) T.znx zny (hr.mono ⋯) Zj) (Za (pv 1) Zd))))
 (Zf (Zn (pF zo5 hr (Za (pv 4) (Za (pv 5) (Za (pv 6) (Za (Zr (K:=K) rfl (pv 0) rfl) (Za (Zr (K:=K) rfl (pv 0) rfl) Zd)))))))))))),?_⟩
 obtain⟨⟨dx,v,a1,a2⟩,br,bl,_⟩:=id SA;obtain⟨⟨dxr,kvr,hpr,hdr,en⟩,ndr⟩:=id br;refine⟨_,rfl,A'.p,dx,_,rfl,a1,Z6 ⋯,A',S,rfl,SA,hno,fun s q hs Sq=>?_⟩;obtain⟨h1,h2⟩:=h s hs;have hlt:=hlt0 s hs;obtain⟨dxq,m1,m2,m3,m4,hq⟩:=ShAt.ins Sq;walk_at "if";refine⟨_,rfl,A'.p,a.znw,dx,_,_,rfl,a1,T.znx,T.zow,Xq,A'.pr,dxr,_,rfl,hpr,Y8.no ⋯,_,rfl,A'.pr,A'.dr,S.ppl,n,rfl,br,sn,h1,fun g c t H2 hm ht s2 _=>?_⟩;have hin:n∈S.ppl.map (·.1):=zw0.mpr ⟨_,hm,rfl⟩;obtain⟨h3,h4⟩:=h2 hin;have SA2:=SA.same s2;have Sq2:=Sq.same s2;walk_at "if";refine⟨_,rfl,q,dxq,_,rfl,s2 _ _ hq,Wm ⋯ ⋯ ⋯ ⋯,_,rfl,(·∉A'.fp),q,s,i,rfl,Sq2,si,fun z=>h3 z H2 s2,fun k m tm hik hmk htm=>?_⟩;walk_at "if";refine⟨_,rfl,A'.p,dx,_,rfl,s2 _ _ a1,Z6 ⋯,_,rfl,A'.p,dx,_,rfl,s2 _ _ a1,Z6 ⋯,A',S,rfl,SA2,_,rfl,A',S,atV S,n,rfl,SA2,Yl (zw6 (show (atV S).natAbs<=2000 by unfold atV;omega) ⋯),sn,?_⟩;rw[#[g,(by unfold atV;omega)],#[l,hin]];intro H3 s3;have s03:=s2.trans s3;walk_at "if";refine⟨_,rfl,_,rfl,_,rfl,_,rfl,A'.p,a.znw,dx,_,_,rfl,s03 _ _ a1,T.znx,T.zpj,Ue,_,rfl,A'.p,a.znw,dx,_,_,rfl,s03 _ _ a1,T.znx,T.ztb,zdj,t,tm,A'.pl,A'.lr,A'.ld,S.led,n,g,c,m.1,m.2.1,m.2.2,S.rest,_,rfl,s3 _ _ ht,s3 _ _ htm,bl.same s03,fun l H4 hl4 s4 f4=>?_⟩;exact h4 k m g c hik hmk hm l H4 hl4 (s03.trans s4) (s03.free f4)
abbrev Se:Stmt:=top 81
theorem J2:#[r,["_law_season","_law_row"],["_law_season","_law_row"],Se]:=fnS
theorem J9(F:#[k,"_law_question","_law_question",Se])(T:#[n])(zp0:Zp P w K mg base a.znw "matches" 4 #[v,"at"] #[e,D3])(zoq:Zp P w K mg base a.znw "goes" 4 #[v,"at"] #[e,C4])(zq5:Zp P w K mg base a.znw "left" 4 #[v,"at"] #[e,A9])(zrd:Zp P w K mg base a.znw "why" 4 #[v,"at"] #[e,zjk])(zqd:Zp P w K mg base a.znw "chains" 4 #[v,"at"] #[e,zaa])(zqs:Zp P w K mg base a.znw "where" 4 ["self","at","number"] #[e,zdn])(zov:Zp P w K mg base a.znw "is_away" 2 ["self","at","number"] #[e,Ga])(zp4:Zp P w K mg base a.znw "referee" 3 #[Z] #[e,D2])(zro:Zp P w K mg base a.znw "may" 3 #[v,"place"] #[e,zjl])(zp1:Zp P w K mg base a.znw "reasons" 4 ["self","number","place"] #[e,K9]):FnOk P w K mg base #[i] 5 f fd ["_law_season","_law_row"] (Gn K (ca a)):=by
 refine #[o,J2];obtain⟨A',S,t,q,nu,n,rfl,SA,ht,sq,so,oo,hn,hE,h⟩:=h;refine⟨_,(Zb (Z3 (Zo Xd (pI (iU K) (pv 1) Zg) Zl (Zu _))
  (Zf (Zn (Yg (pv 0) T.znx zp0 (hr.mono ⋯) Zj (Za (pI (iU K) (pv 1) Zg) Zd))))
  Zt)
 (Zb (Z3 (Zo Xd (pI (iU K) (pv 1) Zg) Zl (Zu _))
  (Zf (Zn (Yg (pv 0) T.znx zoq (hr.mono ⋯) Zj (Za (pI (iU K) (pv 1) Zg) Zd))))
  Zt)
 (Zb (Z3 (Zo Xd (pI (iU K) (pv 1) Zg) Zl (Zu _))
  (Zf (Zn (Yg (pv 0) T.znx zq5 (hr.mono ⋯) Zj (Za (pI (iU K) (pv 1) Zg) Zd))))
  Zt)
 (Zb (Z3 (Zo Xd (pI (iU K) (pv 1) Zg) Zl (Zu _))
  (Zf (Zn (Yg (pv 0) T.znx zrd (hr.mono ⋯) Zj (Za (pI (iU K) (pv 1) Zg) Zd))))
  Zt)
 (Zb (Z3 (Zo Xd (pI (iU K) (pv 1) Zg) Zl (Zu _))
  (Zf (Zn (Yg (pv 0) T.znx zqd (hr.mono ⋯) Zj (Za (pI (iU K) (pv 1) Zg) Zd))))
  Zt)
 (Zb (Z3 (Zo Xd (pI (iU K) (pv 1) Zg) Zl (Zu _))
  (Zf (Zn (Yg (pv 0) T.znx zqs (hr.mono ⋯) Zj (Za (pI (iU K) (pv 1) Zg) (Za (pI (iU K) (pv 1) Zg) Zd)))))
  Zt)
 (Zb (Z3 (Zo Xd (pI (iU K) (pv 1) Zg) Zl (Zu _))
  (Zf (Zn (Yg (pv 0) T.znx zov (hr.mono ⋯) Zj (Za (pI (iU K) (pv 1) Zg) (Za (pI (iU K) (pv 1) Zg) Zd)))))
  Zt)
 (Zb (Z3 (Zo Xd (pI (iU K) (pv 1) Zg) Zl (Zu _))
  (Zf (Zn (Yg (pv 0) T.znx zp4 (hr.mono ⋯) Zj (Za (pI (iU K) (pv 1) Zg) Zd))))
  Zt)
 (Zb (Z3 (Zo Xd (pI (iU K) (pv 1) Zg) Zl (Zu _))
  (Zf (Zn (Yg (pv 0) T.znx zro (hr.mono ⋯) Zj (Za (pI (iU K) (pv 1) Zg) Zd))))
  Zt)
 (Zf (Zn (Yg (pv 0) T.znx zp1 (hr.mono ⋯) Zj (Za (pI (iU K) (pv 1) Zg) (Za (pI (iU K) (pv 1) Zg) Zd)))))))))))))),?_⟩
 show let y1:TS:=_;let y2:TS:=Zx _ y1;let y3:TS:=Zx _ y2;let y4:TS:=Zx _ y3;let y5:TS:=Zx _ y4;let y6:TS:=Zx _ y5;let y7:TS:=Zx _ y6;let y8:TS:=Zx _ y7;let y9:TS:=Zx _ y8;Zx _ y9 _ _ _;intro y1 y2 y3 y4 y5 y6 y7 y8 y9;obtain⟨⟨dx,vv,a1,a2⟩,_⟩:=id SA;have ol:=so.olen;have lt:=so.len;cases q with
 | mat i =>
   refine Sy rfl ht ?_;exact⟨_,rfl,A'.p,dx,_,rfl,a1,Z6 ⋯,_,rfl,t,_,_,_,rfl,rfl,#[P],Zz (j:=1) rfl,A',S,i,rfl,SA,Vq (r:=none) sq ol (fun x e=>hE x e _ fun _ _ z=>z) fun s hs hd l ts H' _ _ s1 _=>h hd _ _ s1⟩
 | go i =>
   refine Yb rfl ht ⋯ (Sy rfl ht ?_);exact⟨_,rfl,A'.p,dx,_,rfl,a1,Z6 ⋯,_,rfl,t,_,_,_,rfl,rfl,#[P],Zz (j:=1) rfl,A',S,i,rfl,SA,Vq (r:=none) sq ol (fun x e=>hE x e _ fun _ _ z=>z) fun s hs hd l H' _ s1 _=>h hd _ _ s1⟩
 | lef i =>
   refine Yb rfl ht ⋯ (Yb rfl ht ⋯ (Sy rfl ht ?_));exact⟨_,rfl,A'.p,dx,_,rfl,a1,Z6 ⋯,_,rfl,t,_,_,_,rfl,rfl,#[P],Zz (j:=1) rfl,A',S,i,rfl,SA,Vq (r:=none) sq ol (fun x e=>hE x e _ fun _ _ z=>z) fun s hs hd=>⟨(Wr so oo hs).q.1,(Wr so oo hs).q.2.1,fun l H' _ s1 _=>h hd _ _ s1⟩⟩
 | wh i =>
   refine Yb rfl ht ⋯ (Yb rfl ht ⋯ (Yb rfl ht ⋯ (Sy rfl ht ?_)));exact⟨_,rfl,A'.p,dx,_,rfl,a1,Z6 ⋯,_,rfl,t,_,_,_,rfl,rfl,#[P],Zz (j:=1) rfl,A',S,i,rfl,SA,Vq (r:=none) sq ol (fun x e=>hE x e _ fun _ _ z=>z) fun s hs hd=>⟨(Wr so oo hs).mo,(Wr so oo hs).fi,(Wr so oo hs).q.2.2,fun t lp lr ps rs H' _ _ _ _ s1 _ _ _ _=>h hd _ _ s1⟩⟩
 | cha i =>
   refine #[aA,Sy rfl ht ?_];exact⟨_,rfl,A'.p,dx,_,rfl,a1,Z6 ⋯,_,rfl,t,_,_,_,rfl,rfl,#[P],Zz (j:=1) rfl,A',S,i,rfl,SA,Vq (r:=none) sq ol (fun x e=>hE x e _ fun _ _ z=>z) fun s hs hd=>⟨zw6 (Wr so oo hs).gp.1 ⋯,fun l ts H' _ _ s1 _=>h hd _ _ s1⟩⟩
 | whe i m =>
   refine Yb rfl ht ⋯ #[aA,Sy rfl ht ?_];refine⟨_,rfl,A'.p,dx,_,rfl,a1,Z6 ⋯,_,rfl,t,_,_,_,rfl,rfl,#[P],Zz (j:=1) rfl,_,rfl,t,_,_,_,rfl,rfl,#[P],Zz (j:=2) rfl,A',S,i,m,rfl,SA,sq.2,Vq (r:=dueN S m none) sq.1 ol (fun x e=>hE x e _ fun _ _ z=>z) fun s hs hd=>⟨(Wr so oo hs).q.1,(Wr so oo hs).q.2.1,?_⟩⟩
   replace hE:∀ r,dueN S m none=some r->∀ H',#[q]->E (.ref #[e,r.cls]) none H':=fun r e=>hE r (hd.trans e)
   replace h:dueN S m none=none->∀ v H',#[q]->Q v H':=fun e=>h (hd.trans e)
   unfold dueN at hE h;split
   ·rename_i c;rw[#[l,c]] at h;exact fun H' s1=>h rfl _ _ s1
   ·rename_i c;rw[#[g,c]] at hE;exact hE _ rfl _ fun _ _ z=>z
 | awa i m =>
   refine Yb rfl ht ⋯ (Yb rfl ht ⋯ #[aA,Sy rfl ht ?_]);refine⟨_,rfl,A'.p,dx,_,rfl,a1,Z6 ⋯,_,rfl,t,_,_,_,rfl,rfl,#[P],Zz (j:=1) rfl,_,rfl,t,_,_,_,rfl,rfl,#[P],Zz (j:=2) rfl,A',S,i,m,rfl,SA,sq.1,sq.2,?_⟩;simp only[Qu.due,dueN] at hE h;split
   ·rename_i c;rw[#[l,c]] at hE;exact hE _ rfl _ fun _ _ z=>z
   ·rename_i c;rw[#[g,c]] at hE h;split
    ·rename_i c2;rw[#[l,c2]] at h;exact fun H' s1=>h rfl _ _ s1
    ·rename_i c2;rw[#[g,c2]] at hE;exact hE _ rfl _ fun _ _ z=>z
 | ref_ m =>
   refine Yb rfl ht ⋯ (Yb rfl ht ⋯ (Yb rfl ht ⋯ #[aA,Sy rfl ht ?_]));simp only[Qu.due,dueN] at hE h;refine⟨_,rfl,A'.p,dx,_,rfl,a1,Z6 ⋯,_,rfl,t,_,_,_,rfl,rfl,#[P],Zz (j:=1) rfl,A',S,m,rfl,SA,sq,fun c=>?_,fun g c tk hm _=>?_⟩
   ·rw[#[g,c]] at hE;exact hE _ rfl _ fun _ _ z=>z
   ·rw[if_pos (zw0.mpr ⟨_,hm,rfl⟩)] at h;exact h rfl _ _ fun _ _ z=>z
 | mayQ k =>
   refine #[aA,#[aA,Sy rfl ht ?_]];simp only[Qu.due,dueK] at hE h;refine⟨_,rfl,A'.p,dx,_,rfl,a1,Z6 ⋯,_,rfl,t,_,_,_,rfl,rfl,#[P],Zz (j:=1) rfl,A',S,k,rfl,SA,sq,fun c=>?_,fun s hs=>⟨(so.shOk hs).ml,fun c=>?_,fun j r e hr l H' _ s1 _=>?_⟩⟩
   ·rw[c] at hE;exact hE _ rfl _ fun _ _ z=>z
   ·rw[hs] at hE;simp only[#[l,c]] at hE;exact hE _ rfl _ fun _ _ z=>z
   ·rw[hs] at h;have hj:=(zwr.mp hr).1;rw[(so.shOk hs).ml] at hj;simp only[#[g,(show ¬ (k<0\/(s.ms.length:Int)<=k) by omega)]] at h;exact h trivial _ _ s1
 | rea m k =>
   refine #[aA,#[aA,Yb rfl ht ⋯ ?_]];simp only[Qu.due,dueN,dueK] at hE h;refine⟨_,rfl,A'.p,dx,_,rfl,a1,Z6 ⋯,_,rfl,t,_,_,_,rfl,rfl,#[P],Zz (j:=1) rfl,_,rfl,t,_,_,_,rfl,rfl,#[P],Zz (j:=2) rfl,A',S,m,k,rfl,SA,sq.1,sq.2,fun s hs=>so.lt (by rw[hs];exact nofun),by omega,fun c=>?_,fun s hs=>⟨fun c H' s1=>?_,fun c=>⟨fun c2 H' s1=>?_,fun j mm g cl e hm hp l H' _ s1 _=>?_⟩⟩⟩
   ·rw[c] at hE;exact hE _ rfl _ fun _ _ z=>z
   ·rw[hs] at hE;simp only[zy1,if_true,#[g,c]] at hE;exact hE _ rfl _ s1
   ·rw[hs] at hE;simp only[zy1,if_true,#[l,c],#[l,c2]] at hE;exact hE _ rfl _ s1
   ·rw[hs] at h;have hj:=(zwr.mp hm).1;simp only[zy1,if_true,#[l,c],#[g,(show ¬ (k<0\/(s.ms.length:Int)<=k) by omega)]] at h;exact h trivial _ _ s1
theorem cat2{D:Q7}{v0 v1:Option V}{vr:List (Option V)}{l e c1 c2 C:Addr}{H:Hp}{b1 b2:Bool}{xs:#[a]}(hx:H e=some (excO e (.ref C)))(hl:#[y,H,l,xs])(hz:xs.length<=100)(ei:Cj K C)(k1:PySem.W.kitOne K (.ref C) (.ref c1)=some b1)(k2:PySem.W.kitOne K (.ref C) (.ref c2)=some b2)
  (k:∀ l' H',H' l'=#[w,xs++[.bl b1,.bl b2]]->H' e=some (excO e (.ref C))->#[q]->D.nx (v0 :: v1 :: #[b,l'] :: #[b,e] :: vr) H') :
  Bt (tOp zkf (tVar 2) (tLst (Va (tCB (rIsI K) (Va (tVar 3) (Va (tC (V.ref c1)) tNil))) (Va (tCB (rIsI K) (Va (tVar 3) (Va (tC (V.ref c2)) tNil))) tNil)))) (X3 2) D (v0 :: v1 :: some (.ref l) :: some (.ref e) :: vr) H:=by
 refine⟨_,rfl,_,rfl,_,_,_,_,rfl,.exc rfl rfl hx ei,.inr ⟨_,rfl⟩,k1,_,rfl,_,_,_,_,rfl,.exc rfl rfl hx ei,.inr ⟨_,rfl⟩,k2,sz2,fun l1 hl1=>?_⟩;have s1:=Ze (o:=.lst [.bl b1,.bl b2]) hl1;refine⟨l,l1,xs,_,rfl,rfl,s1 _ _ hl,Zc,szN (by show xs.length+2<=1000;omega),fun l2 hl2=>?_⟩;have s2:=s1.trans (Ze (o:=.lst (xs++[.bl b1,.bl b2])) hl2);exact k l2 _ Zc (s2 _ _ hx) s2
theorem zmo{D:Q7}{v0 v1:Option V}{vr:List (Option V)}{l e c1 C:Addr}{H:Hp}{b1:Bool}{xs:#[a]}(hx:H e=some (excO e (.ref C)))(hl:#[y,H,l,xs])(hz:xs.length<=100)(ei:Cj K C)(k1:PySem.W.kitOne K (.ref C) (.ref c1)=some b1)(k2:PySem.W.kitOne K (.ref C) (.type "ValueError")=some true)
  (k:∀ l' H',H' l'=#[w,xs++[.bl b1,.bl true]]->#[q]->D.nx (v0 :: v1 :: #[b,l'] :: #[b,e] :: vr) H') :
  Bt (tOp zkf (tVar 2) (tLst (Va (tCB (rIsI K) (Va (tVar 3) (Va (tC (V.ref c1)) tNil))) (Va (tCB (rIsI K) (Va (tVar 3) (Va (tC (V.ty "ValueError")) tNil))) tNil)))) (X3 2) D (v0 :: v1 :: some (.ref l) :: some (.ref e) :: vr) H:=by
 refine⟨_,rfl,_,rfl,_,_,_,_,rfl,.exc rfl rfl hx ei,.inr ⟨_,rfl⟩,k1,_,rfl,_,_,_,_,rfl,.exc rfl rfl hx ei,.inl ⟨_,rfl⟩,k2,sz2,fun l1 hl1=>?_⟩;have s1:=Ze (o:=.lst [.bl b1,.bl true]) hl1;refine⟨l,l1,xs,_,rfl,rfl,s1 _ _ hl,Zc,szN (by show xs.length+2<=1000;omega),fun l2 hl2=>?_⟩;have s2:=s1.trans (Ze (o:=.lst (xs++[.bl b1,.bl true])) hl2);exact k l2 _ Zc s2
abbrev Ri:Stmt:=top 82
theorem Ye:#[r,["_law_season","_law_row","_law_names","e","_law_words"],["_law_season","_law_row"],Ri]:=fnS
theorem Fn(F:#[k,"_law_outcome","_law_outcome",Ri])(T:#[n])(zpt:Ya P w K mg base "_law_do" 8 ["_law_season","_law_deed_here"] (ziy K (ca a)))(zqm:Ya P w K mg base "_law_question" 5 ["_law_season","_law_row"] (Gn K (ca a))):FnOk P w K mg base #[i] 9 f fd ["_law_season","_law_row"] (D8 K (ca a)):=by
 refine #[o,Ye];obtain⟨A',S,t,q,nu,n,rfl,SA,ht,sq,so,oo,hn,hE,h⟩:=h;have hu:=X8 hr;refine⟨_,(Zb (pS 2 Ye.nd (Z1 Zd))
 (Zb (zgi (as:=[]) (i:=3) zec Ye.nd rfl rfl T.ztq rfl T.ztt
  (fun E1 lk1 pn1 EX1 hl1 hO hP =>
  (Zb (Z3 (Zo (Ud (K:=K) rfl) (pI (iU K) (pv 1) Zg) (Z1 (Za Zl (Za Zl (Za Zl (Za Zl (Za Zl Zd)))))) (by with_unfolding_all rfl))
   (Zf (Zn (Yc (Za Zl (Za (Dg zpt (hr.mono ⋯) hP rfl (Za (pv 0) (Za (pv 1) Zd))) Zd)))))
   Zt)
  (Zf (Zn (Yc (Za Zl (Za (Dg zqm (hr.mono ⋯) hP rfl (Za (pv 0) (Za (pv 1) Zd))) Zd)))))))
  (fun a1 =>
  (Zb (pS 2 Ye.nd (Z1 (Za (Zq (Yo (K:=K) rfl) (by rfl) T.zn5 PyProof.Rows.boot_isinstance (Za (pv 3) (Za (Wc rfl T.zth) Zd))) (Za (Zq (Yo (K:=K) rfl) (by rfl) T.zn5 PyProof.Rows.boot_isinstance (Za (pv 3) (Za (Wc rfl T.zs0) Zd))) Zd))))
  (Zb (pS 2 Ye.nd (Zs W2 (pv 2) (Z1 (Za (Zq (Yo (K:=K) rfl) (by rfl) T.zn5 PyProof.Rows.boot_isinstance (Za (pv 3) (Za (Wc rfl T.zse) Zd))) (Za (Zq (Yo (K:=K) rfl) (by rfl) T.zn5 PyProof.Rows.boot_isinstance (Za (pv 3) (Za (Wc rfl T.zsm) Zd))) Zd)))))
  (Zb (pS 2 Ye.nd (Zs W2 (pv 2) (Z1 (Za (Zq (Yo (K:=K) rfl) (by rfl) T.zn5 PyProof.Rows.boot_isinstance (Za (pv 3) (Za (Wc rfl T.zsk) Zd))) (Za (Zq (Yo (K:=K) rfl) (by rfl) T.zn5 PyProof.Rows.boot_isinstance (Za (pv 3) (Za (Wc rfl T.zt0) Zd))) Zd)))))
  (Zb (pS 2 Ye.nd (Zs W2 (pv 2) (Z1 (Za (Zq (Yo (K:=K) rfl) (by rfl) T.zn5 PyProof.Rows.boot_isinstance (Za (pv 3) (Za (Wc rfl T.ztg) Zd))) (Za (Zq (Yo (K:=K) rfl) (by rfl) T.zn5 PyProof.Rows.boot_isinstance (Za (pv 3) (Za (Wc rfl T.zs6) Zd))) Zd)))))
  (Zb (pS 2 Ye.nd (Zs W2 (pv 2) (Z1 (Za (Zq (Yo (K:=K) rfl) (by rfl) T.zn5 PyProof.Rows.boot_isinstance (Za (pv 3) (Za (Wc rfl T.ztx) Zd))) (Za (Zq (Yo (K:=K) rfl) (by rfl) T.zn5 PyProof.Rows.boot_isinstance (Za (pv 3) (Za (Wc rfl T.zti) Zd))) Zd)))))
  (Zb (pS 2 Ye.nd (Zs W2 (pv 2) (Z1 (Za (Zq (Yo (K:=K) rfl) (by rfl) T.zn5 PyProof.Rows.boot_isinstance (Za (pv 3) (Za (Wc rfl T.zta) Zd))) (Za (Zq (Yo (K:=K) rfl) (by rfl) T.zn5 PyProof.Rows.boot_isinstance (Za (pv 3) (Za (Wc rfl T.zt6) Zd))) Zd)))))
  (Zb (pS 2 Ye.nd (Zs W2 (pv 2) (Z1 (Za (Zq (Yo (K:=K) rfl) (by rfl) T.zn5 PyProof.Rows.boot_isinstance (Za (pv 3) (Za (Wc rfl T.ztz) Zd))) (Za (Zq (Yo (K:=K) rfl) (by rfl) T.zn5 PyProof.Rows.boot_isinstance (Za (pv 3) (Za (Wc rfl T.zrr) Zd))) Zd)))))
  (Zf (pS 2 Ye.nd (Zs W2 (pv 2) (Z1 (Za (Zq (Yo (K:=K) rfl) (by rfl) T.zn5 PyProof.Rows.boot_isinstance (Za (pv 3) (Za (Wc rfl T.zsz) Zd))) (Za (Zq (Yo (K:=K) rfl) (by rfl) T.zn5 PyProof.Rows.boot_isinstance (Za (pv 3) (Za (Ib rfl T.zrm PyProof.Rows.Boot.«ValueError» (show RelV (.ty "ValueError") _ from rfl)) Zd))) Zd)))))))))))))))
 (Zb (pS 4 Ye.nd Zl)
 (Zb (pS 4 Ye.nd (Zs D6 (pv 4) Zl))
 (Zb (pS 4 Ye.nd (zf9 PySem.F.plainAttrs_str PySem.F.slot_str_split PySem.F.type_str_split zhs (Zs D6 (pv 4) Zl) (Za Zl Zd)))
 (Zf (Zn (Yc (Za Zl (Za (Vb rfl (cT ["_law_words","_law_names"] [4,2]) (Wx rfl T.zpf (Za Zg Zd)) (fun _ _ _ _ _=>R8 (Ss (pI (iL K) (pv 2) (pv 0)))) (fun _ _ _ _ _=>(pI (iL K) (pv 1) (pv 0)))) Zd)))))))))),?_⟩
 show let y1:TS:=_;let y2:TS:=Zx _ y1;let y3:TS:=Zx _ y2;let y4:TS:=Zx _ y3;let y5:TS:=Zx _ y4;Zx _ y5 _ _ _;intro y1 y2 y3 y4 y5;refine#[ap,fun l0 hl0=>?_];have s0:Same H (upd H l0 (.lst [])):=Ze hl0;generalize upd H l0 (.lst [])=H0 at s0;obtain⟨w,rw_,hw,hno⟩:=q.word;have ht0:=s0 _ _ ht;rw[hw] at ht0;refine zk9 rfl ht0 hno fun Hd sd=>?_;have s0:=s0.trans sd;refine⟨_,rfl,_,rfl,A',S,t,q,nu,n,rfl,SA.same s0,s0 _ _ ht,sq,so,oo,hn,fun r hr H1 s1=>?_,fun hd v H1 s1=>?_⟩
 ·have hne:r=r:=rfl;have ei:=T.ei r hne;refine⟨_,rfl,T.mB r hne,fun e he=>?_⟩;have s2:=s0.trans (s1.trans (Ze (o:=excO e (.ref (r.cls (ca a)))) he));have hx:upd H1 e (excO e (.ref #[e,r.cls])) e=some (excO e (.ref #[e,r.cls])):=Zc;generalize upd H1 e (excO e (.ref (r.cls (ca a))))=H2 at s2 hx;refine⟨_,rfl,_,_,_,_,rfl,.exc rfl rfl hx ei,.inr ⟨_,rfl⟩,T.kit r .out hne,_,rfl,_,_,_,_,rfl,.exc rfl rfl hx ei,.inr ⟨_,rfl⟩,T.kit r .known hne,sz2,fun l1 hl1=>?_⟩;have s3:=s2.trans (Ze (o:=.lst [.bl (decide (r=.out)),.bl (decide (r=.known))]) hl1);have q3:upd H2 l1 (.lst [.bl (decide (r=.out)),.bl (decide (r=.known))]) l1=#[c,.lst,[.bl (decide (r=.out)),.bl (decide (r=.known))]]:=Zc;have x3:=Ze (o:=.lst [.bl (decide (r=.out)),.bl (decide (r=.known))]) hl1 _ _ hx;generalize upd H2 l1 (.lst [.bl (decide (r=.out)),.bl (decide (r=.known))])=H3 at s3 q3 x3;walk_at "if";refine cat2 x3 q3 (by show 2<=100;decide) ei (T.kit r .many hne) (T.kit r .unk hne) fun l2 H4 q4 x4 s4=>?_;refine cat2 x4 q4 (by show 4<=100;decide) ei (T.kit r .manyM hne) (T.kit r .same hne) fun l3 H5 q5 x5 s5=>?_;refine cat2 x5 q5 (by show 6<=100;decide) ei (T.kit r .noMatch hne) (T.kit r .noRound hne) fun l4 H6 q6 x6 s6=>?_;refine cat2 x6 q6 (by show 8<=100;decide) ei (T.kit r .over hne) (T.kit r .seaOver hne) fun l5 H7 q7 x7 s7=>?_;refine cat2 x7 q7 (by show 10<=100;decide) ei (T.kit r .away hne) (T.kit r .drawn hne) fun l6 H8 q8 x8 s8=>?_;refine cat2 x8 q8 (by show 12<=100;decide) ei (T.kit r .notDrawn hne) (T.kit r .nothing hne) fun l7 H9 q9 x9 s9=>?_;refine zmo x9 q9 (by show 14<=100;decide) ei (T.kit r .manyD hne) (T.kitV r hne) fun l8 H10 q10 s10=>?_;have sA:=s3.trans (s4.trans (s5.trans (s6.trans (s7.trans (s8.trans (s9.trans s10))))))
  replace q10:H10 l8=some (.lst (refB r)):=q10
  refine⟨_,rfl,_,_,rfl,rfl,by decide +kernel,?_⟩;refine⟨_,rfl,_,_,rfl,rfl,by decide +kernel,rfl,_,_,rfl,rfl,by decide +kernel,by decide +kernel,by decide +kernel,by decide +kernel,by decide +kernel,fun lw hlw=>?_⟩;rw[ze9];have s11:=sA.trans (Ze (o:=.lst (refW.map V.str)) hlw);have q11:upd H10 lw (.lst (refW.map V.str)) lw=some (.lst (refW.map V.str)):=Zc;have b11:=Ze (o:=.lst (refW.map V.str)) hlw _ _ q10;generalize upd H10 lw (.lst (refW.map V.str))=H11 at s11 q11 b11;refine⟨_,rfl,by decide,by decide,?_⟩;refine Cs (refP r) (fun i=>V.str (refW.getD i "")) ⋯ (fun j R hj k'=>?_) (fun j R hj _ k'=>?_) fun lz flz=>?_
  ·rw[zyq];exact⟨_,rfl,_,rfl,l8,_,_,_,rfl,rfl,SqL.of b11,Zz (zht r hj),_,rfl,k'⟩
  ·rw[zyq];exact⟨_,rfl,_,rfl,lw,_,_,_,rfl,rfl,SqL.of q11,Zz (zhu hj),k'⟩
  rw[show Int.toNat 16=16 from rfl,ze8];have s12:=s11.trans (Ze (o:=.lst [.str r.name,.str "ValueError"]) flz);have q12:upd H11 lz (.lst [.str r.name,.str "ValueError"]) lz=#[c,.lst,[.str r.name,.str "ValueError"]]:=Zc;generalize upd H11 lz (.lst [.str r.name,.str "ValueError"])=H12 at s12 q12;refine⟨sz2,fun u hu'=>hE r hr u lz _ Zc (Ze hu' _ _ q12) (s12.trans (Ze hu')) (s12.free hu')⟩
 ·refine⟨sz2,fun u hu'=>?_⟩;exact h hd u v _ Zc (s0.trans (s1.trans (Ze hu')))
abbrev Vo:Stmt:=top 83
theorem W7:#[r,["_law_pages","_law_row","_law_page","_law_known"],["_law_pages","_law_row"],Vo]:=fnS
theorem Oz(F:#[k,"_law_due_question","_law_due_question",Vo])(T:#[n]):FnOk P w K mg base #[i] 1 f fd ["_law_pages","_law_row"] (zhv K):=by
 refine #[o,W7];obtain⟨ok,mb,l,t,ds,d,P0,S,q,nu,n,rfl,hl,PA,ht,sq,rb,so,hnu,h⟩:=h;have hu:=X8 hr;refine⟨_,(Zb (pS 2 W7.nd (pI (iL K) (pv 0) (Rl Ub Zg)))
 (Zb (Vp (i:=3) W7.nd rfl rfl rfl (cT [] []) (Yh (K:=K) rfl (pD hu (pv 2) Zl)) (fun _ _ _ _ _=>Vc) (fun _ _ _ _ _=>(pI (iU K) (pv 0) Zg)))
 (Zb (Z3 (Zo Xd (pI (iU K) (pv 1) Zg) Zl (Zu _))
  (Zf (Zn (pI (iL K) (Z1 (Za Zl (Za Zl Zd))) (Yq Rn (by rfl) T.zsv PyProof.Rows.boot_int (Za (Vr (Ud (K:=K) rfl) (pI (iU K) (pv 1) Zg) (pv 3) (by with_unfolding_all rfl)) Zd)))))
  Zt)
 (Zb (Z3 (Zo (Ud (K:=K) rfl) (pI (iU K) (pv 1) Zg) (Z1 (Za Zl (Za Zl Zd))) (by with_unfolding_all rfl))
  (Zb (Z3 (Zo Pa (pD hu (pv 2) Zl) Y1 (Zu _))
   (Zf (Zn Zl))
   Zt)
  (Zb (Z3 (PW.pt (Su (Zo Xd (pI (iU K) (pv 1) Zg) Zl (Zu _)) (Uu (Zo (Sx (K:=K) rfl) (pI (iU K) (pv 1) Zg) (pv 3) (by with_unfolding_all rfl)))))
   (Zf (Zn Zl))
   Zt)
  (Zf (Zn (pI (iL K) (Z1 (Za Zl (Za Zl Zd))) (Yq Rn (by rfl) T.zsv PyProof.Rows.boot_int (Za (Cb (Vr zfq Zg (pI (iU K) (pv 1) (Rl Ub Zg)) (Zu _)) (Ld (Vr Kr (pI (iU K) (pv 1) (Rl Ub Zg)) (Zq (cL K) (by rfl) T.zoi PySem.boot_len (Za (pD hu (pv 2) Zl) Zd)) (Zu _)))) Zd)))))))
  Zt)
 (Zb (Z3 (PW.pt (Rk (Zo Kr (pI (iU K) (pv 1) Zg) Zg (Zu _)) (V9 (Zo Ti (pI (iU K) (pv 1) Zg) (pD hu (pv 2) Zl) (Zu _)))))
  (Zf (Zn Zl))
  Zt)
 (Zb (Z3 (PW.pt (Su (Zo Bx (pI (iU K) (pv 1) Zg) Zl (Zu _)) (Uu (Zo Ti (pI (iU K) (pv 1) Zg) (Zs Yr (Zq (cL K) (by rfl) T.zoi PySem.boot_len (Za (pD hu (pv 2) Zl) Zd)) (Yq Rn (by rfl) T.zsv PyProof.Rows.boot_int (Za (Vr Uv (pD hu (pv 2) Zl) Y1 (Zu _)) Zd))) (Zu _)))))
  (Zf (Zn Zl))
  Zt)
 (Zb (Z3 (PW.pt (Su (Zo (Ud (K:=K) rfl) (pI (iU K) (pv 1) Zg) (Z1 (Za Zl (Za Zl Zd))) (by with_unfolding_all rfl)) (Uu (Zo (Sx (K:=K) rfl) (pI (iU K) (pv 1) Zg) (pv 3) (by with_unfolding_all rfl)))))
  (Zf (Zn Zl))
  Zt)
 (Zf (Zn Zl))))))))),?_⟩
 show let y1:TS:=_;let y2:TS:=Zx _ y1;let y3:TS:=_;let y4:TS:=Zx _ y3;let y5:TS:=Zx _ y4;let y6:TS:=Zx _ y5;let y7:TS:=Zx (Ip _ (Zx _ y2) _) y6;let y8:TS:=Zx _ y7;let y9:TS:=Zx _ y8;Zx _ y9 _ _ _;intro y1 y2 y3 y4 y5 y6 y7 y8 y9;have hat:atI ((ds++[d]).map V.ref) (-1)=#[c,V.ref,d]:=by rw[zww];exact L2.atI_last _ _
 have hpl:P0.ppl.length<=100:=by rw[rb.ppl];have:=so.few;omega
 refine⟨_,rfl,_,rfl,l,_,_,_,rfl,rfl,SqL.of hl,hat,?_⟩;walk_at "if";refine zar rfl PA hpl fun lk H1 hlk s1 _=>?_;show y8 _ [#[b,l],#[b,t],#[b,d],#[b,lk]] H1
 replace ht:=s1 _ _ ht
 replace PA:=PA.same s1
 obtain⟨lp,lo,lv,dv,li,lg,lm,a1,PB,okd⟩:=id PA.split;obtain⟨vts,u1,u2,u3⟩:=PB.vv;have hls:=PB.li.some;have ol:=so.olen;have hvl:(vts.length:Int)=(S.led.length:Int):=by have:=u2.length;have:=rb.olen;omega
 have hli:P0.lis.isSome=S.cur.isSome:=by rw[rb.lis];cases S.cur<;>rfl
 rw[hli] at hls;have hl2:#[j,li=V.non]=!S.cur.isSome:=by rw[<- hls,Bool.not_not]
 have h0:∀ H',Same H1 H'->Q (.str (rW (q.due S))) H':=fun H' s=>h H' (s1.trans s);clear h;have eP:P0.ppl.map (·.1)=S.ppl.map (·.1):=by rw[rb.ppl]
 rw[eP] at hlk;have rnd:∀ {w:Str} {i:Int} {rw_:#[a]} {b1:Bool} {r:Option Ref} {H2:Hp},Same H1 H2->H2 t=#[A,.str w :: .int i :: rw_]->#[j,w=("is away":Str)]=b1 ->
   (∀ H',Same H1 H'->Q (.str (rW (if i<1\/(S.len:Int)<i then some .noRound else if b1=true then r else if (Y7 S i).isSome=true then r else some .notDrawn))) H') ->
   ((∀ H',Same H1 H'->Q (.str (rW r)) H')->∀ H3,Same H2 H3->y4 { nx:=fun x H'=>Q V.non H',rt:=Q } [#[b,l],#[b,t],#[b,d],#[b,lk]] H3) ->
   y6 { nx:=fun x H'=>Q V.non H',rt:=Q } [#[b,l],#[b,t],#[b,d],#[b,lk]] H2:=by
  intro w i rw_ b1 r H2 s2 ht2 hb1 hq k;have a2:=s2 _ _ a1;have u4:=s2 _ _ u1;refine Xi (X0 (b:=decide (i<1)||decide ((S.len:Int)<i)) (Mf (fun Q q=>⟨_,rfl,t,_,_,_,rfl,rfl,SqT.of ht2,Zz (j:=1) rfl,_,_,rfl,rfl,_,rfl,q⟩) fun Q q=>⟨_,rfl,t,_,_,_,rfl,rfl,SqT.of ht2,Zz (j:=1) rfl,_,rfl,d,_,rfl,DGet.k (k:=.inr "rounds") a2,_,_,rfl,rfl,_,rfl,by rw[rb.len];exact q⟩) (itB (fun hb=>?_) fun hb=>Zy ?_))
  ·have:=hq H2 s2;rw[#[l,(by simpa using hb)]] at this;exact this
  have hn:¬ (i<1\/(S.len:Int)<i):=by simpa using hb
  simp only[#[g,hn]] at hq;have hs:=zca ol (show 1<=i by omega);dsimp only;refine Xi (X5 (b:=!b1 && !(Y7 S i).isSome) (L8 (b:=!b1) (zhw rfl ht2 (by rw[hb1])) (fun hb' H3 s3=>?_) fun z=>by rw[z];rfl) fun H3 s3=>itB (fun hb=>?_) fun hb=>Zy ?_)
  ·rw[hb',Bool.true_and,hs,Bool.not_not];refine Wz fun Q q=>⟨_,rfl,t,_,_,_,rfl,rfl,SqT.of (s3 _ _ ht2),Zz (j:=1) rfl,_,rfl,d,_,rfl,DGet.k (k:=.inr "over") (s3 _ _ a2),lv,vts,rfl,#[L,s3 _ _ u4],_,rfl,d,_,rfl,DGet.k (k:=.inr "listed") (s3 _ _ a2),rfl,.inr ⟨_,rfl,_,_,rfl,rfl,_,_,rfl,rfl,_,rfl,?_⟩⟩
   rw[hvl,hls];exact q
  ·obtain⟨h1,h2⟩:=(zx3 _ _).mp hb;have h1':b1=false:=by simpa using h1
   have h2':(Y7 S i).isSome=false:=by simpa using h2
   have:=hq H3 (s2.trans s3);rw[h1',if_neg ⋯,h2',if_neg ⋯] at this;exact this
  ·dsimp only;refine k (fun H' s'=>?_) H3 s3;have:=hq H' s';by_cases c:b1=true
   ·rwa [#[l,c]] at this
   ·have c':b1=false:=by simpa using c
    rw[c'] at hb;have c2:(Y7 S i).isSome=true:=by simpa using hb
    rwa [#[g,c],#[l,c2]] at this
 have plain:∀ {w:Str} {i:Int},H1 t=#[A,[.str w,.int i]]->#[j,w=("referee":Str)]=false->inV (.str w) [.str "may",.str "reasons"]=false->#[j,w=("is away":Str)]=false->inV (.str w) [.str "is away",.str "where"]=false->q.due S=dueR S i none->y8 { nx:=fun x H'=>Q V.non H',rt:=Q } [#[b,l],#[b,t],#[b,d],#[b,lk]] H1:=by
  intro w i ht1 w1 w2 w3 w4 hq;refine Yb rfl ht1 w1 ?_;refine Xi (X5 (L9 rfl ht1 (b:=false) w2) fun H2 s2=>#[aa]);dsimp only;refine rnd (b1:=false) (r:=none) s2 (s2 _ _ ht1) w3 (fun H' s'=>?_) fun k H3 s3=>?_
  ·have:=h0 H' s';rw[hq] at this;unfold dueR at this
   rwa [#[g,(show ¬ false=true by decide)]]
  ·refine Xi (X5 (L8 (b:=false) (L9 rfl #[N,s3,s2,ht1] w4) (fun z=>nomatch z) fun _=>rfl) fun H4 s4=>#[aa]);exact k H4 (s2.trans (s3.trans s4))
 have unk:∀ {w:Str} {i m:Int} {b1:Bool},H1 t=#[A,#[S,.str w,i,m]]->#[j,w=("referee":Str)]=false->inV (.str w) [.str "may",.str "reasons"]=false->#[j,w=("is away":Str)]=b1->inV (.str w) [.str "is away",.str "where"]=true->q.due S=(if i<1\/(S.len:Int)<i then some .noRound else if b1=true then dueN S m none else if (Y7 S i).isSome=true then dueN S m none else some .notDrawn)->y8 { nx:=fun x H'=>Q V.non H',rt:=Q } [#[b,l],#[b,t],#[b,d],#[b,lk]] H1:=by
  intro w i m b1 ht1 w1 w2 w3 w4 hq;refine Yb rfl ht1 w1 ?_;refine Xi (X5 (L9 rfl ht1 (b:=false) w2) fun H2 s2=>#[aa]);dsimp only;rw[hq] at h0;refine rnd (b1:=b1) (r:=dueN S m none) s2 (s2 _ _ ht1) w3 h0 fun k H3 s3=>?_;have s23:=s2.trans s3;refine Xi (X5 (L8 (b:=true) (L9 rfl (s23 _ _ ht1) w4) (fun _ H4 s4=>zhx (j:=2) rfl #[N,s4,s23,ht1] rfl rfl #[N,s4,s23,hlk]) fun z=>nomatch z) fun H4 s4=>itB (fun hb=>?_) fun hb=>Zy ?_)
  ·have:=k H4 (s23.trans s4);unfold dueN at this;rw[#[g,(by simpa using hb)]] at this;exact this
  ·have:=k H4 (s23.trans s4);unfold dueN at this;rw[#[l,(by simpa using hb)]] at this;exact this
 have place:∀ {rw_:List V} {k:Int} {r:Option Ref} {H2:Hp},Same H1 H2->H2 t=#[A,rw_]->atI rw_ (-1)=#[f,k]->S.cur.isSome=true->(∀ H',Same H1 H'->Q (.str (rW (dueK S k))) H')->y1 { nx:=fun x H'=>Q V.non H',rt:=Q } [#[b,l],#[b,t],#[b,d],#[b,lk]] H2:=by
  intro rw_ k r H2 s2 ht2 hk hc hq;obtain⟨s,hs⟩:=zxv.mp hc;have hlis:=PB.li;rw[rb.lis,hs] at hlis;obtain⟨ll,ts,e1,e2,e3,_⟩:=hlis;subst e1;have htl:(ts.length:Int)=(s.ms.length:Int):=by rw[e3.length,zwq]
  refine⟨sz2,fun l1 f1=>?_⟩;have s3:=s2.trans (Ze (o:=.lst [.str "NoSuchMatch",.str ""]) f1);have q3:=Zc (H:=H2) (a:=l1) (o:=.lst [.str "NoSuchMatch",.str ""]);have ht3:=Ze (o:=.lst [.str "NoSuchMatch",.str ""]) f1 _ _ ht2;generalize upd H2 l1 (.lst [.str "NoSuchMatch",.str ""])=H3 at s3 q3 ht3 ⊢;have:=hq H3 s3;unfold dueK at this;rw[hs] at this;refine⟨_,rfl,_,rfl,t,_,_,_,rfl,rfl,SqT.of ht3,hk,_,_,rfl,rfl,#[j,0<=k],rfl,itB (fun hb=>?_) fun hb=>?_⟩
  ·have h1:=of_decide_eq_true hb;refine⟨_,rfl,_,rfl,t,_,_,_,rfl,rfl,SqT.of ht3,hk,_,rfl,d,_,rfl,DGet.k (k:=.inr "listed") (s3 _ _ a1),ll,ts,rfl,#[L,s3 _ _ e2],_,_,rfl,rfl,.inr ⟨_,rfl,l1,_,_,_,rfl,rfl,SqL.of q3,Bd _,?_⟩⟩;rw[htl];by_cases c:k<(s.ms.length:Int)
   ·rw[zwy c];simp only[#[g,(show ¬ (k<0\/(s.ms.length:Int)<=k) by omega)]] at this;exact this
   ·rw[zw1 c];simp only[#[l,(show k<0\/(s.ms.length:Int)<=k by omega)]] at this;exact this
  ·have h1:=of_decide_eq_false hb;refine .inr ⟨_,rfl,l1,_,_,_,rfl,rfl,SqL.of q3,Bd _,?_⟩;simp only[#[l,(show k<0\/(s.ms.length:Int)<=k by omega)]] at this;exact this
 cases q with
 | mat i=>exact plain ht ⋯ ⋯ ⋯ ⋯ rfl
 | go i=>exact plain ht ⋯ ⋯ ⋯ ⋯ rfl
 | lef i=>exact plain ht ⋯ ⋯ ⋯ ⋯ rfl
 | wh i=>exact plain ht ⋯ ⋯ ⋯ ⋯ rfl
 | cha i=>exact plain ht ⋯ ⋯ ⋯ ⋯ rfl
 | whe i m=>exact unk (b1:=false) ht ⋯ ⋯ ⋯ ⋯ rfl
 | awa i m=>exact unk (b1:=true) ht ⋯ ⋯ ⋯ ⋯ rfl
 | ref_ m =>
   refine Sy rfl ht ?_;refine⟨sz2,fun l1 f1=>?_⟩;have s2:=Ze (o:=.lst [.str "UnknownReferee",.str ""]) f1;have q2:=Zc (H:=H1) (a:=l1) (o:=.lst [.str "UnknownReferee",.str ""]);generalize upd H1 l1 (.lst [.str "UnknownReferee",.str ""])=H2 at s2 q2 ⊢;refine⟨_,rfl,t,_,_,_,rfl,rfl,SqT.of (s2 _ _ ht),Zz (j:=1) rfl,_,rfl,lk,_,rfl,#[L,s2 _ _ hlk],rfl,D7 _,.inr ⟨_,rfl,l1,_,_,_,rfl,rfl,SqL.of q2,Bd _,?_⟩⟩;rw[#[g,(show ¬ false=true by decide)],Ig];have:=h0 H2 s2;simp only[Qu.due,dueN] at this;by_cases c:m∈S.ppl.map (·.1)
   ·rw[#[l,c]] at this;rw[zwy c];exact this
   ·rw[#[g,c]] at this;rw[zw1 c];exact this
 | mayQ k =>
   refine Yb rfl ht ⋯ ?_;refine Xi (X5 (L9 rfl ht (b:=true) ⋯) fun H2 s2=>iteT ?_);refine Xi (X0 (b:=!S.cur.isSome) (fun Q q=>⟨_,rfl,d,_,rfl,DGet.k (k:=.inr "listed") (s2 _ _ a1),rfl,_,rfl,by show Q (decide (li=V.non)) H2;rw[hl2];exact q⟩) (itB (fun hb=>?_) fun hb=>Zy ?_))
   ·have:=h0 H2 s2;have hc:S.cur=none:=by cases hq:S.cur with|none=>rfl|some s=>rw[hq] at hb;cases hb
    simp only[Qu.due,dueK,hc] at this;exact this
   have hc:S.cur.isSome=true:=by simpa using hb
   dsimp only;refine Xi (X5 (L8 (b:=false) (zds rfl (s2 _ _ ht) ⋯) (fun z=>nomatch z) fun _=>rfl) fun H3 s3=>#[aa]);exact place (r:=none) (s2.trans s3) #[N,s3,s2,ht] rfl hc h0
 | rea m k =>
   refine Yb rfl ht ⋯ ?_;refine Xi (X5 (L9 rfl ht (b:=true) ⋯) fun H2 s2=>iteT ?_);refine Xi (X0 (b:=!S.cur.isSome) (fun Q q=>⟨_,rfl,d,_,rfl,DGet.k (k:=.inr "listed") (s2 _ _ a1),rfl,_,rfl,by show Q (decide (li=V.non)) H2;rw[hl2];exact q⟩) (itB (fun hb=>?_) fun hb=>Zy ?_))
   ·have:=h0 H2 s2;have hc:S.cur=none:=by cases hq:S.cur with|none=>rfl|some s=>rw[hq] at hb;cases hb
    simp only[Qu.due,hc] at this;exact this
   have hc:S.cur.isSome=true:=by simpa using hb
   dsimp only;simp only[Qu.due,#[l,hc]] at h0;refine Xi (X5 (L8 (b:=true) (zds rfl (s2 _ _ ht) ⋯) (fun _ H3 s3=>zhx (j:=1) rfl #[N,s3,s2,ht] rfl rfl #[N,s3,s2,hlk]) fun z=>nomatch z) fun H3 s3=>itB (fun hb=>?_) fun hb=>Zy ?_)
   ·have:=h0 H3 (s2.trans s3);unfold dueN at this;rw[#[g,(by simpa using hb)]] at this;exact this
   ·unfold dueN at h0;rw[#[l,(by simpa using hb)]] at h0;exact place (r:=none) (s2.trans s3) #[N,s3,s2,ht] rfl hc h0
theorem N8{vs:#[p]}{i n:Int}(hn:n=(vs.length:Int))(h0:0<vs.length)(hs:∀ x∈vs,Z7 x):∃ d,atI (vs.map V.int) (i%n)=#[f,d]/\Z7 d:=by
 have h1:=zxw i (show n≠0 by omega);have h2:=zxn i (show 0<n by omega);obtain⟨k,hk⟩:∃ k:Nat,i%n=(k:Int):=⟨(i%n).toNat,by omega⟩;have hkl:k<vs.length:=by omega
 refine⟨vs[k],?_,hs _ (zxp hkl)⟩;rw[hk];exact Zz (by rw[zwx,zws hkl];rfl)
def R1(H:Hp)(vs:#[a]):Prop:=∀ x∈vs,∃ (t:Addr) (q:Qu),x=.ref t/\H t=#[A,q.row]/\q.small
theorem R1.same{H H':Hp}{vs:#[a]}(h:R1 H vs)(s:#[q]):R1 H' vs:=fun x hx=>by
 obtain⟨t,q,e,h1,h2⟩:=h x hx;exact⟨t,q,e,s _ _ h1,h2⟩
theorem R1.add{H H':Hp}{vs us:#[a]}(h:R1 H vs)(s:#[q])(h2:R1 H' us):R1 H' (vs++us):=fun x hx=>by
 rcases zw2.mp hx with z|z
 ·exact h.same s x z
 ·exact h2 x z
theorem R1.cons{H:Hp}{vs:#[a]}{t:Addr}(q:Qu)(h1:#[R,H,t,q.row])(h2:q.small)(h:R1 H vs):R1 H (.ref t :: vs):=fun x hx=>by
 rcases zwu.mp hx with rfl|z
 ·exact⟨t,q,rfl,h1,h2⟩
 ·exact h x z
theorem R1.nil{H:Hp}:R1 H []:=fun _ h=>nomatch h
theorem Bp:Z7 (10 ^ 20:Int):=by unfold Z7;decide +kernel
theorem zla(r:Ref):PyData.strOk r.name=true/\#[j,r.name=("":Str)]=false:=by cases r<;>exact⟨by decide +kernel,by decide +kernel⟩
abbrev N9:Stmt:=top 84
theorem Yp:#[r,["_law_season","_law_pages","_law_cell_here","_law_numbers_here","_law_page","_law_days","_law_many","_law_places","_law_k","_law_day","_law_place","_law_number","_law_rows","_law_row","_law_found","_law_due"],["_law_season","_law_pages","_law_cell_here","_law_numbers_here"],N9]:=fnS
theorem za4(F:#[k,"_law_asks","_law_asks",N9])(T:#[n])(zq8:Ya P w K mg base "_law_outcome" 9 ["_law_season","_law_row"] (D8 K (ca a)))(zpn:Ya P w K mg base "_law_due_question" 1 ["_law_pages","_law_row"] (zhv K)):FnOk P w K mg base #[i] 10 f fd ["_law_season","_law_pages","_law_cell_here","_law_numbers_here"] (zb9 K (ca a)):=by
 refine #[o,Yp];obtain⟨A',S,mb,l,ln,ds,d,P0,c,ns,nu,n,rfl,SA,hl,F0,oo,hn,hln,hnl,hnu,hns,h⟩:=h;have hu:=X8 hr;refine⟨_,(Zb (pS 4 Yp.nd (pI (iL K) (pv 1) (Rl Ub Zg)))
 (Zb (pS 5 Yp.nd (Zs W2 (Z1 (Za (Rl Ub Zg) (Za Zg (Za (Zs Yr (pD hu (pv 4) Zl) Zg) (Za (Zs za7 Zg Zg) Zd))))) (Yq (F8 rfl) (by rfl) T.zpx PyProof.Rows.boot_list (Za (Yq zfd (by rfl) T.zpf boot_range (Za Zg (Za (Zs Yr (pD hu (pv 4) Zl) Zg) Zd))) Zd))))
 (Zb (pS 6 Yp.nd (Zq (cL K) (by rfl) T.zoi PySem.boot_len (Za (zk8 (K:=K) rfl (pD hu (pv 4) Zl) (Ld (Z1 Zd))) Zd)))
 (Zb (pS 7 Yp.nd (Z1 (Za (Rl Ub Zg) (Za Zg (Za Zg (Za Zg (Za (pv 6) (Za (Zs Q9 (pv 6) Zg) (Za (Zs za7 Zg Zg) Zd)))))))))
 (Zb (Xo PassesOwn.leaving rfl (Wx rfl T.zpf (Za Zg Zd)) (pN 8 Yp.nd)
  (Zb (pS 9 Yp.nd (pI (iL K) (pv 5) (Zs Ys (Zs Yr (pv 2) (Zs Sv Zg (pv 8))) (Zq (cL K) (by rfl) T.zoi PySem.boot_len (Za (pv 5) Zd)))))
  (Zb (pS 10 Yp.nd (pI (iL K) (pv 7) (Zs Ys (Zs Yr (pv 2) (pv 8)) Zg)))
  (Zb (pS 11 Yp.nd (pI (iL K) (Zs W2 (pv 3) (Z1 (Za Zg (Za (Zs za7 Zg Zg) Zd)))) (Zs Ys (Zs Yr (pv 2) (Zs Sv Zg (pv 8))) (Zs Yr Zg (Zq (cL K) (by rfl) T.zoi PySem.boot_len (Za (pv 3) Zd))))))
  (Zb (Vp (i:=12) Yp.nd rfl rfl rfl (cT ["_law_day"] [9]) (Yh (K:=K) rfl (Z1 (Za Zl (Za Zl (Za Zl (Za Zl (Za Zl Zd))))))) (fun _ _ _ _ _=>Vc) (fun _ _ _ _ _=>(Yc (Za (pv 0) (Za (pv 1) Zd)))))
  (Zb (pS 12 Yp.nd (Zs W2 (pv 12) (Z1 (Za (Yc (Za Zl (Za (pv 9) (Za (pv 11) Zd)))) (Za (Yc (Za Zl (Za (pv 9) (Za (pv 11) Zd)))) (Za (Yc (Za Zl (Za (pv 11) Zd))) Zd))))))
  (Zf (Xo PassesOwn.leaving rfl (Yh (K:=K) rfl (Zs W2 (pv 12) (Z1 (Za (Yc (Za Zl (Za (pv 10) Zd))) (Za (Yc (Za Zl (Za (pv 11) (Za (pv 10) Zd)))) Zd))))) (pN 13 Yp.nd)
   (Zb (pS 14 Yp.nd (pF zq8 hr (Za (pv 0) (Za (pv 13) Zd))))
   (Zb (pS 15 Yp.nd (pF zpn hr (Za (pv 1) (Za (pv 13) Zd))))
   (Zb (Z3 (PW.pt (Su (Zo Xd (pv 15) Zl (Zu _)) (Uu (Zo Bx (pI (iU K) (pv 14) Zg) Zl (Zu _)))))
    (Zf (Zn Rj))
    Zt)
   (Zf (Z3 (PW.pt (Su (Zo Bx (pv 15) Zl (Zu _)) (Uu (PW.pt (Rk (Zo Bx (pI (iU K) (pv 14) Zg) Zl (Zu _)) (V9 (Zo (Cn (K:=K) rfl hr.units) (pI (iU K) (pv 14) Zg) (Z1 (Za (pv 15) (Za Zl Zd))) (Zu _))))))))
    (Zf (Zn Rj))
    Zt)))))))))))))
 (Zf (Zn Rj))))))),?_⟩
 show let y1:TS:=_;let y2:TS:=Zx _ y1;let y3:TS:=Zx _ y2;let y4:TS:=(zfo _ _ (Zx _ y3));let y5:TS:=Zx _ y4;let y6:TS:=Zx _ y5;let y7:TS:=Zx _ y6;let y8:TS:=Zx _ y7;let y9:TS:=_;let y10:TS:=Zx (zfo _ _ (Zx _ y8)) y9;let y11:TS:=Zx _ y10;let y12:TS:=Zx _ y11;let y13:TS:=Zx _ y12;Zx _ y13 _ _ _;intro y1 y2 y3 y4 y5 y6 y7 y8 y9 y10 y11 y12 y13;have RB:=F0.re.b;have so:=F0.so;have hat:atI ((ds++[d]).map V.ref) (-1)=#[c,V.ref,d]:=by rw[zww];exact L2.atI_last _ _
 obtain⟨lp,lo,lv,dv,li,lg,lm,a1,PB,okd⟩:=id F0.pg.split;have hlen:=so.len;refine⟨_,rfl,_,rfl,l,_,_,_,rfl,rfl,SqL.of hl,hat,?_⟩;walk_at "if";show y13 _ [#[b,A'.p],#[b,l],#[f,c],#[b,ln],#[b,d],none,none,none,none,none,none,none,none,none,none,none] H;refine⟨_,rfl,_,rfl,d,_,rfl,DGet.k (k:=.inr "rounds") a1,_,_,rfl,rfl,_,_,rfl,rfl,⟨by decide,by decide,by decide⟩,sz4,fun l1 f1=>?_⟩;have s1:=Ze (o:=.lst [V.int (-1),V.int 0,V.int ((P0.len:Int)+1),V.int (10 ^ Int.toNat 20)]) f1;have q1:=Zc (H:=H) (a:=l1) (o:=.lst [V.int (-1),V.int 0,V.int ((P0.len:Int)+1),V.int (10 ^ Int.toNat 20)]);generalize upd H l1 (.lst [V.int (-1),V.int 0,V.int ((P0.len:Int)+1),V.int (10 ^ Int.toNat 20)])=H1 at s1 q1 ⊢;have hP:P0.len=S.len:=RB.len;refine⟨_,rfl,d,_,rfl,DGet.k (k:=.inr "rounds") (s1 _ _ a1),_,_,rfl,rfl,_,_,rfl,fun lr flr=>?_⟩;refine⟨lr,_,_,rfl,Zc,⟨by decide,by decide,by omega,by omega⟩,by omega,szN ⋯,fun l2 f2=>?_⟩;have s2:=s1.trans (Ze (o:=.rng 1 ((P0.len:Int)+1)) flr);have q2:=Ze (o:=.rng 1 ((P0.len:Int)+1)) flr _ _ q1;generalize upd H1 lr (.rng 1 ((P0.len:Int)+1))=H2 at s2 f2 q2 ⊢;have s3:=s2.trans (Ze (o:=.lst (rngV 1 ((P0.len:Int)+1-1).toNat)) f2);have q3:upd H2 l2 (.lst (rngV 1 ((P0.len:Int)+1-1).toNat)) l1=#[c,.lst,[V.int (-1),V.int 0,V.int ((P0.len:Int)+1),V.int (10 ^ Int.toNat 20)]]:=(Ze f2) _ _ q2;have r3:=Zc (H:=H2) (a:=l2) (o:=.lst (rngV 1 ((P0.len:Int)+1-1).toNat));generalize upd H2 l2 (.lst (rngV 1 ((P0.len:Int)+1-1).toNat))=H3 at s3 q3 r3 ⊢;refine⟨l1,l2,_,_,rfl,rfl,q3,r3,szN (by unfold rngV;rw[zwq,zxs];show 4+_<=1000;omega),fun l3 f3=>?_⟩;obtain⟨days,hdays,hday0,hdayS⟩:∃ days:#[p],[V.int (-1),V.int 0,V.int ((P0.len:Int)+1),V.int (10 ^ Int.toNat 20)]++rngV 1 ((P0.len:Int)+1-1).toNat=days.map V.int/\0<days.length/\∀ x∈days,Z7 x:=by
  refine⟨[-1,0,(P0.len:Int)+1,10 ^ 20]++(List.range ((P0.len:Int)+1-1).toNat).map fun i=>(1:Int)+(i:Nat),?_,?_,?_⟩
  ·rw[zww,zx1];rfl
  ·rw[zwt];exact zw7 (show 0<4 by decide) (Nat.le_add_right _ _)
  ·intro x hx;rcases zw2.mp hx with z|z
   ·simp only[zwu,zxm,or_false] at z;rcases z with rfl|rfl|rfl|rfl
    ·exact Z5 ⋯ ⋯
    ·exact Z5 ⋯ ⋯
    ·exact Z5 ⋯ ⋯
    ·exact Bp
   ·obtain⟨k,hk,rfl⟩:=zw0.mp z;have:=zxz.mp hk;exact Z5 ⋯ ⋯
 rw[hdays];have s4:=s3.trans (Ze (o:=.lst (days.map V.int)) f3);have q4:=Zc (H:=H3) (a:=l3) (o:=.lst (days.map V.int));generalize upd H3 l3 (.lst (days.map V.int))=H4 at s4 q4 ⊢;clear q3 r3 s3 q2 q1 hdays;show y12 _ [#[b,A'.p],#[b,l],#[f,c],#[b,ln],#[b,d],#[b,l3],none,none,none,none,none,none,none,none,none,none] H4
 suffices hk:∀ (m:Nat) H',m<=20->Same H4 H'->y11 { nx:=fun x H'=>Q V.non H',rt:=Q } [#[b,A'.p],#[b,l],#[f,c],#[b,ln],#[b,d],#[b,l3],#[f,m],none,none,none,none,none,none,none,none,none] H' by
  have hls:=PB.li.some;have hli:P0.lis.isSome=S.cur.isSome:=by rw[RB.lis];cases S.cur<;>rfl
  rw[hli] at hls;cases hc:S.cur with
  | none =>
    rw[hc] at hls;have hl2:li=V.non:=by simpa using hls
    subst hl2;refine⟨_,rfl,d,_,rfl,DGet.k (k:=.inr "listed") (s4 _ _ a1),false,rfl,?_⟩;refine#[ap,fun le fe=>⟨le,[],rfl,#[L,Zc],hk 0 _ ⋯ (Ze fe)⟩]
  | some sh =>
    have hlis:=PB.li;rw[RB.lis,hc] at hlis;obtain⟨ll,ts,e1,e2,e3,_⟩:=hlis;subst e1;have htl:ts.length=sh.ms.length:=by rw[e3.length,zwq]
    have hml:=(so.shOk hc).ms;have s44:=s4;cases hms:ts with
    | nil =>
      subst hms;refine⟨_,rfl,d,_,rfl,DGet.k (k:=.inr "listed") (s4 _ _ a1),false,.inl ⟨_,SqL.of (s4 _ _ e2),rfl⟩,?_⟩;refine#[ap,fun le fe=>⟨le,[],rfl,#[L,Zc],hk 0 _ ⋯ (Ze fe)⟩]
    | cons t0 ts' =>
      subst hms;refine⟨_,rfl,d,_,rfl,DGet.k (k:=.inr "listed") (s4 _ _ a1),true,.inl ⟨_,SqL.of (s4 _ _ e2),rfl⟩,?_⟩;refine⟨ll,_,rfl,#[L,s4 _ _ e2],?_⟩;exact hk (t0 :: ts').length _ (by rw[htl];omega) (Same.refl _)
 intro m H5 hm s5;have s5:=s4.trans s5;have q5:H5 l3=some (.lst (days.map V.int)):=‹Same H4 H5› _ _ q4;refine⟨_,rfl,_,rfl,_,rfl,_,_,rfl,rfl,_,_,rfl,rfl,⟨by decide,by decide,by decide⟩,szN (show 7<=1000 by decide),fun l7 f7=>?_⟩;obtain⟨pls,hpls,hpl0,hplS⟩:∃ pls:#[p],[V.int (-1),V.int 0,V.int 1,V.int 5,V.int (m:Int),V.int ((m:Int)-1),V.int (10 ^ Int.toNat 20)]=pls.map V.int/\pls.length=7/\∀ x∈pls,Z7 x:=by
  refine⟨[-1,0,1,5,(m:Int),(m:Int)-1,10 ^ 20],rfl,rfl,?_⟩;intro x z;simp only[zwu,zxm,or_false] at z;rcases z with rfl|rfl|rfl|rfl|rfl|rfl|rfl
  ·exact Z5 ⋯ ⋯
  ·exact Z5 ⋯ ⋯
  ·exact Z5 ⋯ ⋯
  ·exact Z5 ⋯ ⋯
  ·exact Z5 ⋯ ⋯
  ·exact Z5 ⋯ ⋯
  ·exact Bp
 rw[hpls];have s6:=s5.trans (Ze (o:=.lst (pls.map V.int)) f7);have q6:=Ze (o:=.lst (pls.map V.int)) f7 _ _ q5;have r6:=Zc (H:=H5) (a:=l7) (o:=.lst (pls.map V.int));generalize upd H5 l7 (.lst (pls.map V.int))=H6 at s6 q6 r6 ⊢;clear hpls q5 s5 q4
 replace SA:=SA.same s6
 replace hl:=s6 _ _ hl
 replace F0:=F0.same s6
 replace hln:=s6 _ _ hln
 replace h:∀ H',Same H6 H'->Q (V.bl true) H':=fun H' s=>h H' (s6.trans s)
 replace s6:=Same.refl H6
 refine⟨_,rfl,by decide,by decide,?_⟩
 let jv1:Nat->L2.St->Hp->Prop:=fun i_ σ H'=>∃ v8 v9 v10 v11 v12 v13 v14 v15,σ=[#[b,A'.p],#[b,l],#[f,c],#[b,ln],#[b,d],#[b,l3],#[f,m],#[b,l7],v8,v9,v10,v11,v12,v13,v14,v15]/\Same H6 H'
 refine Ua jv1 ⟨_,_,_,_,_,_,_,_,rfl,Same.refl _⟩ (fun i_ σ H' hi hP=>?_) fun σ H' hP=>?_
 rotate_left
 ·obtain⟨v8,v9,v10,v11,v12,v13,v14,v15,rfl,s7⟩:=hP;exact h _ (s6.trans s7)
 obtain⟨v8,v9,v10,v11,v12,v13,v14,v15,rfl,s7⟩:=hP;walk_at "if";have s8:=s6.trans s7;have q8:=s7 _ _ q6;have r8:=s7 _ _ r6;generalize (0:Int)+(i_:Nat)=k;obtain⟨day,hday,dayS⟩:=N8 (i:=c+3*k) (n:=(days.length:Int)) rfl hday0 hdayS;obtain⟨pl,hpl,plS⟩:=N8 (i:=c+k) (n:=7) (by rw[hpl0];rfl) (by rw[hpl0];decide) hplS;refine⟨_,rfl,_,rfl,_,rfl,_,_,rfl,rfl,.inl ⟨by decide,by decide⟩,_,_,rfl,rfl,_,rfl,l3,_,rfl,#[L,q8],?_⟩;rw[zwq];refine⟨_,_,rfl,rfl,⋯,l3,_,_,_,rfl,rfl,SqL.of q8,hday,?_⟩;walk_at "if";refine⟨_,rfl,_,rfl,_,rfl,_,_,rfl,rfl,_,_,rfl,rfl,(show (0:Int)<7 by decide),l7,_,_,_,rfl,rfl,SqL.of r8,hpl,?_⟩;walk_at "if";refine⟨_,rfl,_,_,rfl,rfl,⟨by decide,by decide,by decide⟩,sz2,fun lz fz=>?_⟩;have ez:[V.int 0,V.int (10 ^ Int.toNat 20)]=([0,10 ^ 20]:List Int).map V.int:=rfl;rw[ez];refine⟨ln,lz,_,_,rfl,rfl,(s8.trans (Ze fz)) _ _ hln,Zc,szN (by rw[zwq];show ns.length+2<=1000;omega),fun l11 f11=>?_⟩;rw[<- zww];have s9:=s8.trans ((Ze (o:=.lst (([0,10 ^ 20]:List Int).map V.int)) fz).trans (Ze (o:=.lst ((ns++[0,10 ^ 20]).map V.int)) f11));have q9:=Zc (H:=upd H' lz (.lst (([0,10 ^ 20]:List Int).map V.int))) (a:=l11) (o:=.lst ((ns++[0,10 ^ 20]).map V.int));generalize upd (upd H' lz (.lst (([0,10 ^ 20]:List Int).map V.int))) l11 (.lst ((ns++[0,10 ^ 20]).map V.int))=H9 at s9 q9 ⊢;obtain⟨num,hnum,numS⟩:=N8 (vs:=ns++[0,10 ^ 20]) (i:=c+2*k) (n:=2+(ns.length:Int)) (by rw[zwt];show 2+(ns.length:Int)=((ns.length+2:Nat):Int);omega) (by rw[zwt];exact zw7 (show 0<2 by decide) (Nat.le_add_left _ _)) (fun x hx=>by
  rcases zw2.mp hx with z|z
  ·exact hns x z
  ·simp only[zwu,zxm,or_false] at z;rcases z with rfl|rfl
   ·exact Z5 ⋯ ⋯
   ·exact Bp)
 have ln9:=s9 _ _ hln;refine⟨_,rfl,_,rfl,_,_,rfl,rfl,.inl ⟨by decide,by decide⟩,_,_,rfl,rfl,_,rfl,ln,_,rfl,#[L,ln9],?_⟩;rw[zwq];refine⟨_,_,rfl,rfl,_,_,rfl,rfl,⋯,l11,_,_,_,rfl,rfl,SqL.of q9,hnum,?_⟩;walk_at "if";clear q8 r8 hday hpl hnum q9 ez f11 fz;refine⟨szN (show 5<=1000 by decide),fun lw fw=>⟨lw,rfl,⟨_,SqL.of Zc⟩,?_⟩⟩;have s10:=s9.trans (Ze (o:=.lst [V.str "matches",V.str "goes",V.str "left",V.str "why",V.str "chains"]) fw);have q10:=Zc (H:=H9) (a:=lw) (o:=.lst [V.str "matches",V.str "goes",V.str "left",V.str "why",V.str "chains"]);generalize upd H9 lw (.lst [V.str "matches",V.str "goes",V.str "left",V.str "why",V.str "chains"])=H10 at s10 q10 ⊢;refine Xp (fun i ys H'=>Same H10 H'/\R1 H' ys/\ys.length<=i) ⟨Same.refl _,.nil,zxk _⟩ (fun _ _ H' _ z=>SqL.of (z.1 _ _ q10)) (szN (show 5<=1000 by decide)) (fun _ _ _ z=>z.2.2) (fun i x ys H' hx hP=>?_) fun ys H' hP p hp=>?_
 ·obtain⟨s11,rq,yl⟩:=hP;obtain⟨q,hq,qS⟩:∃ q:Qu,q.row=[x,.int day]/\q.small:=by
   have hx':=zw4 hx;simp only[zwu,zxm,or_false] at hx';rcases hx' with rfl|rfl|rfl|rfl|rfl
   ·exact#[t,.mat day,dayS]
   ·exact#[t,.go day,dayS]
   ·exact#[t,.lef day,dayS]
   ·exact#[t,.wh day,dayS]
   ·exact#[t,.cha day,dayS]
  dsimp only[tYes];rw[#[l,rfl]];refine⟨_,rfl,_,rfl,sz2,fun t ft=>?_⟩;rw[<- hq];exact⟨s11.trans (Ze ft),rq.add (Ze ft) (.cons q Zc qS .nil),by rw[zwt];show ys.length+1<=i+1;omega⟩
 obtain⟨s11,rq,yl⟩:=hP;have yl:ys.length<=5:=yl;have s12:=s10.trans (s11.trans (Ze (o:=.lst ys) hp));have q12:=Zc (H:=H') (a:=p) (o:=.lst ys);have rq12:=rq.same (Ze (o:=.lst ys) hp);generalize upd H' p (.lst ys)=H12 at s12 q12 rq12 ⊢;clear s11 rq s10 q10;walk_at "if";refine⟨_,rfl,_,rfl,_,rfl,sz3,fun t1 ft1=>⟨_,rfl,_,rfl,sz3,fun t2 ft2=>⟨_,rfl,sz2,fun t3 ft3=>⟨sz3,fun lx fx=>?_⟩⟩⟩⟩;have w1:=Ze (o:=.tup [V.str "where",.int day,.int num]) ft1;have w2:=w1.trans (Ze (o:=.tup [V.str "is away",.int day,.int num]) ft2);have w3:=w2.trans (Ze (o:=.tup [V.str "referee",.int num]) ft3);have w4:=w3.trans (Ze (o:=.lst [.ref t1,.ref t2,.ref t3]) fx);have g1:=Ze (o:=.lst [.ref t1,.ref t2,.ref t3]) fx _ _ (Ze (o:=.tup [V.str "referee",.int num]) ft3 _ _ (Ze (o:=.tup [V.str "is away",.int day,.int num]) ft2 _ _ (Zc (H:=H12) (a:=t1) (o:=.tup [V.str "where",.int day,.int num]))));have g2:=Ze (o:=.lst [.ref t1,.ref t2,.ref t3]) fx _ _ (Ze (o:=.tup [V.str "referee",.int num]) ft3 _ _ (Zc (a:=t2) (o:=.tup [V.str "is away",.int day,.int num])));have g3:=Ze (o:=.lst [.ref t1,.ref t2,.ref t3]) fx _ _ (Zc (a:=t3) (o:=.tup [V.str "referee",.int num]));have g4:=w4 _ _ q12;refine⟨p,lx,_,_,rfl,rfl,g4,Zc,szN (by show ys.length+3<=1000;omega),fun l13 f13=>?_⟩;have rq13:=(rq12.add w4 (.cons (.whe day num) g1 ⟨dayS,numS⟩ (.cons (.awa day num) g2 ⟨dayS,numS⟩ (.cons (.ref_ num) g3 numS .nil)))).same (Ze (o:=.lst (ys++[.ref t1,.ref t2,.ref t3])) f13);have s13:=s12.trans (w4.trans (Ze (o:=.lst (ys++[.ref t1,.ref t2,.ref t3])) f13));have yl13:(ys++[V.ref t1,.ref t2,.ref t3]).length<=8:=by rw[zwt];show ys.length+3<=8;omega
 clear w1 w2 w3 w4 g1 g2 g3 g4 rq12 q12 s12
 revert rq13 s13 yl13
 generalize hu0:upd _ l13 _=H13;have q13:#[y,H13,l13,ys++[.ref t1,.ref t2,.ref t3]]:=by rw[<- hu0];exact Zc
 clear hu0;generalize ys++[V.ref t1,.ref t2,.ref t3]=zs at q13;intro rq13 s13 yl13;walk_at "if";refine⟨_,rfl,_,rfl,sz2,fun t4 ft4=>⟨_,rfl,_,rfl,sz3,fun t5 ft5=>⟨sz2,fun ly fy=>?_⟩⟩⟩;have w1:=Ze (o:=.tup [V.str "may",.int pl]) ft4;have w2:=w1.trans (Ze (o:=.tup [V.str "reasons",.int num,.int pl]) ft5);have w3:=w2.trans (Ze (o:=.lst [.ref t4,.ref t5]) fy);have g1:=Ze (o:=.lst [.ref t4,.ref t5]) fy _ _ (Ze (o:=.tup [V.str "reasons",.int num,.int pl]) ft5 _ _ (Zc (H:=H13) (a:=t4) (o:=.tup [V.str "may",.int pl])));have g2:=Ze (o:=.lst [.ref t4,.ref t5]) fy _ _ (Zc (a:=t5) (o:=.tup [V.str "reasons",.int num,.int pl]));have g3:=w3 _ _ q13;refine⟨l13,ly,_,_,rfl,rfl,g3,Zc,szN (by show zs.length+2<=1000;omega),fun l14 f14=>?_⟩;have rq14:=(rq13.add w3 (.cons (.mayQ pl) g1 plS (.cons (.rea num pl) g2 ⟨numS,plS⟩ .nil))).same (Ze (o:=.lst (zs++[.ref t4,.ref t5])) f14);have s14:=s13.trans (w3.trans (Ze (o:=.lst (zs++[.ref t4,.ref t5])) f14));clear w1 w2 w3 g1 g2 g3 rq13 q13 s13
 revert rq14 s14
 generalize hu0:upd _ l14 _=H14;have q14:#[y,H14,l14,zs++[.ref t4,.ref t5]]:=by rw[<- hu0];exact Zc
 clear hu0;generalize zs++[V.ref t4,.ref t5]=us at q14;intro rq14 s14;have sN:=s14;refine⟨l14,rfl,⟨_,SqL.of q14⟩,?_⟩
 let jv2:Nat->L2.St->Hp->Prop:=fun i σ H'=>∃ v13 v14 v15,σ=[#[b,A'.p],#[b,l],#[f,c],#[b,ln],#[b,d],#[b,l3],#[f,m],#[b,l7],#[f,k],#[f,day],#[f,pl],#[f,num],#[b,l13],v13,v14,v15]/\Same H14 H'
 refine Wh (xs:=us) jv2 #[I,_,_,_,Same.refl _] (fun _ σ H' _ hP=>?_) (fun i x σ H' hx hP=>?_) fun σ H' hP=>?_
 ·obtain⟨_,_,_,_,s15⟩:=hP;exact SqL.of (s15 _ _ q14)
 rotate_left
 ·obtain⟨v13,v14,v15,rfl,s15⟩:=hP;exact⟨_,_,_,_,_,_,_,_,rfl,sN.trans s15⟩
 obtain⟨v13,v14,v15,rfl,s15⟩:=hP;obtain⟨t,q,rfl,ht,qS⟩:=rq14 x (zw4 hx);have s16:=s14.trans s15
 replace ht:=s15 _ _ ht
 walk_at "if";have ask:∀ {u:Addr} {H5:Hp},Same H' H5->(∀ H6,Same H5 H6->y2 { nx:=jv2 (i+1),rt:=Q,bk:=jv1 (i_+1),ct:=jv2 (i+1) } [some (.ref A'.p),some (.ref l),some (.int c),some (.ref ln),some (.ref d),some (.ref l3),some (.int m),some (.ref l7),some (.int k),some (.int day),some (.int pl),some (.int num),some (.ref l13),some (.ref t),some (.ref u),some (.str (rW (q.due S)))] H6)->y3 { nx:=jv2 (i+1),rt:=Q,bk:=jv1 (i_+1),ct:=jv2 (i+1) } [#[b,A'.p],#[b,l],#[f,c],#[b,ln],#[b,d],#[b,l3],#[f,m],#[b,l7],#[f,k],#[f,day],#[f,pl],#[f,num],#[b,l13],#[b,t],#[b,u],v15] H5:=fun {u H5} s5 k'=>by
  refine⟨_,rfl,_,rfl,(·∉A'.fp),mb,l,t,ds,d,P0,S,q,nu,n,rfl,#[N,s5,s16,hl],F0.pg.same (s16.trans s5),s5 _ _ ht,qS,RB,so,hnu,fun H6 s6=>?_⟩;walk_at "if";exact k' H6 s6
 refine⟨_,rfl,_,rfl,A',S,t,q,nu,n,rfl,SA.same s16,ht,qS,so,oo,hn,fun r hr u lw H5 hu5 hw5 s5 _=>?_,fun hd u v H5 hu5 s5=>?_⟩
 ·walk_at "if";refine ask s5 fun H6 s6=>?_;rw[hr];show y2 _ [#[b,A'.p],#[b,l],#[f,c],#[b,ln],#[b,d],#[b,l3],#[f,m],#[b,l7],#[f,k],#[f,day],#[f,pl],#[f,num],#[b,l13],#[b,t],#[b,u],#[c,.str,r.name]] H6;have nm:=zla r;have hu6:=s6 _ _ hu5;have hw6:=s6 _ _ hw5;refine Xi (X0 (b:=false) (Og (b:=false) (c:=true) (fun Q q=>⟨_,rfl,rfl,_,by rw[Tw nm.2],q⟩) fun Q q=>⟨_,rfl,u,_,_,_,rfl,rfl,SqT.of hu6,Zz (j:=0) rfl,rfl,true,rfl,q⟩) #[aa]);dsimp only;refine X5 (b:=false) (L8 (b:=true) (c:=false) (Wz fun Q q=>⟨_,rfl,rfl,_,by rw[Tw nm.2];rfl,q⟩) (fun _ H7 s7=>Hj (b:=false) (c:=false) (Wz fun Q q=>⟨_,rfl,u,_,_,_,rfl,rfl,SqT.of (s7 _ _ hu6),Zz (j:=0) rfl,rfl,false,rfl,q⟩) fun H8 s8=>?_) fun z=>nomatch z) fun H7 s7=>iteF ?_
  ·intro Q q;have s78:=s7.trans s8;refine⟨_,rfl,u,_,_,_,rfl,rfl,SqT.of (s78 _ _ hu6),Zz (j:=1) rfl,_,rfl,sz2,fun le fe=>⟨.lst [.str r.name,.str "ValueError"],.lst [.str r.name,.str "ValueError"],.lst (SqL.of (Ze fe _ _ (s78 _ _ hw6))) (Qd [r.name,"ValueError"]),.lst (SqL.of Zc) (Qd [r.name,"ValueError"]),?_,?_,false,?_,q _ (Ze fe)⟩⟩
   ·exact C7 [r.name,"ValueError"] fun w hw=>by
     simp only[zwu,zxm,or_false] at hw;rcases hw with rfl|rfl
     ·exact nm.1
     ·decide +kernel
   ·exact C7 [r.name,"ValueError"] fun w hw=>by
     simp only[zwu,zxm,or_false] at hw;rcases hw with rfl|rfl
     ·exact nm.1
     ·decide +kernel
   ·rw[#[l,rfl],Ab];rfl
  ·exact#[I,_,_,_,s15.trans (s5.trans (s6.trans s7))]
 ·walk_at "if";refine ask s5 fun H6 s6=>?_;rw[hd];show y2 _ [#[b,A'.p],#[b,l],#[f,c],#[b,ln],#[b,d],#[b,l3],#[f,m],#[b,l7],#[f,k],#[f,day],#[f,pl],#[f,num],#[b,l13],#[b,t],#[b,u],#[c,.str,""]] H6;have hu6:=s6 _ _ hu5;refine Xi (X0 (b:=false) (Og (b:=true) (c:=false) (fun Q q=>⟨_,rfl,rfl,true,rfl,q⟩) fun Q q=>⟨_,rfl,u,_,_,_,rfl,rfl,SqT.of hu6,Zz (j:=0) rfl,rfl,false,rfl,q⟩) #[aa]);dsimp only;exact X0 (b:=false) (fun Q q=>⟨_,rfl,rfl,false,rfl,q⟩) (iteF #[I,_,_,_,s15.trans (s5.trans s6)])
abbrev Qq:Stmt:=top 85
theorem O3:#[r,["_law_season","_law_page","_law_at_here"],["_law_season","_law_page"],Qq]:=fnS
theorem Ez(F:#[k,"_law_stands","_law_stands",Qq])(T:#[n])(zph:Ya P w K mg base "_law_one_is" 2 ["_law_found","_law_due"] Cp)(zny:Zp P w K mg base a.znw "at_hand" 2 ["self"] #[e,Vv])(zp9:Ya P w K mg base "_law_list_is" 3 ["_law_found","_law_due"] (Ae K))(zpr:Zp P w K mg base a.znw "referees" 2 ["self"] #[e,Hy])(zoq:Zp P w K mg base a.znw "goes" 4 #[v,"at"] #[e,C4]):FnOk P w K mg base #[i] 5 f fd ["_law_season","_law_page"] (Gp K (ca a)):=by
 refine #[o,O3];obtain⟨A',S,mb,ds,d,P0,nu,n,rfl,SA,F0,hn,h⟩:=h;have hu:=X8 hr;refine⟨_,(Zb (pS 2 O3.nd (Zs Yr (Zq (cL K) (by rfl) T.zoi PySem.boot_len (Za (pD hu (pv 1) Zl) Zd)) Zg))
 (Zb (Z3 (Q8 (Ss (pF zph hr (Za (Yi (pv 0) T.znx zny (hr.mono ⋯) Zj) (Za (pv 2) Zd)))))
  (Zf (Zn Rj))
  Zt)
 (Zb (Z3 (Q8 (Ss (pF zp9 hr (Za (Yi (pv 0) T.znx zpr (hr.mono ⋯) Zj) (Za (Vb rfl (cT [] []) (Yh (K:=K) rfl (pD hu (pv 1) Zl)) (fun _ _ _ _ _=>Vc) (fun _ _ _ _ _=>(pI (iU K) (pv 0) Zg))) Zd)))))
  (Zf (Zn Rj))
  Zt)
 (Zf (Zn (zlg (Vr Pa (pD hu (pv 1) Zl) Y1 (Zu _)) (Ld (pF zp9 hr (Za (Yg (pv 0) T.znx zoq (hr.mono ⋯) Zj (Za (pv 2) Zd)) (Za (pD hu (pv 1) Zl) Zd)))))))))),?_⟩
 have RB:=F0.re.b;have so:=F0.so;obtain⟨lp,lo,lv,dv,li,lg,lm,a1,PB,okd⟩:=id F0.pg.split;obtain⟨vts,v1,v2,v3⟩:=PB.vv;obtain⟨⟨dx,vv,ob,_⟩,_⟩:=id SA;have hfew:=so.few;have hpl:P0.ppl.length<=100:=by rw[RB.ppl];omega
 have hvl:(vts.length:Int)+1=atV S:=by rw[v2.length];exact RB.at so
 have hls:=PB.li.some;have hli:P0.lis.isSome=S.cur.isSome:=by rw[RB.lis];cases S.cur<;>rfl
 rw[hli] at hls;refine⟨_,rfl,d,_,rfl,DGet.k (k:=.inr "over") a1,lv,vts,rfl,#[L,v1],_,_,rfl,rfl,?_⟩;walk_at "if";rw[hvl];refine Xi ?_;refine⟨_,rfl,A'.p,dx,_,rfl,ob,Z6 ⋯,A',S,rfl,SA,_,rfl,_,rfl,.inr ⟨_,rfl⟩,true,rfl,#[aa]⟩;dsimp only;refine Xi ?_;refine⟨_,rfl,A'.p,dx,_,rfl,ob,Z6 ⋯,A',S,rfl,SA,fun lr H1 hlr s1 _=>?_⟩;refine zar rfl (F0.pg.same s1) hpl fun lq H2 hlq s2 _=>?_;rw[RB.ppl,zx1] at hlq;refine⟨lr,lq,_,rfl,s2 _ _ hlr,SqL.of hlq,fun x hx=>?_,by rw[zwq];omega,true,rfl,#[aa]⟩
 ·obtain⟨y,_,rfl⟩:=zw0.mp hx;exact .inr ⟨_,rfl⟩
 have s12:=s1.trans s2;dsimp only;refine⟨_,rfl,d,_,rfl,DGet.k (k:=.inr "listed") (s12 _ _ a1),rfl,!S.cur.isSome,?_,itB (fun hb=>h _ s12) fun hb=>?_⟩
 ·rw[<- hls,Bool.not_not]
 have hc:S.cur.isSome=true:=by simpa using hb
 obtain⟨sh,hcur⟩:=zxv.mp hc;obtain⟨k1,k2,k3,k4,k5⟩:=so.cur sh hcur;have hml:sh.may.length=sh.ms.length:=by rw[k4];unfold mayS;rw[zwq]
 have hgl:=k2.len;have hg:=PB.gg.1;rw[F0.re.gv sh hcur] at hg;refine⟨_,rfl,A'.p,dx,_,rfl,s12 _ _ ob,Z6 ⋯,_,rfl,A',S,atV S,rfl,SA.same s12,zhr so hcur fun lf H3 hlf s3 _=>?_⟩;exact⟨_,rfl,d,_,rfl,DGet.k (k:=.inr "goes") #[N,s3,s12,a1],lf,lg,_,rfl,hlf,SqL.of (s3 _ _ (s12 _ _ hg)),k2.one,by omega,h _ (s12.trans s3)⟩
abbrev D9:Stmt:=top 86
theorem U8:#[r,["_law_script","_law_mixed","_law_rounds","_law_season","_law_pool_here","_law_deeds","_law_pages","_law_k","_law_cell_here","_law_deed_here","_law_page"],["_law_script"],D9]:=fnS
theorem zlb(F:#[k,"law","law",D9])(T:#[n])(zof:Ya P w K mg base "_law_at" 1 ["_law_script","_law_k"] (zed K))(zs4:To P w K mg base "Season" a.znw 3 ["self","rounds","rest"] #[e,zdk])(zri:Ya P w K mg base "_law_rest" 2 ["_law_script"] (zab K))(zr6:Ya P w K mg base "_law_pool" 2 ["_law_script","_law_crowd"] (zad K))(zrf:Ya P w K mg base "_law_people" 2 ["_law_script","_law_pool_here"] (Gj K))(zqu:Ya P w K mg base "_law_enrolled" 9 ["_law_season","_law_pages","_law_deeds"] (Ja K (ca a)))(zrv:Ya P w K mg base "_law_first" 1 ["_law_rounds","_law_rest_here"] zdp)(zr7:Ya P w K mg base "_law_cell" 2 ["_law_script","_law_k"] (zac K))(zsd:Ya P w K mg base "_law_deed" 3 ["_law_pages","_law_cell_here","_law_pool_here","_law_most","_law_mixed"] (zao K))(zpt:Ya P w K mg base "_law_do" 8 ["_law_season","_law_deed_here"] (ziy K (ca a)))(zpo:Ya P w K mg base "_law_paged" 3 ["_law_pages","_law_deed_here"] (C8 K))(zoq:Zp P w K mg base a.znw "goes" 4 #[v,"at"] #[e,C4])(zrl:Ya P w K mg base "_law_asks" 10 ["_law_season","_law_pages","_law_cell_here","_law_numbers_here"] (zb9 K (ca a)))(zqi:Ya P w K mg base "_law_stands" 5 ["_law_season","_law_page"] (Gp K (ca a))):FnOk P w K mg base #[i] 11 f fd ["_law_script"] (zc4 K):=by
 refine #[o,U8];obtain⟨b,ns,rfl,hS,hlen,h⟩:=h;have hu:=X8 hr;refine⟨_,(Zb (pS 1 U8.nd (Zs Ys (pF zof hr (Za (pv 0) (Za Zg Zd))) Zg))
 (Zb (pS 2 U8.nd (Zs Ys (Zs Xc (pF zof hr (Za (pv 0) (Za Zg Zd))) Zg) Zg))
 (Zb (pS 3 U8.nd (Cm zs4 (hr.mono ⋯) Zj rfl (Za (pv 2) (Za (pF zri hr (Za (pv 0) Zd)) Zd))))
 (Zb (pS 4 U8.nd (pF zr6 hr (Za (pv 0) (Za Zg Zd))))
 (Zb (pS 5 U8.nd (Zs zkg (pF zrf hr (Za (pv 0) (Za (pv 4) Zd))) (Yq Rn (by rfl) T.zsv PyProof.Rows.boot_int (Za (Vr Ti (pv 2) Zg (Zu _)) Zd))))
 (Zb (pS 6 U8.nd (pF zqu hr (Za (pv 3) (Za (Z1 (Za (pF zrv hr (Za (pv 2) (Za (pF zri hr (Za (pv 0) Zd)) Zd))) Zd)) (Za (pv 5) Zd)))))
 (Zb (Xo PassesOwn.leaving rfl (zdx rfl T.zpf (Za Zg (Za (Zq (E5 rfl) (by rfl) T.zt8 PyProof.Rows.boot_min (Za Zg (Za (Zq (cL K) (by rfl) T.zoi PySem.boot_len (Za (pv 0) Zd)) Zd))) Zd))) (pN 7 U8.nd)
  (Zb (pS 8 U8.nd (pF zr7 hr (Za (pv 0) (Za (pv 7) Zd))))
  (Zb (Z3 (Zo Kr (Zq (cL K) (by rfl) T.zoi PySem.boot_len (Za (pD hu (pI (iL K) (pv 6) (Rl Ub Zg)) Zl) Zd)) (pv 2) (Zu _))
   (Zb (pS 9 U8.nd (pF zsd hr (Za (pv 6) (Za (pv 8) (Za (pv 4) (Za Zg (Za (pv 1) Zd)))))))
   (Zb (Z8 (pF zpt hr (Za (pv 3) (Za (pv 9) Zd))))
   (Zf (pS 6 U8.nd (pF zpo hr (Za (pv 6) (Za (pv 9) Zd)))))))
   Zt)
  (Zb (pS 10 U8.nd (pI (iL K) (pv 6) (Rl Ub Zg)))
  (Zb (Z3 (Zo Uv (pD hu (pv 10) Zl) Y1 (Zu _))
   (Zf (Y2 hu (pv 10) Zl (Yq (Xj (K:=K) rfl) (by rfl) T.zpx PyProof.Rows.boot_list (Za (Yg (pv 3) T.znx zoq (hr.mono ⋯) Zj (Za (Zs Yr (Zq (cL K) (by rfl) T.zoi PySem.boot_len (Za (pD hu (pv 10) Zl) Zd)) Zg) Zd)) Zd)) rfl))
   Zt)
  (Zf (Z3 (PW.pt (Rk (Q8 (Ss (pF zrl hr (Za (pv 3) (Za (pv 6) (Za (Zs Xc (pv 8) Zg) (Za (pI (iU K) (pv 4) Zg) Zd))))))) (V9 (Q8 (Ss (pF zqi hr (Za (pv 3) (Za (pv 10) Zd))))))))
   (Zf (Zn Rj))
   Zt)))))))
 (Zf (Zn (Cb (pF zrl hr (Za (pv 3) (Za (pv 6) (Za (pF zof hr (Za (pv 0) (Za Zg Zd))) (Za (pI (iU K) (pv 4) Zg) Zd))))) (Ld (pF zqi hr (Za (pv 3) (Za (pI (iL K) (pv 6) (Rl Ub Zg)) Zd)))))))))))))),?_⟩
 show let y1:TS:=_;let y2:TS:=Zx _ y1;let y3:TS:=_;let y4:TS:=Zx _ y3;let y5:TS:=Zx _ y4;let y6:TS:=Zx (Ip _ (Zx _ y2) _) y5;let y7:TS:=_;let y8:TS:=Zx (zfo _ _ (Zx _ y6)) y7;let y9:TS:=Zx _ y8;let y10:TS:=Zx _ y9;let y11:TS:=Zx _ y10;let y12:TS:=Zx _ y11;let y13:TS:=Zx _ y12;Zx _ y13 _ _ _;intro y1 y2 y3 y4 y5 y6 y7 y8 y9 y10 y11 y12 y13;refine⟨_,rfl,b,ns,0,rfl,hS,_,_,rfl,rfl,(show (0:Int)<2 by decide),?_⟩;obtain⟨mx,hmx,hmx1⟩:∃ mx:Nat,Xz ns 0%2=(mx:Int)/\mx<=1:=⟨(Xz ns 0%2).toNat,by omega,by omega⟩;walk_at "if";rw[hmx];refine⟨_,rfl,b,ns,1,rfl,hS,_,_,rfl,rfl,⟨by decide,by decide⟩,_,_,rfl,rfl,(show (0:Int)<6 by decide),?_⟩;obtain⟨rr,hrr,hr1,hr60⟩:∃ rr:Nat,Xz ns 1/22%6=(rr:Int)/\0<=rr/\rr<=60:=⟨(Xz ns 1/22%6).toNat,by omega,by omega,by omega⟩;walk_at "if";rw[hrr];refine⟨_,rfl,_,rfl,b,ns,rfl,hS,fun rq H2 hrq hq10 s2=>?_⟩;have hS2:=s2.seq hS;intro p0 dx0 hp0 hdx0 ne0;refine⟨p0,dx0,rr,rq,rfl,Zc,Z5 ⋯ ⋯,Z5 ⋯ ⋯,?_⟩;rw[if_neg ⋯,if_neg ⋯];intro A1 H4 hAp SA4 k4 f4;rw[zxc,zxc] at SA4;have s4:Same H2 H4:=fun x o e=>k4 x o (by rw[Zi (Zh e hp0),Zi (Zh e hdx0)];exact e) (Zh e hp0);have ff:∀ x∈A1.fp,H2 x=none:=fun x hx=>by
  by_cases z:x=p0
  ·rw[z];exact hp0
  ·have:=f4 x hx z;rw[Zi z] at this;by_cases w:x=dx0
   ·rw[w];exact hdx0
   ·rw[Zi w] at this;exact this
 have SC4:Tz K A1 H4 b (ns.map V.int):=.make hS2 A1 H4 s4 ff;clear f4 k4;subst hAp;refine⟨rfl,?_⟩;walk_at "if";refine⟨_,rfl,b,ns,7,rfl,SC4.sq,by decide,by decide,fun t lc ln cs nu H6 PL hnu s6 ft flc fln=>?_⟩;have SA6:=SA4.same s6;have SC6:=SC4.fr (.of s6);have no5:=SA4.newOk;have PO6:Po A1 H6 t lc ln cs nu:=⟨PL,no5 _ ft,no5 _ flc,no5 _ fln⟩;walk_at "if";refine⟨_,rfl,_,rfl,b,t,lc,ln,ns,cs,nu,rfl,SC6.sq,PO6.at_,fun le ts es H7 hle tl en el eok s7 fle=>?_⟩;have tln:=tl.length;rw[zwq] at tln;have nfew:=PO6.at_.nfew;refine#[ac,_,_,_,rfl,.inr #[t,_,?_]];obtain⟨es2,ts2,mu,hmu,hmu0,hfl,tl2,hsub,hr0⟩:∃ (es2:List P3) (ts2:List V) (mu:Nat),(if #[j,(0:Int)<(rr:Int)]=true then (1:Int) else 0)=(mu:Int)/\mu<=1/\(List.replicate mu ts).flatten=ts2/\Yf H7 ts2 (es2.map enV)/\(es2=es\/es2=[])/\(es2≠[]->0<rr):=by
  by_cases z:0<rr
  ·exact⟨es,ts,1,by rw[zwy (show (0:Int)<(rr:Int) by omega)];rfl,by decide,by simp,tl,.inl rfl,fun _=>z⟩
  ·exact⟨[],[],0,by rw[zw1 (show ¬ (0:Int)<(rr:Int) by omega)];rfl,by decide,rfl,.nil,.inr rfl,fun q=>absurd rfl q⟩
 rw[hmu];refine⟨le,mu,ts,rfl,rfl,hle,by omega,by omega,szN (by rw[zxc];have:ts.length*mu<=ts.length*1:=Nat.mul_le_mul_left _ hmu0;omega),fun l8 fl8=>?_⟩;rw[zxc,hfl];have s8:=s7.trans (Ze (o:=.lst ts2) fl8);have tl8:=tl2.same (Ze (o:=.lst ts2) fl8);have q8:=Zc (H:=H7) (a:=l8) (o:=.lst ts2);have no6:=SA6.newOk;have o8:l8∉A1.fp:=(SA6.same s7).newOk _ fl8;generalize upd H7 l8 (.lst ts2)=H8 at s8 tl8 q8 ⊢;have SA8:=SA6.same s8;have SC8:=SC6.fr (.of s8);have PO8:=PO6.fr (.of s8);have nd8:(es2.map (·.1)).Nodup:=by
  rcases hsub with rfl|rfl
  ·rw[en];exact PO6.at_.nnd.sublist (List.take_sublist _ _)
  ·exact .nil
 have eok8:∀ x∈es2,x.1∈nu/\¬ badI x.1 x.2.1 x.2.2:=fun x hx=>by
  rcases hsub with rfl|rfl
  ·obtain⟨x1,x2,x3⟩:=eok x hx;have hxn:x.1∈nu:=by
    have:x.1∈es2.map (·.1):=zw0.mpr ⟨x,hx,rfl⟩;rw[en] at this;exact zyv this
   refine⟨hxn,?_⟩;have:=PO6.at_.nrng _ hxn;have:=PO6.at_.crng _ x3;unfold badI;omega
  ·cases hx
 have ln8:es2.length<=30:=by
  rcases hsub with rfl|rfl
  ·omega
  ·exact zxk _
 clear tl tl2 hfl hle fl8 hsub hmu eok en el SA6 SC6 PO6 SA4 SC4 no5 no6 s6 s7 fle;walk_at "if";refine⟨_,rfl,_,rfl,_,rfl,b,ns,rfl,SC8.sq,fun rq' H9 hrq' _ s9=>?_⟩;cases (hrq'.trans hrq.symm);refine⟨rr,rq,rfl,fun d10 H10 pg10 s10 fd10=>⟨(by show 1<=sizeLine;rw[sizeLine_eq];decide),fun l11 fl11=>?_⟩⟩;have s910:=s9.trans s10;have SA10:=SA8.same s910;have no9:=(SA8.same s9).newOk;have F10:=zb7 (mb:=false) (nu:=nu) (n:=0) (pg10.imp (ok':=(·∉A1.fp)) fun x _ hx=>no9 x hx) hr60 hq10;have s11:=s910.trans (Ze (o:=.lst [.ref d10]) fl11);have F11:=F10.same (Ze (o:=.lst [.ref d10]) fl11);have q11:=Zc (H:=H10) (a:=l11) (o:=.lst [.ref d10]);have o11:=SA10.newOk _ fl11;generalize upd H10 l11 (.lst [.ref d10])=H11 at s11 q11 F11 ⊢;have SA11:=SA8.same s11;have SC11:=SC8.fr (.of s11);have PO11:=PO8.fr (.of s11);refine⟨_,rfl,false,A1,l11,l8,ts2,es2,[],d10,_,_,nu,0,rfl,SA11,q11,o11,F11,s11 _ _ q8,o8,tl8.same s11,nd8,fun x hx=>⟨(eok8 x hx).1,(eok8 x hx).2,nofun⟩,(by show 0+es2.length<=30;omega),by omega,rfl,(fun z=>by show 0<rr;exact hr0 z),fun A2 l2 ds2 d2 P2 S2 H12 SA12 hl12 ho12 F12 f12 hc12 he12 hn12=>?_⟩;have SC12:=SC11.fr f12;have PO12:=PO11.fr f12;have hAp:=f12.p;have OO12:Sl 30 S2:=fun s hs=>by
  have h1:=F12.so.olen;rw[he12] at h1;have:S2.old=[]:=zye.mp h1;rw[this] at hs;cases hs
 have hL12:S2.len=rr:=hn12;walk_at "if";show y8 _ [#[b,b],#[f,mx],#[f,rr],#[b,A1.p],#[b,t],#[b,l8],#[b,l2],none,none,none,none] H12;have asks:∀ {A2:SAd} {l2:Addr} {ds2:List Addr} {d2:Addr} {P2:Pg} {S2:Sea} {n:Nat} {Hx:Hp} (c:Int),Zw (ca a) Hx A2 S2->Hx l2=#[T,(ds2++[d2]).map,V.ref]->Full false (·∉A2.fp) Hx nu n ds2 d2 P2 S2->Po A2 Hx t lc ln cs nu->A2.p=A1.p->Sl n S2->n<=500->∀ {Q0:VK},(∀ H',Same Hx H'->Q0 (.bl true) H')->zb9 K (ca a) [.ref A1.p,.ref l2,.int c,.ref ln] Hx Q0 E:=fun {A2 l2 ds2 d2 P2 S2 n Hx} c SAx hlx Fx POx eAp OOx hn Q0 q =>
  ⟨A2,S2,false,l2,ln,ds2,d2,P2,c,nu,nu,n,by rw[<- eAp],SAx,hlx,Fx,OOx,hn,POx.at_.nums,by omega,by omega,fun x hx=>by have:=POx.at_.nrng _ hx;exact Z5 ⋯ ⋯,q⟩
 refine#[ac,_,b,_,.inl SC12.sq,?_];rw[zwq];refine⟨_,_,rfl,6,_,rfl,⟨by omega,by omega,by split<;>omega,by split<;>omega⟩,?_⟩;obtain⟨N0,hN0,hN1⟩:∃ N0:Nat,((if (ns.length:Int)<63 then (ns.length:Int) else 63)-6).toNat=N0/\∀ i:Nat,i<N0->6+i<ns.length:=#[t,_,fun i hi=>by split at hi<;>omega];have hN57:N0<=57:=by rw[<- hN0];split<;>omega
 rw[hN0]
 let jv1:Nat->L2.St->Hp->Prop:=fun i σ H'=>∃ A2 l2 ds2 d2 P2 S2 v7 v8 v9 v10,σ=[#[b,b],#[f,mx],#[f,rr],#[b,A1.p],#[b,t],#[b,l8],#[b,l2],v7,v8,v9,v10]/\Zw (ca a) H' A2 S2/\H' l2=#[T,(ds2++[d2]).map,V.ref]/\l2∉A2.fp/\Full false (·∉A2.fp) H' nu (30+i) ds2 d2 P2 S2/\Tz K A2 H' b (ns.map V.int)/\Po A2 H' t lc ln cs nu/\A2.p=A1.p/\Sl (30+i) S2/\S2.len=rr
 refine Ua jv1
  ⟨A2,l2,ds2,d2,P2,S2,_,_,_,_,rfl,SA12,hl12,ho12,⟨F12.pg,F12.re,F12.so.mono ⋯,?_⟩,SC12,PO12,hAp,OO12,hL12⟩ (fun i σ H1 hi hP=>?_) fun σ H1 hP=>?_
 ·obtain⟨nd,e|⟨S0,bb,rr'⟩⟩:=F12.tl
  ·exact⟨nd,.inl e⟩
  ·exact⟨nd,.inr ⟨S0,bb.mono ⋯,rr'⟩⟩
 rotate_left
 ·obtain⟨A2,l2,ds2,d2,P2,S2,v7,v8,v9,v10,rfl,SA,hl2,ho2,F,SC,PO,eAp,OO,eL⟩:=hP;have hat:atI ((ds2++[d2]).map V.ref) (-1)=#[c,V.ref,d2]:=by rw[zww];exact L2.atI_last _ _
  refine⟨_,rfl,_,rfl,_,rfl,b,ns,5,rfl,SC.sq,?_⟩;refine⟨_,rfl,t,_,_,_,rfl,rfl,SqT.of PO.at_.tup,Zz (j:=1) rfl,?_⟩;refine asks _ SA hl2 F PO eAp OO ⋯ fun H2 s2=>#[t,true,?_]
  rw[#[l,rfl]];refine⟨_,rfl,_,rfl,_,rfl,l2,_,_,_,rfl,rfl,SqL.of (s2 _ _ hl2),hat,?_⟩;exact⟨A2,S2,false,ds2,d2,P2,nu,30+N0,by rw[<- eAp];rfl,SA.same s2,F.same s2,by omega,fun H3 s3=>h _⟩
 obtain⟨A2,l2,ds2,d2,P2,S2,v7,v8,v9,v10,rfl,SA,hl2,ho2,F,SC,PO,eAp,OO,eL⟩:=hP;have hki:=hN1 i hi;have e6:(6:Int)+(i:Int)=((6+i:Nat):Int):=by omega
 rw[e6];walk_at "if";refine⟨_,rfl,_,rfl,b,ns,6+i,rfl,SC.sq,hki,fun cell H2 s2=>?_⟩;walk_at "if"
 replace SA:=SA.same s2
 replace F:=F.same s2
 replace SC:=SC.fr (.of s2)
 replace PO:=PO.fr (.of s2)
 replace hl2:=s2 _ _ hl2
 obtain⟨lp,lo,lv,dv,li,lg,lm,a1,PB,okd⟩:=id F.pg.split;have hat:atI ((ds2++[d2]).map V.ref) (-1)=#[c,V.ref,d2]:=by rw[zww];exact L2.atI_last _ _
 obtain⟨vts,u1,u2,u3⟩:=PB.vv;have hvl:(vts.length:Int)=(P2.over.length:Int):=by rw[u2.length]
 show y6 _ [#[b,b],#[f,mx],#[f,rr],#[b,A1.p],#[b,t],#[b,l8],#[b,l2],#[f,((6+i:Nat):Int)],#[f,cell],v9,v10] H2
 let jv2:L2.St->Hp->Prop:=fun σ' Hz=>∃ A3 l6 ds7 d7 P7 S3 v9,σ'=[#[b,b],#[f,mx],#[f,rr],#[b,A1.p],#[b,t],#[b,l8],#[b,l6],#[f,((6+i:Nat):Int)],#[f,cell],v9,v10]/\Zw (ca a) Hz A3 S3/\Hz l6=#[T,(ds7++[d7]).map,V.ref]/\l6∉A3.fp/\F7 false (·∉A3.fp) Hz nu (30+(i+1)) ds7 d7 P7 S3/\Tz K A3 Hz b (ns.map V.int)/\Po A3 Hz t lc ln cs nu/\A3.p=A1.p/\Sl (30+(i+1)) S3/\S3.len=rr
 refine Pc (b:=#[j,(P2.over.length:Int)<(rr:Int)]) jv2
  (fun Q q=>⟨_,rfl,_,rfl,l2,_,_,_,rfl,rfl,SqL.of hl2,hat,d2,_,rfl,DGet.k (k:=.inr "over") a1,lv,vts,rfl,#[L,u1],_,rfl,_,_,rfl,rfl,_,rfl,by rw[hvl];exact q⟩) (fun hb N' hN'=>?_) (fun hb N' hN'=>Zy (hN' _ _ ⟨A2,l2,ds2,d2,P2,S2,_,rfl,SA,hl2,ho2,?_,SC,PO,eAp,OO.mono ⋯,eL⟩)) ?_
 ·have hlt:P2.over.length<P2.len:=by
   have h4:=F.re.b.len;have h5:=of_decide_eq_true hb;omega
  have s3:=Same.refl H2;refine⟨_,rfl,_,rfl,_,rfl,_,rfl,(·∉A2.fp),l2,t,lc,ln,ds2,d2,P2,cell,cs,nu,5,mx,rfl,hl2,F.pg,PO.at_,by decide,hmx1,hlt,(by rw[F.re.b.ppl];have:=F.so.few;omega),fun t' D H4 hD gD s34 ft'=>?_⟩;have SA4:=SA.same s34;have F4:=F.same s34;have SC4:=SC.fr (.of s34);have PO4:=PO.fr (.of s34);have hD4:=zi8 SA hD;have g:=zi7 F.re.b F.so gD hlt ⋯ ⟨nfew.2,PO.at_.nrng⟩ PO.at_.crng F.back;have hkn:∀ k gr c,D=.enrol k gr c->k∈nu:=fun k gr c z=>by rw[z] at gD;exact gD.2.1
  walk_at "if";obtain⟨w1,w2,w3,w4,w5,w6,w7,w8,w9,w10⟩:=F4.pre g ⋯;refine⟨_,rfl,_,rfl,A2,S2,t',D,(by rw[<- eAp];rfl),SA4,hD4,g,w1,w2,w3,w4,w5,w6,w7,w8,w9,w10,fun v' A3 S3 H5 af SA5 nx fr _=>?_⟩;have f5:=FrN.next SA4 nx fr;obtain⟨c1,c2,c3,c4,c5⟩:=F4.pre2 g ⋯
  refine⟨_,rfl,_,rfl,(·∉A3.fp),l2,t',ds2,d2,P2,D,rfl,(f5.k _ _ (s34 _ _ hl2) ho2).1,F4.pg.fr f5,hD4.fr f5,c1,c2,c3,c4,c5,fun l6 d6 H6 hl6 pg6 s6 fl6 fd6=>?_⟩;obtain⟨ds7,d7,P7,ek,Pe,eP,eR⟩:=turn F4 SA4 af SA5 nx fr g hkn pg6 s6 fd6;have OO3:Sl (30+(i+1)) S3:=(zfa F.so OO af).mono ⋯;have eL3:S3.len=rr:=(zfb af).trans eL;have SA6:=SA5.same s6;have o6:=SA5.newOk _ fl6;have SC6:=(SC4.fr f5).fr (.of s6);have PO6:=(PO4.fr f5).fr (.of s6);rw[ek] at hl6;have eN:30+i+1=30+(i+1):=by omega
  rw[eN] at Pe;exact hN' _ _ ⟨A3,l6,ds7,d7,P7,S3,_,rfl,SA6,hl6,o6,Pe,SC6,PO6,f5.p.trans eAp,OO3,eL3⟩
 ·refine⟨F.pg,F.re.b,F.so.mono ⋯,?_⟩;obtain⟨nd,e|⟨S0,bb,rr'⟩⟩:=F.tl
  ·exact⟨nd,.inl e⟩
  ·exact⟨nd,.inr ⟨S0,bb.mono ⋯,rr'⟩⟩
 clear SA F SC PO a1 PB okd u1 u2 u3 hl2 ho2 OO eL hat hvl eAp;rintro σ' H6 ⟨A3,l6,ds7,d7,P7,S3,v9',rfl,SA6,hl6,o6,Pe,SC6,PO6,eAp6,OO3,eL3⟩;have hat7:atI ((ds7++[d7]).map V.ref) (-1)=#[c,V.ref,d7]:=by rw[zww];exact L2.atI_last _ _
 refine⟨_,rfl,_,rfl,l6,_,_,_,rfl,rfl,SqL.of hl6,hat7,?_⟩;walk_at "if";show y4 _ [#[b,b],#[f,mx],#[f,rr],#[b,A1.p],#[b,t],#[b,l8],#[b,l6],#[f,((6+i:Nat):Int)],#[f,cell],v9',#[b,d7]] H6;obtain⟨lp7,lo7,lv7,dv7,li7,lg7,lm7,y1,y2,y3⟩:=id Pe.pg.split;have hls:=y2.li.some
 let jv3:L2.St->Hp->Prop:=fun σ' Hz=>σ'=[#[b,b],#[f,mx],#[f,rr],#[b,A1.p],#[b,t],#[b,l8],#[b,l6],#[f,((6+i:Nat):Int)],#[f,cell],v9',#[b,d7]]/\∃ Pz,Zw (ca a) Hz A3 S3/\Full false (·∉A3.fp) Hz nu (30+(i+1)) ds7 d7 Pz S3/\Hz l6=#[T,(ds7++[d7]).map,V.ref]/\Tz K A3 Hz b (ns.map V.int)/\Po A3 Hz t lc ln cs nu
 refine Pc (b:=P7.lis.isSome) jv3
  (fun Q q=>⟨_,rfl,d7,_,rfl,DGet.k (k:=.inr "listed") y1,rfl,_,rfl,by rw[hls];exact q⟩) (fun hb' N' hN'=>?_) (fun hb' N' hN'=>Zy (hN' _ _ ⟨rfl,P7,SA6,?_,hl6,SC6,PO6⟩)) ?_
 ·obtain⟨ms,hms⟩:=zxv.mp hb';obtain⟨sh,hcur,hshm⟩:=Pe.rb.drawn hms;subst hshm;obtain⟨k1,k2,k3,k4,k5⟩:=Pe.so.cur sh hcur;obtain⟨vts7,z1,z2,z3⟩:=y2.vv;have hvl7:(vts7.length:Int)+1=atV S3:=by rw[z2.length];exact Pe.rb.at Pe.so
  obtain⟨⟨dx7,vv7,ob7,_⟩,_⟩:=id SA6;rw[eAp6] at ob7;refine⟨_,rfl,A1.p,dx7,_,rfl,ob7,Z6 ⋯,_,rfl,d7,_,rfl,DGet.k (k:=.inr "over") y1,lv7,vts7,rfl,#[L,z1],_,_,rfl,rfl,?_⟩;rw[hvl7];refine⟨A3,S3,atV S3,(by rw[eAp6];rfl),SA6,zhr Pe.so hcur fun lg2 H10 hlg2 s10 flg2=>?_⟩;refine⟨lg2,_,rfl,#[L,hlg2],fun lg' flg=>?_⟩;have s13:=s10.trans (Ze (o:=.lst sh.gv) flg);have q13:=Zc (H:=H10) (a:=lg') (o:=.lst sh.gv);have o13:=(SA6.same s10).newOk _ flg;generalize upd H10 lg' (.lst sh.gv)=H13 at s13 q13 ⊢;obtain⟨kvs,b1,b2,F14⟩:=(Pe.same s13).goes q13 o13 (fun s hs=>by rw[hcur] at hs;cases hs;rfl) (fun z=>nomatch z);refine#[ac,_,d7,_,DPut.k (k:=.inr "goes") b1 b2,?_];have SA14:=(SA6.same s13).dictW (kvs':=putK kvs (.inr "goes") (.ref lg')) b1 y3;have kl14:=Xl.dict b1 (kvs':=putK kvs (.inr "goes") (.ref lg'));exact hN' _ _ ⟨rfl,_,SA14,F14,#[N,kl14.1,s13,hl6],(SC6.fr (.of s13)).dictW (kvs':=putK kvs (.inr "goes") (.ref lg')) b1,(PO6.fr (.of s13)).dictW (kvs':=putK kvs (.inr "goes") (.ref lg')) b1⟩
 ·have hno:P7.lis=none:=by
   cases hq:P7.lis with
   | none=>rfl
   | some ms=>rw[hq] at hb';cases hb'
  have hcn:=Pe.rb.undrawn hno;exact Pe.full (fun s hs=>by rw[hcn] at hs;cases hs) (fun z=>nomatch z)
 rintro σ' Hz ⟨rfl,Pz,SAz,Fz,lz,SCz,POz⟩;refine X5 (b:=false) (fun Q q=>?_) fun H9 s9=>#[aa]
 rotate_left
 ·exact⟨A3,l6,ds7,d7,_,S3,_,_,_,_,rfl,SAz.same s9,s9 _ _ lz,o6,Fz.same s9,SCz.fr (.of s9),POz.fr (.of s9),eAp6,OO3,eL3⟩
 refine⟨_,rfl,_,rfl,_,rfl,_,_,rfl,rfl,⟨by decide,by decide⟩,_,rfl,t,_,_,_,rfl,rfl,SqT.of POz.at_.tup,Zz (j:=1) rfl,?_⟩;refine asks _ SAz lz Fz POz eAp6 OO3 ⋯ fun H8 s8=>#[t,true,?_]
 dsimp only;rw[if_neg ⋯];refine⟨_,rfl,_,rfl,A3,S3,false,ds7,d7,Pz,nu,30+(i+1),by rw[<- eAp6];rfl,SAz.same s8,Fz.same s8,by omega,fun H9 s9=>#[t,true,q _ (s8.trans s9)]⟩
end
end K26
namespace K26
open PySem PySem.Spec PyProof.Rows L2 G PySem.W
theorem zlc{l:OpenLaw}{w:World}{K:Frag}{h:Heap}{mg:#[V]}{fa zo9 zog zou zoh zok zol zpp zo2 zo0 zpc zo8 zo1 zqa zpq zod zot zn1 zn3 znz znw f1 f96:Addr}{tk0 tk1 tk2 tk3 tk4 tk5 tk6 tk7:Tok}{u1 n1 u96 n96:Option Addr}{z1 z96:Array (Option Value)}{o1 v1 d1 m1 c1 t1 o96 v96 d96 m96 c96 t96:Value}(X:K.In h)(G:h.Ns mainGlobals mg)(hfa:#[ag,"law",fa])
  (zsw:NsB K "BookError" zo9)
  (zrk:NsB K "OutOfRange" zog)
  (zqn:NsB K "KnownReferee" zou)
  (zpu:NsB K "TooManyReferees" zoh)
  (zp2:NsB K "UnknownReferee" zok)
  (zpy:NsB K "TooManyMatches" zol)
  (zr9:NsB K "SameClub" zpp)
  (zq1:NsB K "NoSuchMatch" zo2)
  (zq2:NsB K "NoSuchRound" zo0)
  (zrz:NsB K "RoundOver" zpc)
  (zre:NsB K "SeasonOver" zo8)
  (zq7:NsB K "AwayAlready" zo1)
  (zss:NsB K "DrawnUp" zqa)
  (zsf:NsB K "NotDrawn" zpq)
  (zpi:NsB K "NothingToTakeBack" zod)
  (zqq:NsB K "TooManyDeeds" zot)
  (ztc:NsB K "Ledger" zn1)
  (zs2:NsB K "Roster" zn3)
  (ztu:NsB K "Sheet" znz)
  (zs3:NsB K "Season" znw)
  (ztp:zhy K zn1)
  (zrc:#[ao,K,zn1,"rounds"])
  (zp7:#[ao,K,zn1,"meetings"])
  (ztn:zhy K zn3)
  (zpa:#[ao,K,zn3,"entries"])
  (zty:zhy K znz)
  (zpw:#[ao,K,znz,"listed"])
  (zso:#[ao,K,znz,"lists"])
  (zp8:#[ao,K,znz,"given"])
  (zsu:#[ao,K,znz,"gaps"])
  (ztm:zhy K znw)
  (zrs:#[ao,K,znw,"length"])
  (ztb:#[ao,K,znw,"rest"])
  (zow:#[ao,K,znw,"roster"])
  (zpj:#[ao,K,znw,"ledger"])
  (zqb:#[ao,K,znw,"absent"])
  (zrq:#[ao,K,znw,"sheets"])
  (zos:#[ao,K,znw,"sheet"])
  (zpb:#[ao,K,znw,"standing"])
  (zsi:XcB K zog)
  (zra:XcB K zol)
  (ztf:XcB K zpp)
  (zrw:XcB K zou)
  (zqv:XcB K zoh)
  (zrb:XcB K zok)
  (zr4:XcB K zo2)
  (zsh:XcB K zo8)
  (zto:XcB K zqa)
  (zr3:XcB K zo0)
  (zrx:XcB K zot)
  (zs9:XcB K zpq)
  (zsx:XcB K zpc)
  (zr5:XcB K zo1)
  (zqf:XcB K zod)
  (zt1:NzB K "max")
  (zoi:NzB K "len")
  (ztr:NzB K "tuple")
  (zpx:NzB K "list")
  (zqw:NzB K "enumerate")
  (zpf:NzB K "range")
  (zsl:NzB K "sorted")
  (zua:NzB K "zip")
  (zn5:NzB K "isinstance")
  (zsv:NzB K "int")
  (zt3:NzB K "bool")
  (zt7:NzB K "dict")
  (zt8:NzB K "min")
  (zrm:NzB K "ValueError")
  (ztw:typeIn K (.ref zo9)=#[c,.type,"type"])
  (zsn:mroIn K zo9 (.type "BaseException")=some true)
  (rk:znj K (CA.mk znw znz zn3 zn1 zog zou zoh zok zol zpp zo2 zo0 zpc zo8 zo1 zqa zpq zod zot) zo9 fun r=>r=r)
  (gt:specialIn K (.builtin "object.__class__") "__get__"=some #[c,.builtin,"getset_descriptor.__get__"])
  (tk:takesIn K (.builtin "object.__class__")=some true)
  (zqz:nsIn K mainGlobals "MOST_NUMBER"=#[c,some,.int 999 tk0])
  (zqj:nsIn K mainGlobals "MOST_GRADE"=#[c,some,.int 9 tk1])
  (zqc:nsIn K mainGlobals "MOST_CLUB"=#[c,some,.int 99 tk2])
  (zpk:nsIn K mainGlobals "MOST_REFEREES"=#[c,some,.int 30 tk3])
  (zps:nsIn K mainGlobals "MOST_MATCHES"=#[c,some,.int 20 tk4])
  (zq0:nsIn K mainGlobals "MOST_ROUNDS"=#[c,some,.int 60 tk5])
  (zr0:nsIn K mainGlobals "MOST_REST"=#[c,some,.int 10 tk6])
  (zqg:nsIn K mainGlobals "MOST_DEEDS"=#[c,some,.int 100 tk7])
  (l0:LNe K "met_lately" Qe)
  (l1:LN K "reasons" "reasons" Ka f1 o1 v1 d1 m1 c1 t1 u1 n1 z1)
  (zsy:nsIn K mainGlobals "reasons_bars"=some #[b,f1])
  (l2:LNe K "takers" G0)
  (l3:LMe K zn1 "__init__" "Ledger.__init__" Vx)
  (l4:LMe K zn1 "write" "Ledger.write" T1)
  (l5:LMe K zn1 "over" "Ledger.over" Sz)
  (l6:LMe K zn1 "met" "Ledger.met" Qf)
  (l7:LNe K "check_range" S4)
  (l8:LNe K "check_count" S5)
  (l9:LNe K "check_ranges" T2)
  (l10:LNe K "check_clubs" S6)
  (l11:LNe K "checked" Kb)
  (l12:LMe K zn3 "__init__" "Roster.__init__" Vz)
  (l13:LMe K zn3 "check_new" "Roster.check_new" Vj)
  (l14:LMe K zn3 "check_known" "Roster.check_known" Wt)
  (l15:LMe K zn3 "add" "Roster.add" Qg)
  (l16:LMe K zn3 "strike" "Roster.strike" U3)
  (l17:LMe K zn3 "numbers" "Roster.numbers" Uj)
  (l18:LMe K zn3 "entry" "Roster.entry" T3)
  (l19:LMe K zn3 "person" "Roster.person" U4)
  (l20:LNe K "places_taken" T4)
  (l21:LNe K "steps_into" Qh)
  (l22:LNe K "free_referee" T5)
  (l23:LNe K "traced" G1)
  (l24:LNe K "chain" Be)
  (l25:LNe K "stepped" Kg)
  (l26:LNe K "fill" zce)
  (l27:LNe K "left_without" T6)
  (l28:LNe K "place_of" Nu)
  (l29:LNe K "shortage" Nv)
  (l30:LMe K znz "__init__" "Sheet.__init__" Uk)
  (l31:LMe K znz "barred" "Sheet.barred" T7)
  (l32:LMe K znz "fallen_out" "Sheet.fallen_out" Vk)
  (l33:LMe K znz "matches" "Sheet.matches" U5)
  (l34:LMe K znz "match_at" "Sheet.match_at" Ul)
  (l35:LMe K znz "may" "Sheet.may" Pr)
  (l36:LMe K znz "check_place" "Sheet.check_place" W4)
  (l37:LMe K znz "goes" "Sheet.goes" Qj)
  (l38:LMe K znz "where" "Sheet.where" S7)
  (l39:LMe K znz "left" "Sheet.left" Qk)
  (l40:LMe K znz "why" "Sheet.why" Pw)
  (l41:LMe K znz "chains" "Sheet.chains" T8)
  (l42:LMe K znz "rows" "Sheet.rows" Ql)
  (l43:LNe K "drawn_sheet" S8)
  (l44:LMe K znw "__init__" "Season.__init__" V0)
  (l45:LMe K znw "check_not_over" "Season.check_not_over" X7)
  (l46:LMe K znw "check_undrawn" "Season.check_undrawn" We)
  (l47:LMe K znw "check_round" "Season.check_round" Wv)
  (l48:LMe K znw "check_room" "Season.check_room" W5)
  (l49:LMe K znw "note" "Season.note" Rb)
  (l50:LMe K znw "sheet_at_hand" "Season.sheet_at_hand" Wf)
  (l51:LMe K znw "sheet_of" "Season.sheet_of" V1)
  (l52:LMe K znw "takers_of" "Season.takers_of" Vl)
  (l53:LMe K znw "enrol" "Season.enrol" T9)
  (l54:LMe K znw "draw_up" "Season.draw_up" Um)
  (l55:LMe K znw "away" "Season.away" Rc)
  (l56:LMe K znw "step_in" "Season.step_in" Uo)
  (l57:LMe K znw "close" "Season.close" Sa)
  (l58:LMe K znw "take_back" "Season.take_back" Vm)
  (l59:LMe K znw "at_hand" "Season.at_hand" Up)
  (l60:LMe K znw "referees" "Season.referees" V3)
  (l61:LMe K znw "referee" "Season.referee" Uq)
  (l62:LMe K znw "is_away" "Season.is_away" Ur)
  (l63:LMe K znw "matches" "Season.matches" Us)
  (l64:LMe K znw "goes" "Season.goes" Rf)
  (l65:LMe K znw "where" "Season.where" Sb)
  (l66:LMe K znw "left" "Season.left" Rg)
  (l67:LMe K znw "why" "Season.why" Qm)
  (l68:LMe K znw "chains" "Season.chains" U6)
  (l69:LMe K znw "may" "Season.may" Qn)
  (l70:LMe K znw "reasons" "Season.reasons" Ut)
  (l71:LNe K "_law_whole" P4)
  (l72:LNe K "_law_at" Ff)
  (l73:LNe K "_law_mix" Kl)
  (l74:LNe K "_law_numbers" Yv)
  (l75:LNe K "_law_clubs" Xb)
  (l76:LNe K "_law_one_is" Qp)
  (l77:LNe K "_law_list_is" Rh)
  (l78:LNe K "_law_first" P9)
  (l79:LNe K "_law_met" Ko)
  (l80:LNe K "_law_bars" N4)
  (l81:LNe K "_law_open" N5)
  (l82:LNe K "_law_paged" Oa)
  (l83:LNe K "_law_matches" Ym)
  (l84:LNe K "_law_do" Fm)
  (l85:LNe K "_law_deed" N6)
  (l86:LNe K "_law_pool" Xm)
  (l87:LNe K "_law_people" Yk)
  (l88:LNe K "_law_enrolled" Sd)
  (l89:LNe K "_law_rest" Wg)
  (l90:LNe K "_law_cell" N7)
  (l91:LNe K "_law_question" Se)
  (l92:LNe K "_law_outcome" Ri)
  (l93:LNe K "_law_due_question" Vo)
  (l94:LNe K "_law_asks" N9)
  (l95:LNe K "_law_stands" Qq)
  (l96:LN K "law" "law" D9 f96 o96 v96 d96 m96 c96 t96 u96 n96 z96)
  : ∃ fd:FuncData,(∀ (s:Shared) (v:Value),BindsTo s fd ⟨[v],[]⟩ [("_law_script",v)])/\∀ base:Heap,K.In base->base.Ns mainGlobals mg->FnOk l.prog w K mg base (CX1 l.prog w) 11 fa fd ["_law_script"] (zc4 K):=by
 have e:=hfa.symm.trans (mg_of X G l96.b);cases e
 let a:Ad:=⟨zo9,zog,zou,zoh,zok,zol,zpp,zo2,zo0,zpc,zo8,zo1,zqa,zpq,zod,zot,zn1,zn3,znz,znw⟩
 obtain⟨pg_Ledger,hd_Ledger,po_Ledger,sa_Ledger,_,_⟩:=id ztp;obtain⟨pg_Roster,hd_Roster,po_Roster,sa_Roster,_,_⟩:=id ztn;obtain⟨pg_Sheet,hd_Sheet,po_Sheet,sa_Sheet,_,_⟩:=id zty;obtain⟨pg_Season,hd_Season,po_Season,sa_Season,_,_⟩:=id ztm;obtain⟨ga,gk,at_,mx,mo,mB,kit,kitV⟩:=rk;have T:#[n]:=⟨⟨pg_Ledger,hd_Ledger,po_Ledger,sa_Ledger⟩,
  zrc,
  zp7,
  ⟨pg_Roster,hd_Roster,po_Roster,sa_Roster⟩,
  zpa,
  ⟨pg_Sheet,hd_Sheet,po_Sheet,sa_Sheet⟩,
  zpw,
  zso,
  zp8,
  zsu,
  ⟨pg_Season,hd_Season,po_Season,sa_Season⟩,
  zrs,
  ztb,
  zow,
  zpj,
  zqb,
  zrq,
  zos,
  zpb,
  ⟨mg_of X G zrk,zsi⟩,
  ⟨mg_of X G zpy,zra⟩,
  ⟨mg_of X G zr9,ztf⟩,
  ⟨mg_of X G zqn,zrw⟩,
  ⟨mg_of X G zpu,zqv⟩,
  ⟨mg_of X G zp2,zrb⟩,
  ⟨mg_of X G zq1,zr4⟩,
  ⟨mg_of X G zre,zsh⟩,
  ⟨mg_of X G zss,zto⟩,
  ⟨mg_of X G zq2,zr3⟩,
  ⟨mg_of X G zqq,zrx⟩,
  ⟨mg_of X G zsf,zs9⟩,
  ⟨mg_of X G zrz,zsx⟩,
  ⟨mg_of X G zq7,zr5⟩,
  ⟨mg_of X G zpi,zqf⟩,
  mg_none_of X G zt1,
  mg_none_of X G zoi,
  mg_none_of X G ztr,
  mg_none_of X G zpx,
  mg_none_of X G zqw,
  mg_none_of X G zpf,
  mg_none_of X G zsl,
  mg_none_of X G zua,
  mg_none_of X G zn5,
  mg_none_of X G zsv,
  mg_none_of X G zt3,
  mg_none_of X G zt7,
  mg_none_of X G zt8,
  mg_none_of X G zrm,
  mg_of X G zsw,
  mg_of X G zrk,
  mg_of X G zqn,
  mg_of X G zpu,
  mg_of X G zp2,
  mg_of X G zpy,
  mg_of X G zr9,
  mg_of X G zq1,
  mg_of X G zq2,
  mg_of X G zrz,
  mg_of X G zre,
  mg_of X G zq7,
  mg_of X G zss,
  mg_of X G zsf,
  mg_of X G zpi,
  mg_of X G zqq,
  mg_of X G ztc,
  mg_of X G zs2,
  mg_of X G ztu,
  mg_of X G zs3,
  ⟨ztw,Hg zsn,zsn⟩,
  fun r h=>⟨ga r h,gk r h,Hg (mo r h),at_ r h,gt,tk,mo r h,mx r h⟩,
  mB,
  kit,
  kitV,
  ⟨_,mg_of X G zqz⟩,
  ⟨_,mg_of X G zqj⟩,
  ⟨_,mg_of X G zqc⟩,
  ⟨_,mg_of X G zpk⟩,
  ⟨_,mg_of X G zps⟩,
  ⟨_,mg_of X G zq0⟩,
  ⟨_,mg_of X G zr0⟩,
  ⟨_,mg_of X G zqg⟩⟩
 refine⟨fnOf "law" "law" (Sf D9) (Zv D9) (Zk D9) .none v96 d96 m96 n96 c96 t96,fun s v=>.of_eq rfl,fun base KX NX=>?_⟩;have Z:XG l.prog w base K mg h:=⟨X,G⟩;have ztd:=nE Z l3 ztp ztc fun F=>Nq F T;have zqk:=mE Z l4 fun F=>Jj F T;have zn8:=mE Z l5 fun F=>Gv F T;have zrj:=mE Z l6 fun F=>Eb F T;have zoa:=dE Z l7 fun F=>Gx F T;have zq6:=dE Z l8 fun F=>Gy F T;have zqy:=dE Z l10 fun F=>Gz F T;have zs8:=nE Z l12 ztn zs2 fun F=>Nt F T;have zn4:=mE Z l14 fun F=>Q4 F T;have zqe:=mE Z l16 fun F=>Kd F T;have zoo:=mE Z l17 fun F=>Mq F T;have zo4:=dE Z l20 fun F=>Jn F T;have zpg:=dE Z l21 fun F=>Ee F T;have zqt:=dE Z l22 fun F=>Jo F T;have zsj:=dE Z l23 fun F=>zfg F T;have zp3:=dE Z l25 fun F=>zcd F T;have zo7:=dE Z l27 fun F=>Jq F T;have zsb:=dE Z l28 fun F=>zau F T;have zqh:=nE Z l30 zty ztu fun F=>Mt F T;have zoz:=mE Z l33 fun F=>Ki F T;have zoj:=mE Z l36 fun F=>Pu F T;have zpd:=mE Z l37 fun F=>Eg F T;have zo6:=mE Z l41 fun F=>Ju F T;have zrh:=mE Z l42 fun F=>Ek F T;have zn7:=mE Z l47 fun F=>Q6 F T;have zn9:=mE Z l48 fun F=>Py F T;have zop:=mE Z l49 fun F=>G7 F T;have zn2:=mE Z l50 fun F=>R0 F T;have zru:=dE Z l71 fun F=>Bl F T;have zof:=dE Z l72 fun F=>zfi F T;have zpe:=dE Z l73 fun F=>zcf F T;have zq3:=dE Z l74 fun F=>Fg F T;have zry:=dE Z l75 fun F=>Bm F T;have zrv:=dE Z l78 fun F=>Bn F T;have zsr:=dE Z l79 fun F=>zcg F T;have zsc:=dE Z l80 fun F=>zaw F T;have zpn:=dE Z l93 fun F=>Oz F T;have zpv:=dE Z l0 fun F=>F9 F T zn8 zrj;have zqp:=dE Z l9 fun F=>Jk F T zoa;have zom:=mE Z l13 fun F=>Ov F T zoa;have zo3:=mE Z l18 fun F=>Jm F T zn4;have zr1:=dE Z l24 fun F=>zhz F T zo4 zpg zqt zsj;have zr8:=dE Z l29 fun F=>zav F T zo4 zo7 zpg;have zp5:=mE Z l34 fun F=>Mv F T zoj;have zrp:=mE Z l35 fun F=>Bg F T zoj;have zor:=mE Z l38 fun F=>G3 F T zsb;have zrn:=mE Z l39 fun F=>Ei F T zo7;have zpl:=mE Z l58 fun F=>Oy F T zqe;have zny:=mE Z l59 fun F=>Mz F T zn8;have zpr:=mE Z l60 fun F=>N3 F T zoo;have zov:=mE Z l62 fun F=>M5 F T zn7 zn4;have zph:=dE Z l76 fun F=>Er F T zru;have zsa:=dE Z l81 fun F=>zax F T zsr zsc;have zqx:=dE Z l83 fun F=>Fl F T zpe;have zr6:=dE Z l86 fun F=>zaz F T zof zry zq3;have zrf:=dE Z l87 fun F=>Ew F T zof zpe;have zri:=dE Z l89 fun F=>za1 F T zof;have zr7:=dE Z l90 fun F=>za3 F T zof zpe;have D_reasons:=dN Z l1 fun F=>Gs F T zpv;have zo5:=dA Z l1 zsy fun F=>Gs F T zpv;have zsp:=dE Z l11 fun F=>zcc F T zq6 zqp zqy;have zrg:=mE Z l15 fun F=>Ed F T zom;have zoy:=mE Z l19 fun F=>Kf F T zo3;have zt4:=dE Z l26 fun F=>zjd F T zp3 zr1;have zql:=mE Z l31 fun F=>Js F T zqh;have zpm:=mE Z l32 fun F=>Ow F T zor zp3 zr1 zqh;have zrt:=mE Z l40 fun F=>Bi F T zr8;have zs4:=nE Z l44 ztm zs3 fun F=>Ny F T zoa zs8 ztd;have zob:=mE Z l45 fun F=>Ra F T zny;have zn0:=mE Z l51 fun F=>N1 F T zn7 zn8 zny zn2;have zp4:=mE Z l61 fun F=>M3 F T zo3;have zro:=mE Z l69 fun F=>Eo F T zn2 zrp;have zp9:=dE Z l77 fun F=>Fj F T zph;have zpo:=dE Z l82 fun F=>Bo F T zsa;have zsd:=dE Z l85 fun F=>zay F T zqx;have zs1:=dE Z l2 fun F=>zff F T zo5;have zq4:=dE Z l43 fun F=>G5 F T zqh zt4;have zoe:=mE Z l46 fun F=>Ry F T zob;have zqr:=mE Z l57 fun F=>Jx F T zob zn2 zqk zrh zn8;have zp0:=mE Z l63 fun F=>M7 F T zn0 zoz;have zoq:=mE Z l64 fun F=>Fc F T zn0 zpd;have zqs:=mE Z l65 fun F=>Jy F T zn0 zn4 zor;have zq5:=mE Z l66 fun F=>Fe F T zn0 zrn;have zrd:=mE Z l67 fun F=>Em F T zn0 zrt;have zqd:=mE Z l68 fun F=>Kk F T zn0 zo6;have zp1:=mE Z l70 fun F=>Lc F T zn2 zoy zp5 zov zny zo5;have zon:=mE Z l52 fun F=>Ox F T zoo zoy zny zs1;have zqo:=mE Z l53 fun F=>Jw F T zoe zom zn9 zop zny zrg;have zqm:=dE Z l91 fun F=>J9 F T zp0 zoq zq5 zrd zqd zqs zov zp4 zro zp1;have zqi:=dE Z l95 fun F=>Ez F T zph zny zp9 zpr zoq;have zpz:=mE Z l54 fun F=>Mw F T zoe zsp zn9 zop zny zq4 zon zpd;have zp6:=mE Z l56 fun F=>Mx F T zon zoz zor zql zpm zo6;have zq9:=mE Z l55 fun F=>G9 F T zn7 zn8 zn4 zn9 zop zny zp6;have zpt:=dE Z l84 fun F=>zfk F T zqo zq9 zpz zqr zpl;have zqu:=dE Z l88 fun F=>J1 F T zpt zpo;have zq8:=dE Z l92 fun F=>Fn F T zpt zqm;have zrl:=dE Z l94 fun F=>za4 F T zq8 zpn;exact zlb (R7 l96.l l96.c l96.k) T zof zs4 zri zr6 zrf zqu zrv zr7 zsd zpt zpo zoq zrl zqi
theorem walk{l:OpenLaw}{q:Program}{loose:#[B]}{XP:#[V]->Heap->Prop}{YP:World->Heap->Prop}{d:DefRec}{K:Params->Frag}(hn:l.most=some 63)(hdf:d.params.defaults=[])
  (hY:∀ (w:World) (h:Heap),YP w h->(K w.params).In h)
  (F:∀ (w:World) (mg:#[V]) (fa:Addr) (h:Heap),(K w.params).In h->h.Ns mainGlobals mg->mg d.name=#[b,fa] ->
   ∃ fd:FuncData,(∀ (s:Shared) (u:Value),BindsTo s fd ⟨[u],[]⟩ [("_law_script",u)])/\∀ base:Heap,(K w.params).In base->base.Ns mainGlobals mg->FnOk l.prog w (K w.params) mg base (CX1 l.prog w) 11 fa fd ["_law_script"] (zc4 (K w.params))) :
  WalkO q loose XP YP l.row.toRowW d [] (fun f vs=>PySem.call f vs) :=
 L2.zim (n:=63) (k:=11) (x:="_law_script") (CX:=fun w=>CX1 l.prog w) (sp:=fun w=>zc4 (K w.params)) hn ⋯ hdf ⟨rfl,by decide,by decide⟩ hY F (fun _ _ a ns hl _ hS=>⟨a,ns,rfl,hS,hl,fun _=>rfl⟩) fun _ _ _ _ _ z=>by obtain⟨_,_,_,_,_,_,_,_,_,_,z⟩:=z;exact z
end K26
open PySem PySem.W PyProof.Rows
local macro_rules|`(command|universe $x*)=>do return Lean.mkNullNode (<-x.mapM fun i=>let n:=i.getId.toString.foldl (fun n c=>let k:=c.toNat;n*62+(if k<58 then k-48 else if k<91 then k-55 else k-61)) 0;let i:=Lean.mkIdent (.mkSimple s!"tw{n-10*62^10}");`(command|def $i:ident:=Nat))
namespace PySem.W.Fast
universe JAtqNhoe8OA C5E3CKHdFDt MuCMOCQVFVs BRfLotQU5AH IgPmXeXBe11 N6BUQLgXB9T ToaElW0Fj7k MHukcB1Vy4k KiUGMLEMOu7 ESCflNfVojn VFFjOKaL1Pd LOloncacxAq SQ0gbswsg8u QzD0pwCPqst EYVprJdAbj6 UFARjbFzOXu ODVrQY0Fw13 OLxwn2zs45v MYiPJENJ4ni SUbpfxQEOiZ DjUtCiYHL9Y Vm5e39giCzj GnM1wNJDnz8 NDrRIWAf5BT AuCGcPkbe24 IRj9Xblnpzr UH3REJkybLW BXKVEhlyqp3 R29qI3JFNne EOElzc0sIAZ A3quN7QPsx9 EIu8fLhg04v VTcJCYDSKLk Py2hruBQc4J KidsQHKJKuY Qa8Zy5b78ac AuPK4RM5o5I VYsRpPj4Oak VqVod81meGt ITswyl1ilr5 Dcxd5PfuB7t J5Kd0RI8UIR SgwE0b3QN39 DdcB5PtYT3Q TctqGZ3czVr HC8O5nnZVjz JeItzl7lb5A FQsTuK0rcMt ISAnsr7Sb7Y UM9rusO4VA7 Do25LmklxbZ B5IcM47eLXS QgYsao6gMXM QjpDoUUvYH6 UDmMW7Dbt3Q S5alVH80CFu O68eO4rzp3K UnfyX2JXSFT JqJJ5weyFp1 OK0LEY90oio MPQ0GPiY0fw QtzDbPumofp C7XTgpq8f4Q PwgyFV002RE JXAZWNbIiLy KPi0PpHeobw P3iQ8MAbSTb RyCnGPh0T54 R5o9iFSJF54 OesulmgjVsJ HTjGEqtGuTl AzbYbN8lGOX AAaC246WNNp O2soaoqaPZ9 SoGpbvbp53C RfNLoX8l2qB VXdsoQ1zDbo SxINVrep8FM G4pQwEz7Yon Q2BR3ZEILgS A6yXnsafHsS PfMlK6Y4OFZ D44pqephiGP P5JfbpDBXBD Ab7ugnc17mB FUc3Pvg9R9X RHexK2XR7RL VxAUaIrC7Ik Qj1F223gDQY VrrWGuItEAx A2tzWMd1lOG QwXbavLbGvL Dap9V4H2MEK A0RnVnS64Hc PI8QACJGalF RuwWp1IAU1g Rs8RT8hEFMs LyTjRY7faTz SNb3SKUvtYW ILwtBR5ZxKN QXxTXm3w1mc PAC7XIykUZ8 SxnLAKgvZbW FVDK8Ldswub Jsws7CntB98 FcbKVdCvONy Bu3SvqSo2tf KNruCmlTEJX KgfdI90gvMY O6rX0ZaVcIc U5zxCQWX8EM QKCF1s2GwYN GFP1p3cPQwx BS3vDgMDEgC Bo12YZpPFqn TchXFhnlg6U PkAgVYNi2ts GshwiZoCCTa LcoVH8KH2eE C1N7q9tJRKS AJQ0DlqLEMe RyOGQSQorzJ BgBLCPsKKpf LK2LvOwJDJb SUCoOODYg0P IAg4wMaLuuS MGL9pmh4jnB Lio7OEsMHX6 O2xuuyng1zR HuCWYB4G4un SZa3jCZplIg PBXRCc33zNW QLCoPNIYrvG KrgTKHioTWg HJWbMyyQ5DE AQMBwhEpZ9K QOv7HlBVI0y Bo6cME7UUUf P6juzH2FfST HdQ4u3efsfE C65TgSdv7Nq CIUj74Jkz2g GUpzNkscWch Em8HpZy1ncm AznafxBwr10 PTUZlERIk7U BRHBcr2ezoC NNSezFP2ovN OrYUO0Y880s E4YSoRonF9A D7x0srACu4N DllZ9L0dk6e Chz82mK8teL RcjSKD7Zsq4 Em9hJ6m6JJU D6CTd0CSVSR Eh8q5FaQocP Rm5xCTEASea FD0dryLlI5u Em9axQvNQ3Q J2NoIXdvOo9 Iyopc3lUbvB VqGJg0UlPA7 EpSQTpJu3va PbeQQt1nFef N2vXMTSsOnU CMkOa08hZck FIbJt2dtlXK JnvJuALunJJ IKNORBOMFxj LRpANM4I1UH Nhdv9yMAErV OivXnlSPzyH BOdaM6fxZlf HBEbFb9UV1O CzTMkkwJRUg Rls4PS5EDlx IZDTH5P4HwA EWdkoScx8y5 NMzbDsCAg0W UYUGvJkXbo6 RTCMjntkQaB VXGYjCFh8nm CvwBat7I5na OhRWVH2W3su LoVmWXws9A5 BY9DX5M6gab D12n9PoMaym JccHAPtMhB5 EMB3D0zQvGc DigeGXAaiWJ VLMRIs7RXWq R2MMRVVuAd2 By0t3c2rXTc EswYW7sbgOZ Tyh3WuSZ2yB JtqjPiIBPmg Q1ziuck7uEW IblN0ij1fO7 Q3EyiQJDASG AdcPtrLwKsN UV0DjrPtNta Er1NPFxTmak LtsaFeAbtcQ Ofd8PfHORvT SfPPoOJXVHS Mk2wPb3gqMv DNwaQC7wcko UOXRi5RbgVo DHz9FgqM2ja RRwCXJWBWyF CxFapjVN9P9 LWOIVcv5yb7 L9XdQDvjQKw CRdh4YMLU9W KLR0B6aVaHg ReJ0j14ZcYe ApE7bYNYU4m Ho4acwtXI4V H7Qq8oHuWAo QAqnhQppJN5 L1UF9jiNez1 JXn8FulJq5A PXjZjNxUTw3 VfDZPbLUn15 NYnbtxwlOET BXeVvdx4ACo K0XGMQPwH5R GGkuYR9HJE9 Ft68jOwLVfR FNFqsbTslgf D2087rYpL70 CHR6rnG1TiU SBcHBPe1PnS UvUuvXSd79h Jll8HjoHtmu LKDcdinda06 BaFR16kRLm3 HK9uwtL7sMP CpIus8u4410 LdpJiKyNpkm IGlBcK63RWF NO1DERylHua JLYxC74QlpG MojqfRTF0rq QMUiOPG9mUt HTwEyV2npWM NBOCa7X0tRe RrRV15sRcxh UcYnu4KYywP Fs7wRkpdO5M KBlJGC7GSbv KoYPHW3qDh6 JFN6znUzh46 EAuM4n9KeRU CS78fl1stuj IvXI7m2s3lY F7xGNyXTdSe VrzAhzeGFRq S6tBCLg7kbp JjUxybPmqfI DOxJGPJOzST SZOvld46AEa RK6gkTqszoo HZRbIuwQCkJ MSdgYMYQXZE B99JOcu4cQW VPCiNFdlup0 CSeWZ8D6F7V Oe2kE9FFCgA UAbOkJZ3Rht La26UStca2c HjUhN8RsMTl BLC9O91hzh9 GKmsmSfQBX3 JsCOwzrMl4F B3NZIkFyxSW VnSyZ9cKMu3 G4KDPwtWApl S517XFLaiDt AqIrVPcv8vd A4AvLGLd9ep NUEnsJLuRBD F9MWs4tBqIz IAFm2WyLfNb AQEcmP1z7wc AtQPTGT83DW LSsg3OFwV6D TuecjpQGKhE IqEr72K3FZf TSq5ePobZSH EBZkRd2JyFQ Ienj4aumo6c IdsHgma6YUy GlsAXnQ4yDV Q0JIHRj9Poq UFXl67kDjp5 RKtnl2cT7hS OlfhvFtsIBn AjeLow4ZskU QW3ai0baHON EkYjcVbC6pD F68eNR7CIvS MTIk5cJH2NZ SyCGI56k9IN TunCl1RJdbv IuLS2kFCxCr ULMH9XWdeCt KyLN8bJd4E5 URUC3evQWGn VPE5qA6hJlW QOQUK6wHy2w Vs9pG9E603c IAdQAwBFvSk TB5rufHN2Hq NHpBOI58YBl J8MPRrSM7gK UXvd127y9tb Rjui2EWqgZ5 Ch2RZP3NrIX MJ7UghhuxR6 UoXkW0AQF6Y IUuWrQ2qycH UhwFkZoxgZr Thm8Z6Tjsu7 MhMG9Q9MDgV RkhjohzYvTM NBt81s6g9aY UqAbpsQXs55 F1KHYdoNr1C U9x3PcNxt2Q S3d4EFuNYhm G4xX62pGer5 N8geFWkRzYv RbaFKTzmnQQ NBDAiTgEaOc HBDB4bIchu7 PIQesA3ceLp Udy10OyfGM3 QzSs51YSPxF OReT6dA382T DbwPypCkPwd IYd4SV3QZjm BPNN0n616tV JwMdZNOtQbz DZfMJx1CM2A S56GteJZayN MA8Ko1FEG1h TS2LpMCmcFf OBNP9ysdb7n CPoQ8BkGQ59 QR1UVyR2Gdb RpjHQ7NcMBY UrkZSLEK5Z7 COcpaCZsu64 CZshcC4aweT KcIGzgQM2UM JhJNRz15Tg9 KBzrwEYdehZ GSINEaYwHb9 JMfsUpP0J64 Oq9xAq9TSps KR4XnEeaQB5 CwMt71uoNwQ Imth3DU9hcR Uth8UzCsI1F ORK4SsHmWX6 GcEeyJKpAc8 RutirDOqQkt Kaq93Cakeue TxOGK47Iobi MlhZCCvjNFM Mdla3wjKLEK Uwh2vyC7PFz K4YnF23s8BK TGCtXIwbReY JKnPyHruijr Ua5n6FWsOBP BdfoJk2lSVR GgrzlGJkDFQ S5FazFVl9Z7 V3ZRmnqauTB O6l35AREefg T0qHr1H1lMJ JmeuZjNtDlC EyhEFOhnzTs OOqzgzgL1R0 FkC9nkOTl67 LPnjZQdvjnk S4B3HF5bZqZ DkEBmtkV7Ir QGhrMdKvUoo BUrGixlI0mg VQrKxm7sMhr QfKuljODsol VE8Pui4wJnr PQzDU1YB7Yk Qn4Ato1SNtp Bo9ZZ8a74zP JdYpnlOKPkH R5EvP7cylGf O9DgvHAieRq J0Etw1CzBrl IHwGi6LQBQk LaKZZNhFxIW EP4dQt5Wegn DMWaBNUhV8V SEqordOSe9R LWuXUDLzeQV CP4VXMATQjB DofVsgHnAaQ VUgr23z5wXC SSCzZCOdj4s OaexuPEeRXV BFbjyAESqTJ VZCDhAlHXOx NqhOfs9FQxD OtizDYIuPwr Ovw2l0JK3BY FGEQQgKKetT F4vjQ1yR4Ex EhLViTuaAbc SKVCLHYEkRj UbpIpXYcJDs Bv5x4sW3z80 U8a0e09dOhI K90bimK7IQL AzBKCenAJSA Bolx3xL9yYX LZ8fanXG6VD LW97CWijOEn OxLzaUcQDAp Jc57KROwa3j U1YNg7FtjLg Vik2XU5Vqgh EhdYkd69QOw GDC9lMS69Vq IiIDmcWZeyH SR3llgmJbRE IsDDZM1G94C PdVtfcrYRtS MGx44LcdiMf PYF9dYZcuo8 NVaTVJluJmj UMZGomGBmJE VeyNupMpqPo HXHB56tD7oB Nvfm2ImRvQE CjROWlJiHGe EMywojdXz6S NDLlkJKwZAJ R3Y0HcX9pkr DWzW87Res3h Fm9EzPPd4T7 TH1onGYs9cu AJw1xu5jF68 Am6Me2i8wxb Ihwrpl3y0AG B0g48bz0Ho1 TQ05jax6UEZ Ukx98cSYZ5L BHvvjLtHVJs KURHJTBblRZ PWCEwk89VFH TGHRw2xV3f8 N8U8qxINKFM J8OZe36ng8i IHQj0cuaRda N2PuBcAFJVF PbTaSNjWQhp SJdeLzgADeD G0q1vs1O5jj OdZbmtU0ZLh NNe8dvz4rsH NdfbYKCP5Bq BMOUku0jMVp JAyrn4cxGH8 NBVsbmOYupv RCdSGSUSbXh SajX5URqSnV Ki2fHsbcFxj VHJv9bu3m7j IV7hgl9yYJr PudQQpeGHoh F6zvdEyqnRV Mat1emB4a9K BS7jZ0cAvkP I1absaru9te ThPDsYCuibA Cs0tcGbWDJU SRlAIPBidot R6nYIkDDcoU QBsEWKhxfyJ H1kfnHacU30 VI2S4Wz1VPA DeT5n25iMAc JwipaXMio2w RC1fM3SkUKi SteNEh2VUsn AsR2GnyuCq0 NMEC7PDCWhs N5JCih07BN9 TePg7PXlGaN PjdCg9dw19D Vr0gBott5QC DIZpg5NukAc SOPIxPPpeqB B2aUus2DZIB Ctwy9INaPqr LQEwbeYeMNz PYtxR4KA1ag OLeIukgsG84 EMv38oNYr2W HSiJFiWZ2ed INigNdywOx8 AF0oUXI4Nst QuMaEtSH2QN Mbt85ztzJjm SpVQq8RPPnn MADroZ1MDBd R7tmfygdf2r HmwapmL5Lo9 GfVYxnYGGmY Pqo8Cv9T0kD InXOBvmGDnu A9lAlmCLCv3 RIeU5GpB6W0 QFzjrxskTs8 Ka2D0Z1PlgB GMCnaOKppMb G9qaRkh63TJ CowicoASbdr D3f13EW65yL D8m3SJoznW9 IPBVlGdGywg ABcu93vTutP FbO2SIXVUW2 K6j8Ak5H10K J13WbFelgnz Nh9tdAeoIpE BSCXCmbGw41 QhXoeHwLJKO BzsReIMO8uI NYDTwdhwvhV Ujj9nULT6LA B7r2OniS8nO FNJ0fdi4dFS U9Frcc7niq5 NqWywZt55c1 Pz342ZO0ZaF BrWXj21yq3U Dvf0AuLHetU BZO3U8Jg6be RKWa6d4d02w IgP2ASYq3Ij R65FQDST6s1 F74kVR8hHKs LPlMn2W07pE N9MaQ1Ec1pv EqOrASKHDEq QjAf2bGWIj7 Q15QBhXT1Tn BhNHvEUMoZD DpFdJMxhuoo MPtvIT6cld1 FYJMH1AqvJN FBmgLzoJ58d EuBXuLhO56t APWIFwERPbG DbAUH1Vu08g U8TCRXhdgB4 NPUFo6pifye KZmszDzq62W UEzIdv7GiAv NNmgbtZOKW5 HcIbyGuVJsb DOFa5PAw9vP CuizUjEQKAu CFNKWsAW0mX QLBVKayUfEr O3VfnV8jLXT FQ1Rl3H8wqe JQObOjUoXuN LA4pclwn6XB NTBL96dXgDm RbqwTpxl8eW Uw2uZT39mO2 NoGM1zoH4ra MzyPdvspru0 TIw14lcHGyI J8qjPxkiPBq BexPlVnnl4X UptoF7YiiLZ RQSQZejOiBV GFdIqb9Waj3 Js30UpzYTIc IOrVakDmqKa CIwBvSVM7EA NyLPTXXZO2U QKVmQTNXb8X CnBeDIeGayZ RazEgk4ycnw MHJm4XIGdvq ELHvpE30jKz VwggoWtBKZr FQdP4BWbUVJ QFRmgmIKwBR SUmDCEHqlao QUAKRXIVHyu GqZC12pYCOY SpqOcYHMU8M FCLb7BsEA2t PIF5MKxJpTE CCJudzZNal8 T5YFxLc97AY KPKEdPJFSCT DxWgdzvkeip Au1GMki9wAU V1ZOW6RuCtD Sojb0L575dX HCH3K3nh1rd B0D5gtqX6SO IkTjE6kBwKv KA3BHmJMzlt JvGie1uCGMK UeNz4y1fVWV GqpPxXKeSDs EbMkjCAjHVx DNJDMGh3gO0 LGSBtLpg5Xj FOcU8hJPoNs TO0L8wB5Q57 NwG40IiDjfW NCax4pHRY6a Kh06S0aRF3t ODUoMVwHWsr TM8OdXasM5C AlM5elEg1iY Exfus6ZZPO6 NmsHIRRuPQE VPAMHnGYfop Mvb3qPCkTDK NrmS5UYLDYl N3EoaKT7ZMH Tp3BitPauoS F8oGJ9Na601 CfGQoAcJgny HvyuFQv6nEe B5qHi0HDfmk AAPDgYQvVII E5ugHv2Sv9S SOg0i8DYpfg T4KyGTpp3vK Sx7xc4TuibG NYiRCyyinMr R3JazYq7reT LejPck0pWrj SRJJmwrOVUD LkcbRjcd3Ez FEM38wL32Xl AvvAWrB8FLS Gl4l9j3q55K M6EjRAk9w5d L2JcDiTfXtw UbuqZu7GalX VGNgKWPXBID V35TTHWODSE L7NdHILIqQZ PrX2fGDQrbz BT3VXMbSvDX BPeBGIhVJuA QhZ75MTdj2f BCiJ4i9T3yY GQrEyqTgRmM QE3diBbouKg CiMKi2uK8Sl VpRVFBiHUOF Mb3lC18GLFb DJfoJu6Y43T IZ5dZD3jigP CbFVT90slGF QZrlVgJCSGI NB81Xq5Uy4a C4tuhYioixY Si6rqTq4YJi FNT8RHbzQJz HwmqM8rgMMw ToHnURcbou4 F7H722bjk47 K6rfjRNP22D V3RcLAG15Ne M7wlcfClhoh J83qGwCpGRd RqADZNXJ75u DVJFmjbqdLy IZXG86wCD1V LhPtDXBzdU4 GqRKN2s1ITM FZJl8hi3bPd NVTBubvSUrb DOMMsR8Kxxy GqONsYx9evh IkD93TOQIi6 PdkhYmDBGxL UbcPQEh2vhc E9QKD3VZZIn Ku6nHUxfgjf F2JOmY90lYb NHZYqWUnmzo LKWXvpZnYN2 UrPR1J7FucB CZuHQMQh9qf VFMHKvcNR4o EaSJ3Bz7AM0 NfT8YR0b7sP G5Z7sIcCtO6 UWABDJ9EYC3 SbkpUVxSXOW NxZdxy33Msk UGcH7XIEe4f FVL4mzWCnJR D8FHKD0ngCk CjZpOAev5nI Ehz6Tneeb9N JpJ8m6SCHsw SoXZsaB4VX1 Mu15Xn896t3 VjmKY0oBlwe RFeHLZChG1i Uhg5z3fMQ5r His6IinGcry KesGCdwkU6m Do5X5GaUfYd SNP8IFWbhsf By0qbmcatxw SYsLasqfYuR D3FAhUykm36 HLTWm5wcEZY FbaTlp1iRr2 SsWVPlG5ACu IyjfRWg9Dg4 AQYwQDWRWJ8 EviT2O9CsrN MdQDffNGRqj Oc8wp6aLtCX TD0VMo4b2vB A891vCLcXV1 T9C3qMuR2Za VJ3JgFD6Np8 IoGZsKobDS3 K5DuvuTwIqO QwrSZTM0sNM TUTwwyvitTw TJVZomoYLAR HCkZJsXBEEj UaoDZARrk3Z VhtMOgCES9C FPDJkOJOZxs K6hWajPAO0X KlHO0s3uagF Jm4OJgAi06O RfCJKBrZk9z AoG2xpCrjCq RJt8j4FAsUH FSCScI2aPZH RkEIUR0V1lm RIuyipfihU3 BJss1YyTPrn THeRFV5EFqP JYNKjMWsJ6K KanyRd9PtLL JFagtsoLyPZ FrPwC8KvcQc QvI9AsVHM7F UPQm05uPMAn Sj5E6X8yBBh Qh6wnBQmrIe LxvhkG5kvtD L3eNMUSk77u Hwal9TlHITY N3sTK5XpcSV LP16QPsXZEi StsRcgMS97x RE5g0xqnAgr Uwi4vmtTW50 ENU0k9nWjK2 Ix9k1XHOmhA HSuPj1OTAwu DZ6ZvDR8WKm OjbV6JK3Xov Fbn5fRL8oRG J0qXSod6i1n SYjb2EDggmh HCXijOewUgO PMbM9qjQwT5 NJ7tUDEmrPo Kt1m5bWa8oX BYBwi68WeCb H95z8VgeSDk J02BgGeoQn7 ENoyYkwcCb3 UndjtnqMThU TcpiRBp3Iv2 LGGqTpD5rAr F26ofIbsHL7 K6c4Uvzssxp N3GuU8czjpZ A1ZCgyMSvBv NTKgNzPg4pQ In0nXlju6OM KlSh6oedByI JQXHGFWtFuu Sn8gOYrRR9R PXbtd5XIAgE MYBRbnGDxqG QmWs1El8eWZ Ba41MeejYvI SgiIL5KFrSw GH4O2M4CSlu DsdU9XYCv8K PgP6uiAXuz7 DMP3Q5Zxyno NoKVGrg67Zd G28UbqbEouT Ud7DuhQKFHm QRo3fo0KFXu FatMLfa2JTf QxDIPCjPJKD BKH5fqvU1G6 VwAhhwZJtW6 Ov7ZYqSBT8E SqXcy6nphkV QromxJgHqkZ P1xaqvsn491 H1zf91odr6M BDdyZCrNg79 Aujuxo0wCeh U7TMnLdp9pq LWOSj2rp9g4 LwycLNr9rBp ODgxpmrS5ag QhFdgsazOAj DUTNQTgZmAu AV6IRfsjQMb QS3UXTDnAOF IDGLxsg4Vsc KhxcOOP0d8L Tj4uy47myVA FpDylQlHFTc CiDp5IpcFLD EYWOTaBnaLz F7gelna2IKn VN1SZeUnXuN ElEUtN0NKim VSLvSufspjr VhDCzrSp7fp J5uj5NqGCpL AU5SQt7dNe5 A3Yk8juILp8 CJl8RQVPRvr NKsqqPOiEMh LDuzjrQKN1p EQz8o7w39I5 GZuIH16WLpF RAQp5yuz9Vn UStBwyONjLb FTWkvWEwGNS LzsXRawzDC1 NXiKSD29AHt Tbf9hNfE6TE L2xK7tV3YEv Sg6xWkwD0tK Rt8MJiwfzDQ RBxH6LNFGE0 UhFsLCQ8L3A KbwRZELSeN0 HmOcpCyCYiS Ep7eIO5GkPy JrURI4KvXOv PTuqfhmb4qg K9kfoOLMDQ8 Ksgguc8nz37 IUEONqCsZTC IU5RMlOiwEp Hpenay81ezv Hmxz86GJter VP6Sz6fvkTQ SMQv9W5wwW4 JN3zToH7nBJ Ewbrc8V0mYc MajlYjeyrlB S14w0qVwEb2 LeT5kkV4FFy Rf1yoZlq452 MAFGvVlasV7 Hza5yZfCffU DD3HBKcdQ1T KYVzayxtDZC JdTyJrOi57q OTvpNuefpec QGHiLzitq74 E8QWRqLpZJy NQqr95jLRRS IrDtCWfyCod T1zcI0lkGF3 UJyPVozES4v BdtWGBMXc6T GiUIPVl0Q5a RZVLCUwdTDW IwIyVVZkSXV G3vobvgK2Yo MlmsHq2qdxQ RzNJhx6FYkE Ac4xM6fjoOk RznLBFtOxT4 M85wKhAHkhd PXksWVugrmW De7EgdsUuHr QHg6R4VvX0E U1O8GSG5HcN TlEyS8rXf9m OhCSUBKzdnw NW4G9j3eYQe VUY5VgLC8PU L5PqgEbPmMK RUqrFm8Eews VAkHzIs6Iav O0FAMXmYSL1 RwnjbnNX6if AwyOWcq9zjf KrGRnpOVtEM HHBSKh6TC1u Ipg6VSaCO8R GerXBmSyUoG RSBePhKxr8r OgDBRP4KTpk BihhReLpsI8 ROeTn7OtDC2 EFO1oepmeIq O1Xaxp1Uppz AHElSPLIgCa K6UO9zKSi3o RVT8oiNRnIy PBIK6xgIi44 J6aWv8g1J3H GPF5thGWQSe JZ8E3d3SCu3 VD7gjvM0ZKP Ple9H85WBhA ENVRXBChb5Z Fwibay8qVsG C7VJlKxwt7N DK4VcUEkMAZ C0MiDSEzwU4 OC7ZIZPPilG LnnaYeikJNT JK8h6qocFg3 ODBNg9QuOjh MytN6E5xucn DXpaP85yxyQ EyAhnY86k3q AVXYaQJBem0 Mj5JaOHfmP6 Ups4jTZcOkr BseRo8DYCkm RcxriCUMtOE SX0qfFgosc0 Ca4DM0VKhiC GwDPcAqW89c UiIKhJfAmh9 T7iyoZEkUYn Fq9zJWv894d VJc9iVnzIXb AWRKtgJWG20 Krrq1ewIo2f N4uJ57Knjkp U887LRIyhG7 FaX4RpYVP5K NLVDI0efXlX HyqQsa6fErP OHPKQCW2DNY MrCjN08SxCg DEsCeOaslef DCceZzQJg5X UYub5D3RvHO VAnylaykYLq U8JQBQjJAIV Jtox3ZPI2cN F6vuHzuLnPW TsA4CabmOto FqaNAXTKKg1 F01cs8JdywX LrFFsr7fJA2 QaJ8i6E7Ixn R0MRVNVzGNV OZOgxjAMpbG Aq670Y61kqv LC6I8I4RUj8 C92AdFtCOGA MDEy2buYxZZ MJ6j9lg1c2h AkFbgNpZgwY GsiFHvCM3vb Gi3oonaNGM0 K4oDMkqSEkQ UMdVSe419yP DyssVjcFyYs KmdO6Ab7cwc SMJj0bFytKA LfRqvr0J773 PfT5OpRkEYc CJ7YelxR9dF Ltw4GtETJ4L DXQHly1YOR7 JLr2eJqK2oV NVtSqJXJo5n KPftkAupUEP G8VvtBq5igD IB2A61jFbvA DDX8toBcQYA TOIw0BvvIts SCID48Y6kGp GbWOLfvPcgg R4nVdU40ZYV V7lEco8gMHX SS6fjs4QMgu QADqmMBUGyj QdEASiHfyVs NSQYfxIuK86 Ioz7Ubvn9d2 N8dZ0e1nujE FUWLwKHR5J5 PMOROr19rcf Ihk0a9ZzCA1 UKXTx28k27J GQ0Cx7BLVbu STZXM7PwwSj UJMqXdxy42D NduEB5j3Yh9 V9CiZWUEWHJ Gd4RAblgpkp L27IXk6kgIZ OhX6N4X0U1N OR6ZF9PYKei MbIayi82IuY BJlQMJQFH7d LlKQqzZXC4G DSgOHNeLGBs GWzZ7wNRHo8 KSYsiJgj7ku OqLHU4D0gRo SPhkt01OThK UZOVBAipxxR TpJNIu7VfFA UuAan4yqQ3w Nftny7Rsynq V7tccWMr0aP VRz9bYPj42C UmKS21NR8Ga QD7oFnanORv By0JP58myqP Ay3sWPHXysd IFVqSfW0MOf N2TlW91spvX OqFCuJgcubB Px4a7i0vp7A BXg1gI0VRFF Dz8oKhZMBpv Kun269c4ewk GEoeisogX8d OjwWLVxrHq8 O8mLbviRXSF JKm0ODIXB1Y OekejRti1Kg NdV1YDbhUMx GZvQYalg7t1 MBE45KiKwTG M9dlaKtgUH2 Pkj4J5SCYAs K4xDqOZCOAq DHVONs9CO0F NMFUUJeRa6F AJfSM008ZdD Ef44r51rlBk O3qdwLeXdMm BDd3LWFVmQR NCVpR9N5g6m Fp6aW57dZDY PrxYyMjtbyl MSKDzNacHWF M7so1Ar4rBa HOh1dliGSE6 QvitpppihKZ JcEckA3YXK0 DCGQPwvPDOl JCk7jAoECcQ B4iIX4GGGWR KE6SOGn19K1 Vd6kZT8Md8v KqVe6bT3R2M HoS15SHwTC7 MqSHcC5n9Xv A73eUx9URCo E6Ud7OItXX0 Jlqw2L1Jrm0 LDF2zaCbpc9 DrUC7Hm1hSd Mo3v5soT1ts Bx7dY68eWcx MhPAqgKjalp KrkygtXKoLo HdOdi0X2aXJ JJSHDkqzRI5 Be6U7sBmsk7 HrUroNmSowt CXGcfR2c19A Qqo3Z6mhmMz GQvM8WJS4pI SjwcL6CTDN0 HjYZabNZUgC S9amiTALlqe IOThJZamd23 Ikhx9qq9Caw O4Jq7Lv5BDi LKjwIUHSPxk L21UsPnUKJy NJEjpseBBM9 AhRo213h2Lb SvlXlp2UQcU JOKYypWOFtD N4Hsl6fQiZg TJlyioYxZiy IXy0MmXh5to ET6Q6rk8cjx LdbqTBibAQ4 CvuMTJZZyEn E4qW0E3vEa9 Md4oxgcoCYW Ig8kI3Oi5n3 O00kjvADNhF TPXaMZV3fim TZRrK89UB9B R0ReGFR25tB EUGsCKLJ6f6 JzDMGZcZLUL T2ceMD63q8N ObMtM5STnfa SYNTpFmfwCU I0vWWBXLlZa
end PySem.W.Fast
set_option maxRecDepth 100000 in
set_option maxHeartbeats 0 in
theorem PySem.Challenge.cw_whistlebook_k26_questions_refused_holds : PySem.Challenge.rw_whistlebook_k26_questions_refused.Holds := by
 w_on;o_law;k_head;(case hw=>w_witness2)
 k_fill
 refine K26.walk (l:=PySem.Challenge.rw_whistlebook_k26_questions_refused) rfl rfl (fun w h Y=>PySem.W.kIn_of Y) ?F
 case F =>
  intro w mg fa h KX G hmg;apply K26.zlc KX G hmg
  (case zsw|zrk|zqn|zpu|zp2|zpy|zr9|zq1|zq2|zrz|zre|zq7|zss|zsf|zpi|zqq|ztc|zs2|ztu|zs3=>(show _=_;k_is))
  (case zsi|zra|ztf|zrw|zqv|zrb|zr4|zsh|zto|zr3|zrx|zs9|zsx|zr5|zqf=>(show PySem.W.excIn _ _ _ _=true;k_exc))
  (case rk=>(refine⟨?ga,?gb,?gc,?gd,?ge,?gf,?kit,?kitV⟩;(case ga|gb|gc|gd|ge|gf=>(intro r h;cases r<;>first|exact absurd rfl h|(dsimp only[_root_.G.Ref.cls];k_is)));(case kit=>(intro r t h;cases r<;>first|exact absurd rfl h|(cases t<;>(dsimp only[_root_.G.Ref.cls];first|(show _=some true;kit_is)|(show _=some false;kit_is)))));(case kitV=>(intro r h;cases r<;>first|exact absurd rfl h|(dsimp only[_root_.G.Ref.cls];kit_is)))))
  all_goals first|(show _=_;k_is)|(constructor<;>(show _=_;k_is))
#print axioms PySem.Challenge.cw_whistlebook_k26_questions_refused_holds
