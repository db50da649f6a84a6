import PyProof.Rows.All
import Wide.All
import OpenK.AllK
import Wide.FinOn
import PyProof.EqAt
import PyProof.EqKinds
import PyProof.TupleCall
import Lean
import KE.KDictList
import PyProof.MaxThree
import KE.LcSums
import PyProof.Rows.FactsN_abs
import PyProof.FactsAll.list_3
import PyProof.SeqI3
import PyProof.EnumIter
import PyProof.EnumMake
import PyProof.EnumFor
import PyProof.ZipIter
import PyProof.FactsAll.zip_1
import PyProof.DictIter
import PyProof.MinMaxWalk
import PyProof.Rows.TupDisplay
import PyProof.Rows.SetFrom
import PyProof.FactsAll.NoneType_1
import PyProof.StrCalls2
import PyProof.FactsAll.list_4
import PyProof.ListRange
import PySem.Challenge.RW_whistlebook_k42_whole_season
set_option bootstrap.genMatcherCode false
set_option compiler.extract_closed false
set_option genSizeOfSpec false
open PySem.W(Frag)
open Sum(inl inr)
local macro_rules|`(⋯)=>`(by first|decide +kernel|lia|omega|walk_at "ar")
local macro_rules|`(tactic|omega)=>`(tactic|lia)
set_option hygiene false
local macro_rules|`(#[b,$a,$b])=>`(some ($a $b))|`(#[c,$a])=>`(#[b,.ref,$a])|`(#[C])=>`(List (Addr×Obj))|`(#[g,$a])=>`(decide $a)|`(#[h,$a])=>`(if_neg $a)|`(#[e,$a])=>`(#[b,.int,$a])|`(#[ac,$a,$b])=>`(Heap.get?_push_of_some $a $b)|`(#[n,$a])=>`(F.okX $a ⋯ fun _ _ _ _ H _ Q E hr h=>?_)|`(#[M,$a,$b])=>`(.inl ⟨$a,$b⟩)|`(#[ah,$a])=>`(X.env.cells.lookup $a)
local macro_rules|`(#[U])=>`(List (Key×V))|`(#[J,$a])=>`(#[b,.tup,$a])|`(#[aq,$a])=>`(⟨by show 0<=sizeLine;decide,$a⟩)|`(#[az,$a,$b,$c,$d])=>`($a $b (by rfl) $c PyProof.Rows.boot_isinstance $d)|`(#[a])=>`(List V)|`(#[ag,$a,$b,$c,$d])=>`($a $b (by rfl) $c PySem.boot_len $d)|`(#[aA])=>`((backTo pos (starEach es X.env)).any (·.1))|`(#[r,$a])=>`(#[b,.lst,$a])|`(#[t,$a])=>`(.inl (SqL.of $a))|`(#[o])=>`(List Int)
local macro_rules|`(#[aa])=>`(List (Str×V))|`(#[x])=>`(List Addr)|`(#[y,$a,$b,$c])=>`($a $b=#[b,.lst,$c])|`(#[q,$a,$b])=>`(⟨$a,rfl,$b⟩)|`(#[d])=>`(some o)|`(#[X,$a,$b,$c,$d,$e,$f,$g])=>`(wpAny (model $a $b) $c $d $e $f $g)|`(#[av,$a])=>`(fun z=>$a (by rw[z];simp[SAd.fp]))|`(#[af])=>`(["_law_found","_law_due"])|`(#[G,$a])=>`(eval $a X.env)|`(#[w,$a])=>`(⟨$a,rfl⟩)
local macro_rules|`(#[I,$a,$b])=>`(some (.lst ($a $b)))|`(#[p,$a,$b,$c])=>`(Zm $a $b (Zi $c))|`(#[ad])=>`(["self","number"])|`(#[Q])=>`(List Value)|`(#[R])=>`(Str->Option Value)|`(#[A])=>`(List (List Int))|`(#[B])=>`(List Nat)|`(#[D])=>`(Option Int)|`(#[E])=>`(List (Nat×Option Int))|`(#[N,$a,$b,$c])=>`($a $b=#[b,.tup,$c])
local macro_rules|`(#[H,$a,$b])=>`(Inv X pins σ $a $b)|`(#[L,$a,$b])=>`(⟨$a,$b,rfl⟩)|`(#[W,$a,$b,$c])=>`(Walk rows gs $a $b $c)|`(#[an,$a])=>`(#[p,["self"],["self"],$a])|`(#[f])=>`(CX1 P w)|`(#[P])=>`(if_pos rfl)|`(#[i,$a,$b,$c])=>`(Fun K $a $b $c f fd)|`(#[j])=>`(Same H H')|`(#[k])=>`(Tx K mg a)|`(#[l])=>`(#[H,H,s])
local macro_rules|`(#[Y,$a,$b,$c,$d,$e])=>`(⟨$a,rfl,$b,$c,rfl,$d,$e⟩)|`(#[Z])=>`(List (List Row))|`(#[aG])=>`(∀ b∈ch,(b∈X.ex\/X.s₀.heap.objs.size<=b)/\b≠X.env.locals/\(∀ x c,X.env.cells.lookup x=some c->c≠b)/\∀ p∈X.pn++pins,p.1≠b)|`(#[as])=>`(["self","number","grade","club"])|`(#[T,$a,$b,$c,$d,$e,$f,$g])=>`(Z2 $a $b $c mg base $d $e $f ($g K))|`(#[ae,$a,$b])=>`($a (K:=K) rfl (pv $b) rfl)|`(#[V])=>`(iteF (Zu ?_))|`(#[z,$a,$b,$c])=>`(al (upd _ $a _) $b rfl $c)|`(#[ao,$a,$b,$c])=>`(findIn $a (.ref $b) $c=some none)|`(#[aD,$a])=>`(nd.length_le_of_subset (l₂:=List.range rows.length) fun c hcc=>$a)
local macro_rules|`(#[F,$a,$b])=>`(SqL.of ($a _ _ $b))|`(#[ay,$a,$b])=>`(∀ x o,ok x->H $a=#[d]->H' $b=#[d])|`(#[am,$a,$b,$c,$d])=>`(#[X,X.prog,X.w,X.A,$a,$b,$c,$d])|`(#[aw,$a,$b,$c,$d])=>`(PySem.W.kia_one $a I.kIn $b $c (fun z=>nomatch z) $d)|`(#[aC])=>`(["_law_may","_law_given","_law_place","_law_steps_here"])|`(#[K,$a])=>`(E (.ref $a) none H)|`(#[aF,$a,$b])=>`($a (fun i σ H'=>H'=H/\(∃ v,σ=[some (.ref b),some (.ref c),v])) ⟨rfl,#[w,$b]⟩ (fun i σ H' hi ⟨e,⟨v,hv⟩⟩=>?_) fun σ H' ⟨e,⟨v,hv⟩⟩=>?_)|`(#[O])=>`(Z1 ca H A S)|`(#[S,$a])=>`(Q (.ref $a) H')|`(#[au])=>`(absurd (show false=true from hs) zxe)
local macro_rules|`(#[ax,$a,$b,$c,$d])=>`(⟨$a,rfl,.inl ⟨$b,rfl,$c⟩,fun z=>⟨sz1,$d⟩⟩)|`(#[ab])=>`(s.heap.get? b)|`(#[aB])=>`(∀ x,(∃ o,H x=some o)->ok x->ok' x)|`(#[ai,$a])=>`($a (Yz I q (by simp)))|`(#[aj])=>`(Ch rows gs q st e w)|`(#[ak,$a,$b,$c])=>`($a mb ok $b nu n ds d $c S)|`(#[al])=>`(∀ t xs,H t=#[J,xs]->H' t=#[J,xs])|`(#[ap,$a])=>`(H $a=some (.lst (ls.map V.ref)))|`(#[aE,$a,$b,$c,$d,$e,$f,$g,$h,$i])=>`(PW.pt (X8 (Yt (Yo #[az,$a,$b (K:=K) rfl,T.zod,Za ($c $d) ($e ($f rfl T.zo3 PyProof.Rows.boot_list (show RelV (.ty "list") $g from rfl)) $h)])) $i))|`(#[ar])=>`(Bfs rows gs p line dep)
set_option hygiene true
abbrev zwo:=@List.length_map
abbrev zwp:=@List.getElem?_eq_getElem
abbrev zwq:=@List.getElem?_eq_some_iff
abbrev zwr:=@List.length_append
abbrev zws:=@List.getElem?_map
abbrev zwt:=@List.mem_singleton
abbrev zwu:=@decide_eq_true
abbrev zwv:=@List.map_append
abbrev zww:=@List.mem_of_getElem?
abbrev zwx:=@List.mem_map
abbrev zwy:=@List.mem_cons
abbrev zwz:=@decide_eq_false
abbrev zw0:=@List.mem_append
abbrev zw1:=@Nat.le_refl
abbrev zw2:=@List.map_cons
abbrev zw3:=@Int.toNat_natCast
abbrev zw4:=@Nat.le_trans
abbrev zw5:=@List.size_toArray
abbrev zw6:=@List.take_length
abbrev zw7:=@List.mem_append_right
abbrev zw8:=@List.take_succ_eq_append_getElem
abbrev zw9:=@List.length_cons
abbrev zxa:=@List.mem_append_left
abbrev zxb:=@List.getD_eq_getElem?_getD
abbrev zxc:=@List.mem_cons_of_mem
abbrev zxd:=@List.getElem_mem
abbrev zxe:=@Bool.false_ne_true
abbrev zxf:=@Nat.lt_of_lt_of_le
abbrev zxg:=@beq_eq_false_iff_ne
abbrev zxh:=@Nat.ne_of_lt
abbrev zxi:=@List.nodup_cons
abbrev zxj:=@Nat.zero_le
abbrev zxk:=@List.mem_cons_self
abbrev zxl:=@List.getElem?_append_right
abbrev zxm:=@List.getElem?_append_left
abbrev zxn:=@List.length_filter_le
abbrev zxo:=@List.length_range
abbrev zxp:=@Int.emod_lt_of_pos
abbrev zxq:=@List.getElem_of_mem
abbrev zxr:=@List.mem_range
abbrev zxs:=@List.lookup_cons
abbrev zxt:=@List.map_map
abbrev zxu:=@List.mem_filter
abbrev zxv:=@Option.map_some
abbrev zxw:=@List.append_assoc
abbrev zxx:=@Int.emod_nonneg
abbrev zxy:=@List.getElem?_set_ne
abbrev zxz:=@Int.zero_add
abbrev zx0:=@List.getElem?_set_self
abbrev zx1:=@List.length_take_le
abbrev zx2:=@List.not_mem_nil
abbrev zx3:=@List.take_add_one
abbrev zx4:=@List.append_nil
abbrev zx5:=@List.filter_cons
abbrev zx6:=@Bool.and_eq_true
abbrev zx7:=@List.map_congr_left
abbrev zx8:=@Nat.le_succ_of_le
abbrev zx9:=@List.filter_cons_of_pos
abbrev zya:=@List.filter_cons_of_neg
abbrev zyb:=@List.all_eq_true
abbrev zyc:=@Nat.not_lt_zero
abbrev zyd:=@Option.isSome_iff_exists
abbrev zye:=@Nat.lt_of_le_of_lt
abbrev zyf:=@List.filter_append
abbrev zyg:=@Nat.lt_irrefl
abbrev zyh:=@List.length_eq_zero_iff
abbrev zyi:=@Nat.lt_succ_of_lt
abbrev zyj:=@List.length_set
abbrev zyk:=@List.nodup_iff_pairwise_ne
abbrev zyl:=@List.mem_filterMap
abbrev zym:=@List.getElem?_eq_none
abbrev zyn:=@Bool.false_eq_true
abbrev zyo:=@List.nodup_nil
abbrev zyp:=@List.mem_of_mem_take
abbrev zyq:=@List.filterMap_cons
abbrev zyr:=@Int.toNat_of_nonneg
abbrev zys:=@List.mem_singleton_self
abbrev zyt:=@List.length_drop
abbrev zyu:=@Option.map_eq_some_iff
abbrev zyv:=@List.find?_cons
abbrev zyw:=@List.filter_nil
abbrev zyx:=@List.any_cons
abbrev zyy:=@List.reverse_cons
abbrev zyz:=@Nat.lt_succ_self
abbrev zy0:=@List.length_take
abbrev zy1:=@List.any_eq_true
abbrev zy2:=@List.length_zipWith
abbrev zy3:=@Bool.eq_iff_iff
abbrev zy4:=@List.length_nil
abbrev zy5:=@List.getElem?_drop
abbrev zy6:=@Nat.le_of_lt
set_option Elab.async false
set_option linter.all false
set_option maxRecDepth 100000
namespace L2
open PySem PySem.Spec PyProof.Rows
abbrev Key:=Sum Int Str
def Hn:Key->Value->Bool
 | .inl k,v=>Value.isInt k v
 | .inr x,v=>Value.isStrOf x v
def zmy(w:World):Key->Int
 | .inl k=>hashInt k
 | .inr x=>hashStr w x
theorem Y3:∀ {k:Key} {v:Value},Hn k v=true->(∃ i t,k=inl i/\v=Value.int i t)\/(∃ x t,k=inr x/\v=Value.str x t)
 | .inl i,v,h=>by
   obtain⟨t,e⟩:=Value.isInt_shape (k:=i) (v:=v) h;exact .inl ⟨i,t,rfl,e⟩
 | .inr x,v,h=>by
   obtain⟨t,e⟩:=Value.isStrOf_shape (x:=x) (v:=v) h;exact .inr ⟨x,t,rfl,e⟩
theorem zec(i:Int)(t:Tok):Hn (.inl i) (.int i t)=true:=by simp[Hn,Value.isInt]
theorem zed(x:Str)(t:Tok):Hn (.inr x) (.str x t)=true:=by simp[Hn,Value.isStrOf]
theorem zj1(a b:Int):#[g,(inl a:Key)=inl b]=(a == b):=by
 by_cases e:a=b
 ·subst e;simp
 ·have h:¬ (inl a:Key)=inl b:=fun q=>e (inl.inj q);rw[zwz h];exact(zxg.mpr e).symm
theorem zj2(a b:Str):#[g,(inr a:Key)=inr b]=#[g,a=b]:=by
 by_cases e:a=b
 ·subst e;simp
 ·have h:¬ (inr a:Key)=inr b:=fun q=>e (inr.inj q);rw[zwz h,zwz e]
theorem zj3(a:Int)(b:Str):#[g,(inl a:Key)=inr b]=false:=zwz (fun q=>nomatch q)
theorem zj4(a:Str)(b:Int):#[g,(inr a:Key)=inl b]=false:=zwz (fun q=>nomatch q)
def Ys(prog:Program)(w:World):PySem.KeyKind prog w Key where
 is:=Hn
 hash:=zmy w
 inj:=fun v a b ha hb=>by
  rcases Y3 ha with ⟨i,t,rfl,rfl⟩|⟨x,t,rfl,rfl⟩
  ·rcases Y3 hb with ⟨j,u,rfl,e⟩|⟨y,u,rfl,e⟩
   ·injection e with e1 _;rw[e1]
   ·exact nomatch e
  ·rcases Y3 hb with ⟨j,u,rfl,e⟩|⟨y,u,rfl,e⟩
   ·exact nomatch e
   ·injection e with e1 _;rw[e1]
 byValue:=fun k v h=>by
  rcases Y3 h with ⟨i,t,rfl,rfl⟩|⟨x,t,rfl,rfl⟩<;>rfl
 pyHash:=fun hv h=>by
  rcases Y3 hv with ⟨i,t,rfl,rfl⟩|⟨x,t,rfl,rfl⟩
  ·exact wpAny_pyHash_int h
  ·exact wpAny_pyHash_str h
 eqBool:=fun hu hv h=>by
  rcases Y3 hu with ⟨i,t,rfl,rfl⟩|⟨x,t,rfl,rfl⟩
  ·rcases Y3 hv with ⟨j,u,rfl,rfl⟩|⟨y,u,rfl,rfl⟩
   ·rw[zj1] at h;exact wpAny_eqBool_int h
   ·rw[zj3] at h;exact SeqAt.EqAt.int_str i t y u _ _ _ _ h
  ·rcases Y3 hv with ⟨j,u,rfl,rfl⟩|⟨y,u,rfl,rfl⟩
   ·rw[zj4] at h;exact SeqAt.EqAt.str_int x t j u _ _ _ _ h
   ·rw[zj2] at h;exact wpAny_eqBool_str h
 «strs»:=fun k x t v h=>by
  rcases Y3 h with ⟨i,u,rfl,e⟩|⟨y,u,rfl,e⟩
  ·exact nomatch e
  ·injection e with e1 _;subst e1;cases v<;>rfl
theorem Ao(prog:Program)(w:World)(i:Int)(t:Tok):(Ys prog w).is (.inl i) (.int i t)=true:=zec i t
theorem Ap(prog:Program)(w:World)(x:Str)(t:Tok):(Ys prog w).is (.inr x) (.str x t)=true:=zed x t
inductive V where
 | non|bl (b:Bool)|int (i:Int)|str (x:Str)|byt (b:Array UInt8)|flt (b:UInt64)|ref (a:Addr)|ty (n:String)
 deriving DecidableEq
def RelV:V->Value->Prop
 | .non,u=>u=Value.none
 | .bl b,u=>u=Value.bool b
 | .int i,u=>∃ t,u=Value.int i t
 | .str x,u=>∃ t,u=Value.str x t
 | .byt b,u=>∃ t,u=Value.bytes b t
 | .flt b,u=>∃ t,u=Value.float b t
 | .ref a,u=>u=Value.ref a
 | .ty n,u=>u=Value.type n
abbrev Vals:#[a]->#[Q]->Prop:=Paired RelV
theorem Vals.length(r:Vals xs us):xs.length=us.length:=Paired.length r
theorem Vals.get:∀ {xs:List V} {us:List Value} {i:Nat} {x:V},Vals xs us->xs[i]?=some x->∃ u,us[i]?=some u/\RelV x u
 | _,_,_,_,.nil,e=>by simp at e
 | _,_,0,_,.cons r _,e=>by simp at e;subst e;exact#[q,_,r]
 | _,_,i+1,x,.cons _ t,e=>by
   obtain⟨u,h1,h2⟩:=Vals.get (i:=i) (x:=x) t (by simpa using e);exact⟨u,by simpa using h1,h2⟩
theorem Vals.set(r:RelV x u):∀ {xs:List V} {us:List Value} (i:Nat),Vals xs us->Vals (xs.set i x) (us.set i u)
 | _,_,_,.nil=>.nil
 | _,_,0,.cons _ t=>.cons r t
 | _,_,i+1,.cons q t=>.cons q (Vals.set r i t)
theorem Vals.append:∀ {xs ys:List V} {us ws:List Value},Vals xs us->Vals ys ws->Vals (xs++ys) (us++ws)
 | _,_,_,_,.nil,s=>s
 | _,_,_,_,.cons r t,s=>.cons r (Vals.append t s)
theorem Vals.take:∀ {xs:List V} {us:List Value} (n:Nat),Vals xs us->Vals (xs.take n) (us.take n)
 | _,_,0,_=>.nil
 | _,_,_+1,.nil=>.nil
 | _,_,n+1,.cons r t=>.cons r (Vals.take n t)
theorem Vals.drop:∀ {xs:List V} {us:List Value} (n:Nat),Vals xs us->Vals (xs.drop n) (us.drop n)
 | _,_,0,r=>r
 | _,_,_+1,.nil=>.nil
 | _,_,n+1,.cons _ t=>Vals.drop n t
def RelO:Option V->Option Value->Prop
 | some v,some u=>RelV v u
 | none,none=>True
 | _,_=>False
def KV{κ:Type}:List (κ×V)->List (κ×Value)->Prop:=Paired fun (p:κ×V) (q:κ×Value)=>p.1=q.1/\RelV p.2 q.2
def kV:Key->V
 | .inl i=>.int i
 | .inr x=>.str x
inductive HO where
 | lst (xs:#[a])
 | tup (xs:#[a])
 | dK (kvs:#[U])|dT (kvs:List (List Key×V))
 | set (S:Int->Bool) (n:Nat)
 | ins (C dx:Addr) (fs:#[aa])
 | own (x:Addr)
 | xd (fs:#[aa])
 | met (f x:Addr)
 | rng (lo hi:Int)
 | frz (o:Obj) (u:HO)
 | tbl (ps:Array Value)
 | ext (φ:Heap->Prop)
abbrev Hp:=Addr->Option HO
def upd(H:Hp)(a:Addr)(o:HO):Hp:=fun b=>if b=a then #[d] else H b
theorem Ze:upd H a o a=some o:=by unfold upd;rw[#[P]]
theorem Zh(h:b≠a):upd H a o b=H b:=by unfold upd;rw[#[h,h]]
theorem I9:upd (upd H a o) a u=upd H a u:=by
 funext b;unfold upd;split<;>rfl
theorem Y6{H:Hp}{a b:Addr}{o u:HO}(h:H a=some o)(h':H b=some u)(d:o≠u):a≠b:=by
 intro e;subst e;rw[h] at h';exact d (Option.some.inj h')
theorem Zg{H:Hp}{a b:Addr}{o:HO}(h:H a=some o)(h':H b=none):a≠b:=by
 intro e;subst e;rw[h] at h';cases h'
section
variable(P:Program)(w:World)
def Xi(H:Hp)(h:Heap)(a:Addr):HO->Prop
 | .lst xs=>xs.length<=sizeLine/\∃ (its:List Value) (n:Nat),Vals xs its/\h.get? a=some { cls:=.type "list",data:=.seq its.toArray n }
 | .tup xs=>xs.length<=sizeLine/\∃ its:#[Q],Vals xs its/\IsTup h a its.toArray
 | .dK kvs=>kvs.length<=sizeLine/\(a == sysModules)=false/\∃ vs,KV kvs vs/\h.DictOf (Ys P w) a vs
 | .dT kvs=>kvs.length<=sizeLine/\(a == sysModules)=false/\∃ xs:List (List Key×Addr×Value),
   Paired (fun (p:List Key×V) (q:List Key×Addr×Value)=>p.1=q.1/\H q.2.1=some (.tup (p.1.map kV))/\RelV p.2 q.2.2) kvs xs /\
   ∃ o es ep,h.get? a=#[d]/\o.ExactDict/\o.data=.dict es ep/\es.toList=xs.map (entryOfKey (tupleKind (Ys P w)))/\(xs.map (·.1)).Nodup
 | .set S n=>h.SetOf (intKind P w) a S n
 | .ins C dx fs=>H dx=#[b,.own,a]/\fs.length<=1000/\dx≠a/\h.get? a=some (PySem.W.instObj C dx) /\
   ∃ mA,h.Ns1 dx mA/\(∀ f,RelO (fs.lookup f) (mA f))/\PySem.Within mA (fs.map (·.1))
 | .own _=>∃ o,h.get? a=#[d]
 | .xd fs=>∃ mA,h.Ns1 a mA/\∀ f,RelO (fs.lookup f) (mA f)
 | .rng lo hi=>∃ t u v,h.get? a=some { cls:=.type "range",data:=.fields #[.int lo t,.int hi u,.int 1 v] }
 | .frz o u=>h.get? a=#[d]/\Xi H h a u
 | .tbl ps=>h.get? a=some { cls:=.none,data:=.fields ps }
 | .met f x=>h.get? a=some (PySem.W.methodObj (.ref f) (.ref x))
 | .ext φ=>φ h/\(∃ o,h.get? a=#[d])/\∀ h1 h2:Heap,φ h1->(∀ o,h1.get? a=#[d]->h2.get? a=#[d])->φ h2
def HOk(H:Hp)(h:Heap):Prop:=∀ a o,H a=#[d]->Xi P w H h a o
end
section
variable{P:Program}{w:World}{H H':Hp}{h h':Heap}{a:Addr}{o:HO}
theorem Xi.lt(x:Xi P w H h a o):a<h.objs.size:=by
 cases o with
 | lst xs=>obtain⟨_,_,_,_,e⟩:=x;exact Heap.lt_size e
 | tup xs=>obtain⟨_,_,_,p⟩:=x;exact p.lt
 | dK kvs=>obtain⟨_,_,_,_,o,_,_,e,_⟩:=x;exact Heap.lt_size e
 | dT kvs=>obtain⟨_,_,_,_,o,_,_,e,_⟩:=x;exact Heap.lt_size e
 | set S n=>obtain⟨o,_,_,_,e,_⟩:=x;exact Heap.lt_size e
 | ins C dx fs=>obtain⟨_,_,_,e,_⟩:=x;exact Heap.lt_size e
 | own y=>obtain⟨_,e⟩:=x;exact Heap.lt_size e
 | xd fs=>obtain⟨_,⟨_,_,_,e,_⟩,_⟩:=x;exact Heap.lt_size e
 | rng lo hi=>obtain⟨_,_,_,e⟩:=x;exact Heap.lt_size e
 | frz ob u=>obtain⟨e,_⟩:=x;exact Heap.lt_size e
 | tbl ps=>exact Heap.lt_size (show h.get? a=some _ from x)
 | met f y=>exact Heap.lt_size (show h.get? a=some _ from x)
 | ext φ=>obtain⟨_,⟨_,e⟩,_⟩:=x;exact Heap.lt_size e
theorem Paired.mapP:∀ {l₁:List α} {l₂:List β},Paired F l₁ l₂->(∀ a b,F a b->G a b)->Paired G l₁ l₂
 | _,_,.nil,_=>.nil
 | _,_,.cons r t,f=>.cons (f _ _ r) (Paired.mapP t f)
theorem Xi.stay(x:Xi P w H h a o)(k:∀ b u,(b=a\/H b=#[b,.own,a])->h.get? b=some u->h'.get? b=some u)
  (ho:∀ b,H b=#[b,.own,a]->H' b=#[b,.own,a]) (ht:∀ b xs,H b=#[J,xs]->H' b=#[J,xs]):Xi P w H' h' a o:=by
 induction o with
 | lst xs=>obtain⟨z,its,n,r,e⟩:=x;exact⟨z,its,n,r,k _ _ (.inl rfl) e⟩
 | tup xs=>obtain⟨z,its,r,ob,e,c⟩:=x;exact⟨z,its,r,ob,k _ _ (.inl rfl) e,c⟩
 | dK kvs=>obtain⟨z,y,vs,r,ob,es,ep,e,c⟩:=x;exact⟨z,y,vs,r,ob,es,ep,k _ _ (.inl rfl) e,c⟩
 | dT kvs =>
   obtain⟨z,y,xs,r,ob,es,ep,e,c⟩:=x;exact⟨z,y,xs,Paired.mapP r fun p q z=>⟨z.1,ht _ _ z.2.1,z.2.2⟩,ob,es,ep,k _ _ (.inl rfl) e,c⟩
 | set S n=>obtain⟨ob,es,ep,t,e,c⟩:=x;exact⟨ob,es,ep,t,k _ _ (.inl rfl) e,c⟩
 | ins C dx fs =>
   obtain⟨d,z,ne,e,mA,⟨od,es,ep,e2,c⟩,r⟩:=x;exact⟨ho _ d,z,ne,k _ _ (.inl rfl) e,mA,⟨od,es,ep,k _ _ (.inr d) e2,c⟩,r⟩
 | own y=>obtain⟨ob,e⟩:=x;exact⟨ob,k _ _ (.inl rfl) e⟩
 | xd fs=>obtain⟨mA,⟨od,es,ep,e,c⟩,r⟩:=x;exact⟨mA,⟨od,es,ep,k _ _ (.inl rfl) e,c⟩,r⟩
 | rng lo hi=>obtain⟨t,u,v,e⟩:=x;exact⟨t,u,v,k _ _ (.inl rfl) e⟩
 | frz ob u ih=>obtain⟨e,q⟩:=x;exact⟨k _ _ (.inl rfl) e,ih q⟩
 | tbl ps =>
   have e:h.get? a=some { cls:=.none,data:=.fields ps }:=x;show h'.get? a=some { cls:=.none,data:=.fields ps };exact k a _ (.inl rfl) e
 | met f y =>
   have e:h.get? a=some (PySem.W.methodObj (.ref f) (.ref y)):=x;show h'.get? a=some (PySem.W.methodObj (.ref f) (.ref y));exact k a _ (.inl rfl) e
 | ext φ=>obtain⟨p,⟨o,e⟩,st⟩:=x;exact⟨st _ _ p fun o q=>k _ _ (.inl rfl) q,⟨o,k _ _ (.inl rfl) e⟩,st⟩
theorem HOk.lt(x:HOk P w H h)(e:H a=some o):a<h.objs.size:=(x a o e).lt
theorem HOk.fresh(x:HOk P w H h)(e:h.objs.size<=a):H a=none:=by
 cases q:H a with
 | none=>rfl
 | some u=>exact absurd (zxf (x.lt q) e) (zyg _)
theorem HOk.kept(x:HOk P w H h)(k:∀ b u,h.get? b=some u->h'.get? b=some u):HOk P w H h':=fun a o e =>
 (x a o e).stay (fun b u _ q=>k b u q) (fun _ q=>q) fun _ _ q=>q
theorem HOk.laid(x:HOk P w H h)(k:∀ b u,h.get? b=some u->h'.get? b=some u)(hp:h.objs.size<=a)(new:Xi P w (upd H a o) h' a o):HOk P w (upd H a o) h':=fun b u e=>by
 have hn:=x.fresh hp;by_cases hb:b=a
 ·subst hb;rw[Ze] at e;cases e;exact new
 ·rw[Zh hb] at e;exact(x b u e).stay (fun c v _ q=>k c v q) (fun c q=>by rw[Zh (Zg q hn)];exact q) fun c xs q=>by rw[Zh (Zg q hn)];exact q
end
def Rd(H:Hp)(a:Addr)(u:HO):Prop:=H a=some u\/∃ o,H a=some (.frz o u)
theorem Rd.ok(r:Rd H a u)(x:HOk P w H h):Xi P w H h a u:=by
 rcases r with r|⟨o,r⟩
 ·exact x a u r
 ·obtain⟨_,q⟩:=x a _ r;exact q
def Mut:Option HO->Prop
 | some (.lst _)=>True
 | some (.dK _)=>True
 | some (.dT _)=>True
 | some (.set _ _)=>True
 | some (.ins _ _ _)=>True
 | some (.ext _)=>True
 | _=>False
section
variable{P:Program}{w:World}{H:Hp}{h h':Heap}{x e:Addr}{o':HO}
theorem HOk.write(ok:HOk P w H h)(mu:Mut (H x))(he:e=x\/H e=#[b,.own,x])(k:∀ b u,b≠e->h.get? b=some u->h'.get? b=some u)(heo:∃ u,h'.get? e=some u)
  (new:Xi P w (upd H x o') h' x o'):HOk P w (upd H x o') h':=fun b u q=>by
 have nown:∀ c y,H c=#[b,.own,y]->c≠x:=fun c y r z=>by subst z;rw[r] at mu;exact mu
 have ntup:∀ c xs,H c=#[J,xs]->c≠x:=fun c xs r z=>by subst z;rw[r] at mu;exact mu
 by_cases hb:b=x
 ·subst hb;rw[Ze] at q;cases q;exact new
 ·rw[Zh hb] at q;by_cases hbe:b=e
  ·have q':H b=#[b,.own,x]:=by
    rcases he with z|z
    ·exact absurd (hbe.trans z) hb
    ·rw[hbe];exact z
   rw[q] at q';cases q';obtain⟨v,hv⟩:=heo;exact⟨v,by rw[hbe];exact hv⟩
  ·refine(ok b u q).stay (fun c v hc r=>k c v ?_ r) (fun c r=>by rw[Zh (nown c b r)];exact r) fun c xs r=>by rw[Zh (ntup c xs r)];exact r
   rcases hc with rfl|hc
   ·exact hbe
   ·rintro rfl;rcases he with z|z
    ·exact nown c b hc z
    ·rw[hc] at z;cases z;exact hb rfl
end
structure Un(fs ex:#[x])(H H':Hp)(h h':Heap):Prop where
 keep:∀ b o,h.get? b=#[d]->H b=none->b∉fs->b∉ex->h'.get? b=#[d]
 slot:∀ b o,h.get? b=#[d]->H b=none->b∈fs->b∉ex->∃ sl,h'.get? b=some { o with slots:=sl }
 free:∀ b o,h.get? b=#[d]->H b=none->b∉ex->H' b=none
 there:∀ b o,h.get? b=#[d]->b∉ex->∃ o',h'.get? b=some o'
 tups:∀ b xs,H b=#[J,xs]->H' b=#[J,xs]
 frzs:∀ b o u,H b=some (.frz o u)->H' b=some (.frz o u)
 tbls:∀ b ps,H b=#[b,.tbl,ps]->∃ more,H' b=#[b,.tbl,ps++more]
section
variable{fs fs' ex ex':#[x]}{H H1 H2:Hp}{h h1 h2 h':Heap}{a x e:Addr}{o:HO}
theorem Un.any(u:Un fs ex H H1 h h1)(q:h.get? b=some ob)(n:H b=none)(hx:b∉ex):∃ sl,h1.get? b=some { ob with slots:=sl }:=by
 by_cases hb:b∈fs
 ·exact u.slot b ob q n hb hx
 ·exact⟨ob.slots,u.keep b ob q n hb hx⟩
theorem Un.kept(k:∀ b u,h.get? b=some u->h'.get? b=some u):Un fs ex H H h h' :=
 ⟨fun b ob q _ _ _=>k b ob q,fun b ob q _ _ _=>⟨ob.slots,k b ob q⟩,fun _ _ _ n _=>n,fun b ob q _=>⟨ob,k b ob q⟩,fun _ _ q=>q,fun _ _ _ q=>q,fun _ ps q=>⟨#[],by rw[q];simp⟩⟩
theorem Un.refl:Un fs ex H H h h:=Un.kept fun _ _ q=>q
theorem Un.laid(k:∀ b u,h.get? b=some u->h'.get? b=some u)(hp:h.objs.size<=a)(hn:H a=none):Un fs ex H (upd H a o) h h' where
 keep:=fun b u q _ _ _=>k b u q
 slot:=fun b u q _ _ _=>⟨u.slots,k b u q⟩
 free:=fun b u q n _=>by rw[Zh (zxh (zxf (Heap.lt_size q) hp))];exact n
 there:=fun b u q _=>⟨u,k b u q⟩
 tups:=fun b xs q=>by rw[Zh (Zg q hn)];exact q
 frzs:=fun b u xs q=>by rw[Zh (Zg q hn)];exact q
 tbls:=fun b ps q=>⟨#[],by rw[Zh (Zg q hn),q];simp⟩
theorem Un.write(mu:Mut (H x))(he:e=x\/H e=#[b,.own,x])(k:∀ b u,b≠e->h.get? b=some u->h'.get? b=some u)(heo:∃ u,h'.get? e=some u):Un fs ex H (upd H x o) h h':=by
 have hx:∀ b,H b=none->b≠x:=fun b n z=>by subst z;rw[n] at mu;exact mu
 have hb:∀ b,H b=none->b≠e:=fun b n z=>by
  subst z;rcases he with r|r
  ·exact hx b n r
  ·rw[n] at r;cases r
 have hm:∀ b u,H b=some u->¬ Mut (some u)->b≠x:=fun b u q nm z=>by subst z;rw[q] at mu;exact nm mu
 refine⟨fun b u q n _ _=>k b u (hb b n) q,fun b u q n _ _=>⟨u.slots,k b u (hb b n) q⟩,fun b u q n _=>by rw[Zh (hx b n)];exact n,fun b u q _=>?_,
  fun b xs q=>by rw[Zh (hm b _ q fun z=>z)];exact q,fun b u xs q=>by rw[Zh (hm b _ q fun z=>z)];exact q,fun b ps q=>⟨#[],by rw[Zh (hm b _ q fun z=>z),q];simp⟩⟩
 by_cases hbe:b=e
 ·subst hbe;exact heo
 ·exact⟨u,k b u hbe q⟩
end
def trk(h:Heap)(H:Hp):#[x]:=(List.range h.objs.size).filter fun a=>(H a).isSome
def C8(h:Heap)(H:Hp):Heap:=PySem.W.hideAll h (trk h H)
theorem zee(h:Heap)(H:Hp):(C8 h H).objs.size=h.objs.size:=PySem.W.hideAll_size _ _
theorem zf7(e:h.get? b=some o)(n:H b=none):(C8 h H).get? b=some o :=
 PySem.W.hideAll_get _ e fun hm=>by
  have q:(H b).isSome=true:=(zxu.mp hm).2;rw[n] at q;simp at q
theorem zib(e:(C8 h H).get? b=some o):h.get? b=#[d]/\H b=none:=by
 have e':h.get? b=some o:=PySem.W.of_hideAll (trk h H) e;refine⟨e',?_⟩;cases q:H b with
 | none=>rfl
 | some x =>
   have hm:b∈trk h H:=zxu.mpr ⟨zxr.mpr (Heap.lt_size e'),by simp[q]⟩;have z:(C8 h H).get? b=none:=PySem.W.hideAll_none (trk h H) hm;rw[z] at e;cases e
structure Mod(K:Frag)(mg:#[R])(base:Heap):Prop where
 kin:K.In base
 glob:base.Ns mainGlobals mg
 blt:∃ mb,base.Ns builtinsNs mb/\∀ x:Str,x≠"__name__"->mb x=bootBuiltins x
 nolimit:base.NoLimit
structure Cx where
 prog:Program
 w:World
 K:Frag
 mg:#[R]
 base:Heap
 A:Around
 N:List Str
 s₀:Shared
 H₀:Hp
 env:Env
 outer:List Env
 stack:List Env
 ex:#[x]
 fn:Str->Bool
 calm:Bool
 pn:#[C]
 xe:Value->Shared->Prop
 lk:List (Option V):=[]
def frs(l:List Env):#[x]:=l.filterMap (·.frame)
abbrev Cx.fs(X:Cx):#[x]:=frs X.outer
def Vis(sc:Scope)(x:Str):Prop:=sc.names.lookup x=some .local\/sc.names.lookup x=some .cell\/sc.names.lookup x=some .free
def Loc(sc:Scope)(x:Str):Prop:=sc.names.lookup x=some .local\/sc.names.lookup x=some .cell
def Look(env:Env)(h:Heap)(m:#[R])(x:Str)(u:Value):Prop :=
 (env.kindOf x=some .local/\m x=some u)\/((env.kindOf x=some .cell\/env.kindOf x=some .free)/\∃ c,env.cells.lookup x=some c/\h.IsCell c (some u))
structure Cx.Ok(X:Cx):Prop where
 mod:Mod X.K X.mg X.base
 kind:X.env.scope.kind=.function
 glob:X.env.globals=mainGlobals
 blt:X.env.builtins=builtinsNs
 above:X.s₀.heap.objs.size<=X.env.locals
 inj:∀ x y c,#[ah,x]=some c->#[ah,y]=some c->x=y
 has:∀ x,(X.env.kindOf x=some .cell\/X.env.kindOf x=some .free)->∃ c,#[ah,x]=some c
 cab:∀ x c,X.fn x=true->#[ah,x]=some c->X.s₀.heap.objs.size<=c
 hd:X.calm=true->X.A.handled=none
 frames:X.A.frames=some X.stack
 stk:X.stack=X.outer\/(X.stack=X.env :: X.outer/\X.env.frame=some X.env.locals)
 exf:∀ b∈X.ex,b≠X.env.locals/\∀ x c,#[ah,x]=some c->c≠b
 bs:∀ b o,X.base.get? b=#[d]->X.s₀.heap.get? b=#[d]/\X.H₀ b=none
 bsz:X.base.objs.size<=X.s₀.heap.objs.size
 noex:∀ b o,X.base.get? b=#[d]->b∉X.ex
 exfs:∀ b∈X.ex,b∉X.fs
 funs:X.s₀.heap.FunFrames X.base X.outer
 frf:∀ b∈X.fs,X.H₀ b=none
structure Inv(X:Cx)(pins:#[C])(σ:List (Option V))(H:Hp)(s:Shared):Prop where
 ok:X.Ok
 os:s.os=X.s₀.os
 bare:AllBare s.gens
 base:Un X.fs X.ex X.H₀ H X.s₀.heap s.heap
 loc:∃ m,s.heap.Ns X.env.locals m/\∀ (i:Nat) (x:Str) (v:V),X.N[i]?=some x->(σ[i]?=#[b,some,v]\/X.lk[i]?=#[b,some,v])->Vis X.env.scope x->∃ u,RelV v u/\Look X.env s.heap m x u
 cell:∀ x c,#[ah,x]=some c->∃ v,s.heap.IsCell c v
 free:H X.env.locals=none
 freeC:∀ x c,#[ah,x]=some c->H c=none
 pin:∀ p∈X.pn++pins,s.heap.get? p.1=some p.2/\H p.1=none/\p.1≠X.env.locals/\p.1∉X.fs/\∀ v,p.2.data≠.cell v
 hok:HOk X.prog X.w H s.heap
 len:σ.length=X.N.length
section
variable{X:Cx}{pins:#[C]}{σ:List (Option V)}{H H':Hp}{s:Shared}{h':Heap}
theorem Cx.Ok.nofr(ok:X.Ok)(e:X.base.get? b=some o):b∉X.fs:=fun hb=>by
 have:=(ok.funs.mem hb).1;rw[e] at this;cases this
theorem Inv.bs(I:#[l]):∀ b o,X.base.get? b=#[d]->#[ab]=#[d]/\H b=none:=fun b o e =>
 ⟨I.base.keep b o (I.ok.bs b o e).1 (I.ok.bs b o e).2 (I.ok.nofr e) (I.ok.noex b o e),I.base.free b o (I.ok.bs b o e).1 (I.ok.bs b o e).2 (I.ok.noex b o e)⟩
theorem Inv.bk(I:#[l]):∀ b o,X.base.get? b=#[d]->#[ab]=#[d]:=fun b o e=>(I.bs b o e).1
theorem Inv.mod(I:#[l]):Mod X.K X.mg X.base:=I.ok.mod
theorem Inv.kIn(I:#[l]):X.K.In s.heap:=I.ok.mod.kin.keeps I.bk
theorem Inv.lt(I:#[l]):X.env.locals<s.heap.objs.size:=let ⟨_,hn,_⟩:=I.loc;hn.lt
theorem Inv.sz(I:#[l]):X.s₀.heap.objs.size<=s.heap.objs.size:=zw4 I.ok.above (zy6 I.lt)
theorem Inv.nofs(I:#[l])(h:s.heap.objs.size<=a):a∉X.fs:=fun hb=>by
 obtain⟨_,o,ho,_⟩:=I.ok.funs.mem hb;exact absurd (zxf (Heap.lt_size ho) (zw4 I.sz h)) (zyg _)
theorem Inv.cne(I:#[l]):∀ x c,#[ah,x]=some c->c≠X.env.locals:=fun x c e z=>by
 obtain⟨v,o,ho,hd⟩:=I.cell x c e;obtain⟨m,⟨o',es,ep,ho',hd',_⟩,_⟩:=I.loc;rw[z,ho'] at ho;cases ho;rw[hd'] at hd;cases hd
theorem Inv.funs(I:#[l]):s.heap.FunFrames X.base X.outer:=by
 have all:∀ (l:List Env),(∀ b∈frs l,b∈X.fs)->X.s₀.heap.FunFrames X.base l->s.heap.FunFrames X.base l:=by
  intro l
  induction l with
  | nil=>intro _ _;trivial
  | cons env r ih =>
    intro hs hl;obtain⟨hk,⟨L,o,hf,hn,ho,hd⟩,hr⟩:=hl;have hL:L∈X.fs:=hs L (by unfold frs;rw[zyq,hf];exact zxk);obtain⟨sl,e⟩:=I.base.slot L o ho (I.ok.frf L hL) hL fun z=>I.ok.exfs L z hL;exact⟨hk,⟨L,_,hf,hn,e,hd⟩,ih (fun b hb=>hs b (by unfold frs;rw[zyq,hf];exact zxc _ hb)) hr⟩
 exact all X.outer (fun _ hb=>hb) I.ok.funs
theorem Inv.stack(I:#[l]):s.heap.FunFrames X.base X.stack:=by
 rcases I.ok.stk with e|⟨e,hf⟩
 ·rw[e];exact I.funs
 ·rw[e];obtain⟨m,hn,_⟩:=I.loc;refine .cons (by rw[I.ok.kind];decide) hf hn ?_ I.funs;exact Heap.get?_none_of_le (zw4 I.ok.bsz I.ok.above)
theorem Inv.stkSub(I:#[l]):∀ b∈frs X.stack,b∈X.env.locals :: X.fs:=fun b hb=>by
 rcases I.ok.stk with e|⟨e,hf⟩
 ·rw[e] at hb;exact zxc _ hb
 ·rw[e] at hb;unfold frs at hb;rw[zyq,hf] at hb;exact hb
theorem Inv.stkFree(I:#[l]):∀ b∈frs X.stack,H b=none:=fun b hb=>by
 rcases zwy.mp (I.stkSub b hb) with e|hb
 ·rw[e];exact I.free
 ·obtain⟨_,o,ho,_⟩:=I.ok.funs.mem hb;exact I.base.free b o ho (I.ok.frf b hb) fun z=>I.ok.exfs b z hb
theorem Inv.step{g':Array GenState}{t':Nat}{d':Drawn}{ch:#[x]}(I:#[l])
  (hch:#[aG])
  (keep:∀ b o,b≠X.env.locals->b∉X.fs->b∉ch->#[ab]=#[d]->H b=none->h'.get? b=#[d])
  (slot:∀ b o,b≠X.env.locals->b∈X.fs->b∉ch->#[ab]=#[d]->H b=none->∃ sl,h'.get? b=some { o with slots:=sl }) (free:∀ b o,b∉ch->#[ab]=#[d]->H b=none->H' b=none)
  (there:∀ b o,b∉ch->#[ab]=#[d]->∃ o',h'.get? b=some o')
  (tups:∀ b xs,H b=#[J,xs]->H' b=#[J,xs]) (frzs:∀ b o u,H b=some (.frz o u)->H' b=some (.frz o u)) (tbls:∀ b ps,H b=#[b,.tbl,ps]->∃ more,H' b=#[b,.tbl,ps++more])
  (ns:∀ m,s.heap.Ns X.env.locals m->h'.Ns X.env.locals m) (hok:HOk X.prog X.w H' h') (hg:AllBare g') :
  Inv X pins σ H' { s with heap:=h',gens:=g',drawn:=d',toks:=t' }:=by
 have neL:∀ b o,X.s₀.heap.get? b=#[d]->b≠X.env.locals:=fun b o e=>zxh (zxf (Heap.lt_size e) I.ok.above);have neC:∀ b o,X.s₀.heap.get? b=#[d]->b∉X.ex->b∉ch:=fun b o e hx hb=>by
  rcases(hch b hb).1 with z|z
  ·exact hx z
  ·exact absurd (zxf (Heap.lt_size e) z) (zyg _)
 have cellK:∀ x c,#[ah,x]=some c->∀ v,s.heap.IsCell c v->h'.IsCell c v:=fun x c e v ⟨o,ho,hd⟩=>by
  have nch:c∉ch:=fun z=>(hch c z).2.2.1 x c e rfl;by_cases hc:c∈X.fs
  ·obtain⟨sl,q⟩:=slot c o (I.cne x c e) hc nch ho (I.freeC x c e);exact⟨_,q,hd⟩
  ·exact⟨o,keep c o (I.cne x c e) hc nch ho (I.freeC x c e),hd⟩
 refine⟨I.ok,I.os,hg,⟨fun b o e n hb hx=>?_,fun b o e n hb hx=>?_,fun b o e n hx=>?_,fun b o e hx=>?_,fun b xs e=>tups b xs (I.base.tups b xs e),fun b o xs e=>frzs b o xs (I.base.frzs b o xs e),fun b ps e=>?_⟩,?_,fun x c e=>?_,?_,fun x c e=>?_,fun p hp=>?_,hok,I.len⟩
 ·exact keep b o (neL b o e) hb (neC b o e hx) (I.base.keep b o e n hb hx) (I.base.free b o e n hx)
 ·obtain⟨sl,e1⟩:=I.base.slot b o e n hb hx;obtain⟨sl',e2⟩:=slot b _ (neL b o e) hb (neC b o e hx) e1 (I.base.free b o e n hx);exact⟨sl',e2⟩
 ·obtain⟨o',e1⟩:=I.base.there b o e hx;exact free b o' (neC b o e hx) e1 (I.base.free b o e n hx)
 ·obtain⟨o',e1⟩:=I.base.there b o e hx;exact there b o' (neC b o e hx) e1
 ·obtain⟨m1,e1⟩:=I.base.tbls b ps e;obtain⟨m2,e2⟩:=tbls b _ e1;exact⟨m1++m2,by rw[e2,Array.append_assoc]⟩
 ·obtain⟨m,hn,hl⟩:=I.loc;refine⟨m,ns m hn,fun i x v e1 e2 e3=>?_⟩;obtain⟨u,r,l⟩:=hl i x v e1 e2 e3;refine⟨u,r,?_⟩;rcases l with l|⟨k,c,e,z⟩
  ·exact .inl l
  ·exact .inr ⟨k,c,e,cellK x c e _ z⟩
 ·obtain⟨v,z⟩:=I.cell x c e;exact⟨v,cellK x c e v z⟩
 ·obtain⟨m,⟨o,_,_,ho,_⟩,_⟩:=I.loc;exact free _ o (fun z=>(hch _ z).2.1 rfl) ho I.free
 ·obtain⟨v,o,ho,hd⟩:=I.cell x c e;exact free c o (fun z=>(hch c z).2.2.1 x c e rfl) ho (I.freeC x c e)
 ·obtain⟨e,n,ne,nf,d⟩:=I.pin p hp;have nch:p.1∉ch:=fun z=>(hch p.1 z).2.2.2 p hp rfl;exact⟨keep p.1 p.2 ne nf nch e n,free p.1 p.2 nch e n,ne,nf,d⟩
theorem Inv.un{t':Nat}(I:#[l])(u:Un X.fs [] H H' s.heap h')(hok:HOk X.prog X.w H' h'):#[H,H',{ s with heap:=h',toks:=t' }]:=by
 obtain⟨m,⟨o,es,ep,ho,r⟩,_⟩:=id I.loc;obtain⟨sl,hL⟩:=u.any ho I.free (by simp);exact I.step (g':=s.gens) (d':=s.drawn) (ch:=[]) (fun _ z=>nomatch z) (fun b o _ hb _ e n=>u.keep b o e n hb (by simp)) (fun b o _ hb _ e n=>u.slot b o e n hb (by simp)) (fun b o _ e n=>u.free b o e n (by simp)) (fun b o _ e=>u.there b o e (by simp)) u.tups u.frzs u.tbls (fun m' hm=>by
  obtain⟨o',es',ep',ho',r'⟩:=hm;rw[ho] at ho';cases ho';exact⟨_,es',ep',hL,r'⟩) hok I.bare
theorem Inv.call{g':Array GenState}{t':Nat}{d':Drawn}{ch:#[x]}(I:#[l])(u:Un (frs X.stack) ch H H' s.heap h')(hok:HOk X.prog X.w H' h')(hg:AllBare g')
  (hch:#[aG]) :
  Inv X pins σ H' { s with heap:=h',gens:=g',drawn:=d',toks:=t' }:=by
 obtain⟨m,⟨o,es,ep,ho,r⟩,_⟩:=id I.loc;obtain⟨sl,hL⟩:=u.any ho I.free fun z=>(hch _ z).2.1 rfl;exact I.step (ch:=ch) hch (fun b o hL hb hc e n=>u.keep b o e n (fun z=>(zwy.mp (I.stkSub b z)).elim hL hb) hc) (fun b o _ _ hc e n=>u.any e n hc) (fun b o hc e n=>u.free b o e n hc) (fun b o hc e=>u.there b o e hc) u.tups u.frzs u.tbls (fun m' hm=>by
  obtain⟨o',es',ep',ho',r'⟩:=hm;rw[ho] at ho';cases ho';exact⟨_,es',ep',hL,r'⟩) hok hg
theorem Inv.turned{t':Nat}{it:Addr}(I:#[l])(k:∀ b o,b≠it->#[ab]=#[d]->h'.get? b=#[d])(hn:H it=none)(hL:it≠X.env.locals)
  (h1:it∈X.ex\/X.s₀.heap.objs.size<=it) (h2:∀ x c,#[ah,x]=some c->c≠it) (h3:∀ p∈X.pn++pins,p.1≠it):#[H,H,{ s with heap:=h',toks:=t' }]:=by
 have nit:∀ b u,H b=some u->b≠it:=fun b u e z=>by rw[z,hn] at e;cases e
 refine I.step (g':=s.gens) (d':=s.drawn) (ch:=[it]) (fun b hb=>?_) (fun b o _ _ hc e _=>k b o (fun z=>hc (by simp[z])) e) (fun b o _ _ hc e _=>⟨o.slots,k b o (fun z=>hc (by simp[z])) e⟩) (fun _ _ _ _ n=>n)
  (fun b o hc e=>⟨o,k b o (fun z=>hc (by simp[z])) e⟩) (fun _ _ e=>e) (fun _ _ _ e=>e) (fun b ps e=>⟨#[],by rw[e];simp⟩) (fun m hm=>?_) (fun b u e=>?_) I.bare
 ·have e:b=it:=by simpa using hb
  subst e;exact⟨h1,hL,h2,h3⟩
 ·obtain⟨o,es,ep,ho,r⟩:=hm;exact⟨o,es,ep,k _ o (Ne.symm hL) ho,r⟩
 ·refine(I.hok b u e).stay (fun c v hc q=>k c v ?_ q) (fun _ q=>q) fun _ _ q=>q;rcases hc with z|z
  ·rw[z];exact nit b u e
  ·exact nit c _ z
theorem Inv.tok(I:#[l])(t:Nat):#[H,H,{ s with toks:=t }]:=I.un (h':=s.heap) (t':=t) Un.refl I.hok
theorem Inv.kept(I:#[l])(k:∀ b u,#[ab]=some u->h'.get? b=some u):#[H,H,{ s with heap:=h',toks:=t' }]:=I.un (Un.kept k) (I.hok.kept k)
theorem Inv.laid(I:#[l])(k:∀ b u,#[ab]=some u->h'.get? b=some u)(hp:s.heap.objs.size<=a)(new:Xi X.prog X.w (upd H a o) h' a o) :
  Inv X pins σ (upd H a o) { s with heap:=h',toks:=t' }:=I.un (Un.laid k hp (I.hok.fresh hp)) (I.hok.laid k hp new)
theorem Inv.write(I:#[l])(mu:Mut (H x))(he:e=x\/H e=#[b,.own,x])(k:∀ b u,b≠e->#[ab]=some u->h'.get? b=some u)(heo:∃ u,h'.get? e=some u)
  (new:Xi X.prog X.w (upd H x o) h' x o):#[H,upd H x o,{ s with heap:=h',toks:=t' }]:=I.un (Un.write mu he k heo) (I.hok.write mu he k heo new)
theorem Inv.weak(I:#[l])(hl:σ'.length=σ.length)(w:∀ (i:Nat) v,σ'[i]?=#[b,some,v]->σ[i]?=#[b,some,v]):Inv X pins σ' H s :=
 ⟨I.ok,I.os,I.bare,I.base,let ⟨m,hn,hl'⟩:=I.loc;⟨m,hn,fun i x v e1 e2 e3=>hl' i x v e1 (e2.imp_left (w i v)) e3⟩,I.cell,I.free,I.freeC,I.pin,I.hok,hl.trans I.len⟩
theorem Inv.pins_of(I:#[l])(h:∀ p∈pins',s.heap.get? p.1=some p.2/\H p.1=none/\p.1≠X.env.locals/\p.1∉X.fs/\∀ v,p.2.data≠.cell v):Inv X pins' σ H s :=
 ⟨I.ok,I.os,I.bare,I.base,I.loc,I.cell,I.free,I.freeC,fun p hp=>(zw0.mp hp).elim (fun z=>I.pin p (zxa _ z)) (h p),I.hok,I.len⟩
theorem Aq{N:List Str}(hN:N.Nodup){i j:Nat}{x:Str}(a:N[i]?=some x)(b:N[j]?=some x):i=j:=by
 obtain⟨h1,e1⟩:=zwq.mp a;obtain⟨h2,e2⟩:=zwq.mp b;exact(List.getElem_inj hN).mp (e1.trans e2.symm)
def zby(X:Cx)(i:Nat)(x:Str):Prop:=(X.fn x=true\/X.env.scope.names.lookup x=some .local)/\∀ v,X.lk[i]?≠#[b,some,v]
theorem W6{i:Nat}:∀ v:V,([]:List (Option V))[i]?≠some (some v):=fun _ h=>by simp at h
theorem D2{M:Model}{A:Around}{E:Value->Shared->Prop}{i:Nat}{x:Str}{v:V}{u:Value}{Q:Unit->Shared->Prop}(I:#[l])(hN:X.N.Nodup)(hi:X.N[i]?=some x)(hx:Loc X.env.scope x)(r:RelV v u)
  (h:∀ s',Inv X pins (σ.set i (some v)) H s'->(∃ a,Heap.SameBut a s.heap s'.heap/\(a=X.env.locals\/X.env.cells.lookup x=some a))->Q () s') (hf:zby X i x:=by first|exact⟨.inl rfl,W6⟩|exact⟨.inr rfl,W6⟩|assumption|exact⟨.inl rfl,by assumption⟩|exact⟨.inr rfl,by assumption⟩):wpAny M A (storeName X.env x u) Q E s:=by
 obtain⟨m,hn,hl⟩:=id I.loc;have hcls:(X.env.scope.kind == .class||(X.env.scope.kind == .module&&X.env.locals != X.env.globals))=false:=by rw[I.ok.kind];rfl
 have hiσ:i<σ.length:=by rw[I.len];exact(zwq.mp hi).1
 have cne:=I.cne;have tracked:∀ {a:Addr} {h':Heap},(∃ o,s.heap.get? a=some o/\H a=none)->Heap.SameBut a s.heap h'->HOk X.prog X.w H h':=fun {a h'} ha hs b ob e=>by
  obtain⟨_,_,hfree⟩:=ha;refine(I.hok b ob e).stay (fun c w' hc q=>(hs.2 c ?_).trans q) (fun _ q=>q) fun _ _ q=>q;rintro rfl;rcases hc with rfl|hc
  ·rw[hfree] at e;cases e
  ·rw[hfree] at hc;cases hc
 rcases hx with hk|hk
 ·refine wpAny_storeName_local hk hn (fun h' hn' hs=>?_) hcls;obtain⟨oL,_,_,hoL,_⟩:=id hn;refine h _ ⟨I.ok,I.os,I.bare,⟨fun b o e n hb hx=>?_,fun b o e n hb hx=>?_,I.base.free,fun b o e hx=>?_,I.base.tups,I.base.frzs,I.base.tbls⟩,⟨_,hn',fun j y v' e1 e2 e3=>?_⟩,fun y c e=>?_,I.free,I.freeC,fun p hp=>?_,tracked ⟨oL,hoL,I.free⟩ hs,by simpa using I.len⟩ ⟨_,hs,.inl rfl⟩
  ·exact(hs.2 b (zxh (zxf (Heap.lt_size e) I.ok.above))).trans (I.base.keep b o e n hb hx)
  ·obtain⟨sl,e1⟩:=I.base.slot b o e n hb hx;exact⟨sl,(hs.2 b (zxh (zxf (Heap.lt_size e) I.ok.above))).trans e1⟩
  ·obtain⟨o',e1⟩:=I.base.there b o e hx;exact⟨o',(hs.2 b (zxh (zxf (Heap.lt_size e) I.ok.above))).trans e1⟩
  ·by_cases hj:j=i
   ·subst hj;rw[hi] at e1;cases e1;rcases e2 with e2|e2
    case' inr=>exact absurd e2 (hf.2 _)
    rw[zx0 hiσ] at e2;cases e2;exact⟨u,r,#[M,hk,by simp]⟩
   ·have e2:σ[j]?=#[b,some,v']\/X.lk[j]?=#[b,some,v']:=e2.imp_left fun z=>by rw[zxy (Ne.symm hj)] at z;exact z
    obtain⟨u',r',q⟩:=hl j y v' e1 e2 e3;refine⟨u',r',?_⟩;rcases q with ⟨k,e⟩|⟨k,c,e,z⟩
    ·refine #[M,k,?_];have:y≠x:=fun e=>hj (Aq hN e1 (e▸hi));simp[this,e]
    ·exact .inr ⟨k,c,e,z.sameBut hs (cne y c e)⟩
  ·obtain⟨w',z⟩:=I.cell y c e;exact⟨w',z.sameBut hs (cne y c e)⟩
  ·obtain⟨e,n,ne,nf,d⟩:=I.pin p hp;exact⟨(hs.2 p.1 ne).trans e,n,ne,nf,d⟩
 ·have hfn:X.fn x=true:=by
   rcases hf.1 with z|z
   ·exact z
   ·rw[z] at hk;cases hk
  obtain⟨c,hc⟩:=I.ok.has x (.inl hk);obtain⟨w',z⟩:=I.cell x c hc;refine wpAny_storeName_cell I.ok.kind hk hc z fun h' hc' hs=>?_;obtain⟨oc,hoc,hocd⟩:=id z;refine h { s with heap:=h' } ⟨I.ok,I.os,I.bare,⟨fun b o e n hb hx=>?_,fun b o e n hb hx=>?_,I.base.free,fun b o e hx=>?_,I.base.tups,I.base.frzs,I.base.tbls⟩,⟨m,hn.sameBut hs (Ne.symm (cne x c hc)),fun j y v' e1 e2 e3=>?_⟩,fun y c' e=>?_,I.free,I.freeC,fun p hp=>?_,tracked ⟨oc,hoc,I.freeC x c hc⟩ hs,by simpa using I.len⟩ ⟨c,hs,.inr hc⟩
  ·exact(hs.2 b (zxh (zxf (Heap.lt_size e) (I.ok.cab x c hfn hc)))).trans (I.base.keep b o e n hb hx)
  ·obtain⟨sl,e1⟩:=I.base.slot b o e n hb hx;exact⟨sl,(hs.2 b (zxh (zxf (Heap.lt_size e) (I.ok.cab x c hfn hc)))).trans e1⟩
  ·obtain⟨o',e1⟩:=I.base.there b o e hx;exact⟨o',(hs.2 b (zxh (zxf (Heap.lt_size e) (I.ok.cab x c hfn hc)))).trans e1⟩
  ·by_cases hj:j=i
   ·subst hj;rw[hi] at e1;cases e1;rcases e2 with e2|e2
    case' inr=>exact absurd e2 (hf.2 _)
    rw[zx0 hiσ] at e2;cases e2;exact⟨u,r,.inr ⟨.inl hk,c,hc,hc'⟩⟩
   ·have e2:σ[j]?=#[b,some,v']\/X.lk[j]?=#[b,some,v']:=e2.imp_left fun z=>by rw[zxy (Ne.symm hj)] at z;exact z
    obtain⟨u',r',q⟩:=hl j y v' e1 e2 e3;refine⟨u',r',?_⟩;rcases q with q|⟨k,c',e,z'⟩
    ·exact .inl q
    ·refine .inr ⟨k,c',e,z'.sameBut hs ?_⟩;rintro rfl;exact hj (Aq hN e1 (I.ok.inj _ _ _ e hc▸hi))
  ·by_cases hcc:c'=c
   ·subst hcc;exact⟨_,hc'⟩
   ·obtain⟨w2,z2⟩:=I.cell y c' e;exact⟨w2,z2.sameBut hs hcc⟩
  ·obtain⟨e,n,ne,nf,d⟩:=I.pin p hp;refine⟨(hs.2 p.1 ?_).trans e,n,ne,nf,d⟩;intro q;rw[q,hoc] at e;have q':oc=p.2:=Option.some.inj e;exact d w' (by rw[<- q'];exact hocd)
theorem Ar(I:#[l])(hN:X.N.Nodup)(hi:X.N[i]?=some x)(hx:Loc X.env.scope x)(r:RelV v u)
  (h:∀ s',Inv X pins (σ.set i (some v)) H s'->Q () s') (hf:zby X i x:=by first|exact⟨.inl rfl,W6⟩|exact⟨.inr rfl,W6⟩|assumption|exact⟨.inl rfl,by assumption⟩|exact⟨.inr rfl,by assumption⟩):wpAny M A (storeName X.env x u) Q E s :=
 D2 I hN hi hx r (fun s' I' _=>h s' I') hf
theorem Inv.call'(I:#[l])(ho:s'.os=s.os)(u:Un (frs X.stack) ch H H' s.heap s'.heap)(hok:HOk X.prog X.w H' s'.heap)(hg:AllBare s'.gens)
  (hch:#[aG]):#[H,H',s']:=by
 obtain⟨h',g',d',t',o'⟩:=s';have e:o'=s.os:=ho;subst e;exact I.call (g':=g') (t':=t') (d':=d') u hok hg hch
end
abbrev XK:=Value->Option Addr->Hp->Prop
abbrev St:=List (Option V)
abbrev VK:=V->Hp->Prop
abbrev TE:=St->Hp->VK->Prop
abbrev TT:=St->Hp->(Bool->Hp->Prop)->Prop
abbrev TA:=St->Hp->(#[a]->Hp->Prop)->Prop
structure Pp where
 nx:St->Hp->Prop
 rt:VK
 bk:St->Hp->Prop:=fun _ _=>False
 ct:St->Hp->Prop:=fun _ _=>False
abbrev TS:=Pp->St->Hp->Prop
def EP(X:Cx)(pins:#[C])(σ:St)(Q:VK)(u:Value)(s':Shared):Prop:=∃ v H',#[H,H',s']/\RelV v u/\Q v H'
def TP(X:Cx)(pins:#[C])(σ:St)(Q:Bool->Hp->Prop)(b:Bool)(s':Shared):Prop:=∃ H',#[H,H',s']/\Q b H'
def AP(X:Cx)(pins:#[C])(σ:St)(Q:#[a]->Hp->Prop)(us:#[Q])(s':Shared):Prop:=∃ vs H',#[H,H',s']/\Vals vs us/\Q vs H'
def SP(X:Cx)(pins:#[C])(D:Pp)(f:Flow)(s':Shared):Prop :=
 match f with
 | .next=>∃ σ' H',Inv X pins σ' H' s'/\D.nx σ' H'
 | .brk=>∃ σ' H',Inv X pins σ' H' s'/\D.bk σ' H'
 | .cont=>∃ σ' H',Inv X pins σ' H' s'/\D.ct σ' H'
 | .ret u=>∃ v σ' H',Inv X pins σ' H' s'/\RelV v u/\D.rt v H'
def PE(X:Cx)(e:Expr)(t:TE):Prop :=
 ∀ (pins:#[C]) (s:Shared) (σ:St) (H:Hp) (Q:VK),#[H,H,s]->t σ H Q->#[X,X.prog,X.w,X.A,#[G,e],EP X pins σ Q,X.xe,s]
def PT(X:Cx)(e:Expr)(t:TT):Prop :=
 ∀ (pins:#[C]) (s:Shared) (σ:St) (H:Hp) (Q:Bool->Hp->Prop),#[H,H,s]->t σ H Q->#[X,X.prog,X.w,X.A,isTrue e X.env #[G,e],TP X pins σ Q,X.xe,s]
def PW(X:Cx)(e:Expr)(t:TT):Prop :=
 ∀ (whole:Sem Value) (pins:#[C]) (s:Shared) (σ:St) (H:Hp) (Q:Bool->Hp->Prop),#[H,H,s]->t σ H Q->#[X,X.prog,X.w,X.A,isTrue e X.env whole,TP X pins σ Q,X.xe,s]
theorem PW.pt(h:PW X e t):PT X e t:=h _
def PA(X:Cx)(es:List Expr)(t:TA):Prop :=
 ∀ (pos:Pos) (pins:#[C]) (s:Shared) (σ:St) (H:Hp) (Q:#[a]->Hp->Prop),#[H,H,s]->t σ H Q->#[X,X.prog,X.w,X.A,spliced (backTo pos (starEach es X.env)),AP X pins σ Q,X.xe,s]
def PS(X:Cx)(st:Stmt)(t:TS):Prop :=
 ∀ (pins:#[C]) (s:Shared) (σ:St) (H:Hp) (D:Pp),#[H,H,s]->t D σ H->#[X,X.prog,X.w,X.A,exec st X.env,SP X pins D,X.xe,s]
def PSs(X:Cx)(st:List Stmt)(t:TS):Prop :=
 ∀ (pins:#[C]) (s:Shared) (σ:St) (H:Hp) (D:Pp),#[H,H,s]->t D σ H->#[X,X.prog,X.w,X.A,execs st X.env,SP X pins D,X.xe,s]
theorem thn(h:wpAny M A t Q E s)(hQ:∀ a s,Q a s->Q' a s):wpAny M A t Q' E s:=wpAny_mono h hQ fun _ _ x=>x
section
variable{X:Cx}
inductive tVar(i:Nat)(σ:L2.St)(H:Hp)(Q:VK):Prop where
 | mk(v)(_:σ[i]?=#[b,some,v])(_:Q v H)
def tC(v:V):TE:=fun _ H Q=>Q v H
theorem zj5(hN:X.N[i]?=some x)(hv:Vis X.env.scope x)(hd:(x == ("__debug__":Str))=false:=by decide)(hcd:(x == ("__classdict__":Str))=false:=by decide):PE X (.Name x pos) (tVar i):=by
 intro pins s σ H Q I h;obtain⟨v,e,h⟩:=h;obtain⟨m,hn,hl⟩:=I.loc;obtain⟨u,r,l⟩:=hl i x v hN (.inl e) hv;have fin:EP X pins σ Q u s:=⟨v,H,I,r,h⟩;rcases l with ⟨hk,hm⟩|⟨hk,c,hc,hcell⟩
 ·exact wpAny_Name (wpAny_loadName_local I.ok.kind hk hn hm fin) hd
 ·rcases hk with hk|hk
  ·exact wpAny_Name (wpAny_loadName_cell I.ok.kind hk hc hcell fin) hd
  ·exact wpAny_Name (wpAny_loadName_free I.ok.kind hk hc hcell fin hcd) hd
theorem Zf{i j pos}:PE X (.Constant (.int i) j pos) (tC (.int i)):=fun _ _ _ H _ I h=>wpAny_Constant_int ⟨.int i,H,I.tok _,#[w,_],h⟩
theorem Yr{b j pos}:PE X (.Constant (.bool b) j pos) (tC (.bl b)):=fun _ _ _ H _ I h=>Constant_bool ⟨.bl b,H,I,rfl,h⟩
theorem Yn{j pos}:PE X (.Constant .none j pos) (tC .non):=fun _ _ _ H _ I h=>Constant_none ⟨.non,H,I,rfl,h⟩
theorem Zr{x j pos}:PE X (.Constant (.str x) j pos) (tC (.str x)):=fun _ _ _ H _ I h=>Calls.Constant_str ⟨.str x,H,I.tok _,#[w,_],h⟩
def Gl(X:Cx)(x:Str):Prop:=X.env.kindOf x=some .globalImplicit
theorem My(I:#[l])(hg:Gl X x)(hm:X.mg x=some u)(h:Q u s)
  (hd:(x == ("__debug__":Str))=false:=by decide):#[am,#[G,.Name x pos],Q,E,s] :=
 Calls.Name_function_global I.ok.kind hg (Calls.loadGlobal_global (by rw[I.ok.glob];exact I.mod.glob.keeps I.bk) hm h) hd
theorem Px(I:#[l])(hg:Gl X x)(hm:X.mg x=none)(hv:bootBuiltins x=some u)(h:Q u s)
  (hn:x≠"__name__":=by decide) (hd:(x == ("__debug__":Str))=false:=by decide):#[am,#[G,.Name x pos],Q,E,s]:=by
 obtain⟨mb,h1,h2⟩:=I.mod.blt;exact Calls.Name_function_global I.ok.kind hg (Calls.loadGlobal_builtin (by rw[I.ok.glob];exact I.mod.glob.keeps I.bk) hm (by rw[I.ok.blt];exact h1.keeps I.bk) ((h2 x hn).trans hv) h) hd
theorem zic(hg:Gl X x)(hm:X.mg x=some u)(r:RelV v u)(hd:(x == ("__debug__":Str))=false:=by decide):PE X (.Name x pos) (tC v) :=
 fun _ _ _ H _ I h=>My I hg hm ⟨v,H,I,r,h⟩ hd
theorem W3(hg:Gl X x)(hm:X.mg x=none)(hv:bootBuiltins x=some u)(r:RelV v u)(hn:x≠"__name__":=by decide)(hd:(x == ("__debug__":Str))=false:=by decide):PE X (.Name x pos) (tC v) :=
 fun _ _ _ H _ I h=>Px I hg hm hv ⟨v,H,I,r,h⟩ hn hd
variable{a b:Expr}{ta tb:TE}{pos:Pos}
def PC(X:Cx)(op:CmpOp)(a b:Expr)(t:TE):Prop :=
 ∀ (pins:#[C]) (s:Shared) (σ:St) (H:Hp) (Q:VK),#[l]->t σ H Q ->
   wpAny (model X.prog X.w) X.A (eval a X.env) (fun v s₁=>#[am,#[G,b],fun u s₂=>#[am,compareOp op v u,EP X pins σ Q,X.xe,s₂],X.xe,s₁]) X.xe s
inductive tBI(Q:Bool->Hp->Prop)(x:V)(H1:Hp):Prop where
 | mk(c)(_:x=.bl c)(_:Q c H1)
def tB(t:TE):TT:=fun σ H Q=>t σ H fun x H1=>tBI Q x H1
theorem Tf(h:PC X op a b t)(h1:behindInMarks op b=false:=by first|exact nobehind _ ⋯ ⋯|rfl):PT X (.Compare a [op] [b] pos) (tB t):=by
 intro pins s σ H Q I hw;refine wpAny_isTrue_Compare1 (thn (h pins s σ H _ I hw) fun v s1 h1=>thn h1 fun u s2 h2=>thn h2 fun c s3 ⟨x,H1,I1,r1,q1⟩=>?_) h1;obtain⟨d,rfl,q⟩:=q1;cases r1;exact wpAny_truthy_bool ⟨H1,I1,q⟩
theorem Yo(h:PE X e t)(he:∀ whole,isTrue e X.env whole=(do let v <- whole;standAt e.pos;holding [v] (truthy v)):=by intro _;rfl):PT X e (tB t):=by
 intro pins s σ H Q I hw;refine isTrue_plain (thn (h pins s σ H _ I hw) fun v s1 ⟨x,H1,I1,r1,q1⟩=>?_) (he _);obtain⟨d,rfl,q⟩:=q1;cases r1;exact wpAny_truthy_bool ⟨H1,I1,q⟩
variable{tA tB':TT}{rest:List Expr}
def zid(t u:TT):TT:=fun σ H Q=>t σ H fun c H1=>if c=true then u σ H1 Q else Q false H1
def tOr(t u:TT):TT:=fun σ H Q=>t σ H fun c H1=>if c=true then Q true H1 else u σ H1 Q
def zie(t:TT):TT:=fun σ H Q=>t σ H fun c H1=>Q (!c) H1
theorem U8(ha:PT X a tA):PW X (.BoolOp .And [a] pos) tA:=by
 intro wh pins s σ H Q I h;refine isTrue_and (thn (ha pins s σ H Q I h) fun c s1 e=>?_);cases c with
 | true=>exact isTrue_and_nil e
 | false=>exact e
theorem Xu(ha:PT X a tA):PW X (.BoolOp .Or [a] pos) tA:=by
 intro wh pins s σ H Q I h;refine isTrue_or (thn (ha pins s σ H Q I h) fun c s1 e=>?_);cases c with
 | false=>exact isTrue_or_nil e
 | true=>exact e
theorem S9(ha:PT X a tA)(hb:PW X (.BoolOp .And (b :: rest) pos) tB'):PW X (.BoolOp .And (a :: b :: rest) pos) (zid tA tB'):=by
 intro wh pins s σ H Q I h;refine isTrue_and (thn (ha pins s σ H _ I h) fun c s1 ⟨H1,I1,q1⟩=>?_);cases c with
 | true=>exact hb wh pins s1 σ H1 Q I1 q1
 | false=>exact⟨H1,I1,q1⟩
theorem X8(ha:PT X a tA)(hb:PW X (.BoolOp .Or (b :: rest) pos) tB'):PW X (.BoolOp .Or (a :: b :: rest) pos) (tOr tA tB'):=by
 intro wh pins s σ H Q I h;refine isTrue_or (thn (ha pins s σ H _ I h) fun c s1 ⟨H1,I1,q1⟩=>?_);cases c with
 | true=>exact⟨H1,I1,q1⟩
 | false=>exact hb wh pins s1 σ H1 Q I1 q1
theorem Yt(ha:PT X a tA):PT X (.UnaryOp .Not a pos) (zie tA):=by
 intro pins s σ H Q I h;exact isTrue_not (ha pins s σ H (fun c H1=>Q (!c) H1) I h)
inductive zj6(tb:TE)(σ:L2.St)(Q:VK)(x:V)(H1:Hp):Prop where
 | mk(c)(_:x=.bl c)(_:if c=true then tb σ H1 Q else Q (.bl false) H1)
def zlo(ta tb:TE):TE:=fun σ H Q=>ta σ H fun x H1=>zj6 tb σ Q x H1
inductive zlp(tb:TE)(σ:L2.St)(Q:VK)(x:V)(H1:Hp):Prop where
 | mk(c)(_:x=.bl c)(_:if c=true then Q (.bl true) H1 else tb σ H1 Q)
def zmz(ta tb:TE):TE:=fun σ H Q=>ta σ H fun x H1=>zlp tb σ Q x H1
inductive zj7(Q:VK)(x:V)(H1:Hp):Prop where
 | mk(c)(_:x=.bl c)(_:Q (.bl (!c)) H1)
def zlq(ta:TE):TE:=fun σ H Q=>ta σ H fun x H1=>zj7 Q x H1
theorem Np{op}(h:PE X a t):PE X (.BoolOp op [a] pos) t:=fun pins s σ H Q I hw=>BoolOp_one (h pins s σ H Q I hw)
theorem Nq(ha:PE X a ta)(hb:PE X (.BoolOp .And (b :: rest) pos) tb):PE X (.BoolOp .And (a :: b :: rest) pos) (zlo ta tb):=by
 intro pins s σ H Q I h;refine BoolOp_and (thn (ha pins s σ H _ I h) fun v s1 ⟨x,H1,I1,r1,q1⟩=>?_);obtain⟨c,rfl,q1⟩:=q1;cases r1;refine wpAny_truthy_bool ?_;cases c with
 | true=>exact hb pins s1 σ H1 Q I1 q1
 | false=>exact⟨.bl false,H1,I1,rfl,q1⟩
theorem zlr(ha:PE X a ta)(hb:PE X (.BoolOp .Or (b :: rest) pos) tb):PE X (.BoolOp .Or (a :: b :: rest) pos) (zmz ta tb):=by
 intro pins s σ H Q I h;refine BoolOp_or (thn (ha pins s σ H _ I h) fun v s1 ⟨x,H1,I1,r1,q1⟩=>?_);obtain⟨c,rfl,q1⟩:=q1;cases r1;refine wpAny_truthy_bool ?_;cases c with
 | false=>exact hb pins s1 σ H1 Q I1 q1
 | true=>exact⟨.bl true,H1,I1,rfl,q1⟩
theorem zj8(ha:PE X a ta):PE X (.UnaryOp .Not a pos) (zlq ta):=by
 intro pins s σ H Q I h;refine UnaryOp_ (thn (ha pins s σ H _ I h) fun v s1 ⟨x,H1,I1,r1,q1⟩=>?_);obtain⟨c,rfl,q1⟩:=q1;cases r1;exact not_of (wpAny_truthy_bool ⟨.bl (!c),H1,I1,rfl,q1⟩)
def tIf(t:TT)(ta tb:TE):TE:=fun σ H Q=>t σ H fun c H1=>if c=true then ta σ H1 Q else tb σ H1 Q
theorem As(hc:PT X c tA)(ha:PE X a ta)(hb:PE X b tb):PE X (.IfExp c a b pos) (tIf tA ta tb):=by
 intro pins s σ H Q I h;refine wpAny_IfExp (thn (hc pins s σ H _ I h) fun d s1 ⟨H1,I1,q1⟩=>?_);cases d with
 | true=>exact ha pins s1 σ H1 Q I1 q1
 | false=>exact hb pins s1 σ H1 Q I1 q1
end
def SqL(K:Frag)(H:Hp)(a:Addr)(xs:#[a]):Prop :=
 Rd H a (.lst xs) \/
  ∃ (o:Obj) (its:Array Value) (n:Nat),K.lookup a=#[d]/\o.cls=.type "list"/\o.dict=none/\o.data=.seq its n/\its.size<=sizeLine/\Vals xs its.toList
def SqT(K:Frag)(H:Hp)(a:Addr)(xs:#[a]):Prop :=
 Rd H a (.tup xs) \/
  ∃ (o:Obj) (its:Array Value) (n:Nat),K.lookup a=#[d]/\o.cls=.type "tuple"/\o.data=.seq its n/\its.size<=sizeLine/\Vals xs its.toList
def zm0:Value->Option V
 | .none=>some .non
 | .bool b=>#[b,.bl,b]
 | .int i _=>#[e,i]
 | .str x _=>#[b,.str,x]
 | .bytes b _=>#[b,.byt,b]
 | .float b _=>#[b,.flt,b]
 | .ref a=>#[c,a]
 | .type n=>#[b,.ty,n]
 | _=>none
theorem RelV.abs(r:RelV x u):zm0 u=some x:=by
 cases x with
 | non=>cases r;rfl
 | bl _=>cases r;rfl
 | int _=>obtain⟨t,rfl⟩:=r;rfl
 | str _=>obtain⟨t,rfl⟩:=r;rfl
 | byt _=>obtain⟨t,rfl⟩:=r;rfl
 | flt _=>obtain⟨t,rfl⟩:=r;rfl
 | ref _=>cases r;rfl
 | ty _=>cases r;rfl
theorem RelV.inj(r:RelV x u)(q:RelV y u):x=y:=Option.some.inj (r.abs.symm.trans q.abs)
theorem Vals.inj:∀ {xs ys:List V} {us:List Value},Vals xs us->Vals ys us->xs=ys
 | _,_,_,.nil,.nil=>rfl
 | _,_,_,.cons r t,.cons r' t'=>by rw[r.inj r',Vals.inj t t']
section
variable{X:Cx}{pins:#[C]}{σ:St}{H:Hp}{s:Shared}{a:Addr}{xs ys:#[a]}
theorem SqL.of{K:Frag}(h:#[y,H,a,xs]):SqL K H a xs:=.inl (.inl h)
theorem SqT.of{K:Frag}(h:#[N,H,a,xs]):SqT K H a xs:=.inl (.inl h)
theorem Inv.list(I:#[l])(h:SqL X.K H a xs):∃ its:#[Q],Vals xs its/\PlainL s.heap a its.toArray/\xs.length<=sizeLine:=by
 rcases h with h|⟨o,its,n,hk,hc,hd,hs,hz,r⟩
 ·obtain⟨z,its,n,r,e⟩:=h.ok I.hok;exact⟨its,r,⟨_,n,e,rfl,rfl,rfl⟩,z⟩
 ·refine⟨its.toList,r,⟨o,n,I.kIn a o hk,hc,hd,by simpa using hs⟩,?_⟩;have e:=r.length;simp only[Array.length_toList] at e;omega
theorem Inv.tuple(I:#[l])(h:SqT X.K H a xs):∃ its:#[Q],Vals xs its/\IsTup s.heap a its.toArray/\xs.length<=sizeLine:=by
 rcases h with h|⟨o,its,n,hk,hc,hs,hz,r⟩
 ·obtain⟨z,its,r,p⟩:=h.ok I.hok;exact⟨its,r,p,z⟩
 ·refine⟨its.toList,r,⟨o,I.kIn a o hk,hc,n,by simpa using hs⟩,?_⟩;have e:=r.length;simp only[Array.length_toList] at e;omega
theorem Inv.list_inj(I:#[l])(h:SqL X.K H a xs)(h':SqL X.K H a ys):xs=ys:=by
 obtain⟨its,r,⟨o,n,e,_,_,d⟩,_⟩:=I.list h;obtain⟨its',r',⟨o',n',e',_,_,d'⟩,_⟩:=I.list h';rw[e] at e';cases e';rw[d] at d';injection d' with d1 _;have:its=its':=by simpa using congrArg Array.toList d1
 subst this;exact r.inj r'
end
section
variable{X:Cx}{st:Stmt}{rest:List Stmt}{t u:TS}{e:Expr}{te:TE}{pos:Pos}
def Ho:TS:=fun D σ H=>D.nx σ H
def Zw(t u:TS):TS:=fun D σ H=>t { D with nx:=u D } σ H
theorem Zp:PSs X [] Ho:=fun _ _ σ H _ I h=>wpAny_execs_nil ⟨σ,H,I,h⟩
theorem Zb(h1:PS X st t)(h2:PSs X rest u):PSs X (st :: rest) (Zw t u):=by
 intro pins s σ H D I h;refine wpAny_execs_cons (thn (h1 pins s σ H { D with nx:=u D } I h) fun f s1 q=>?_);cases f with
 | next =>
   obtain⟨σ',H',I',q⟩:=q;exact h2 pins s1 σ' H' D I' q
 | ret v=>exact q
 | brk=>exact q
 | cont=>exact q
theorem Zd(h1:PS X st t):PSs X [st] t:=by
 intro pins s σ H D I h;refine wpAny_execs_cons (thn (h1 pins s σ H D I h) fun f s1 q=>?_);cases f with
 | next=>exact wpAny_execs_nil q
 | ret v=>exact q
 | brk=>exact q
 | cont=>exact q
def zj9:TS:=fun D σ H=>D.bk σ H
theorem zf8:PS X (.Break pos) zj9:=fun _ _ σ H _ I h=>wpAny_Break ⟨σ,H,I,h⟩
theorem Inv.quiet(I:#[l]):interactive X.env=false:=by simp[interactive,I.ok.kind]
def zls(te:TE):TS:=fun D σ H=>te σ H fun _ H1=>D.nx σ H1
theorem Ya(he:PE X e te)(hs:swapsWith e none pos.line X.env=pure false:=by rfl):PS X (.Expr e pos) (zls te):=by
 intro pins s σ H D I h;exact wpAny_Expr_any (thn (he pins s σ H _ I h) fun v s1 ⟨x,H1,I1,r1,q1⟩=>⟨σ,H1,I1,q1⟩) I.quiet hs
def zef(te:TE):TS:=fun D σ H=>te σ H D.rt
theorem Zl(he:PE X e te):PS X (.Return (some e) pos) (zef te):=by
 intro pins s σ H D I h;exact wpAny_Return_some (thn (he pins s σ H _ I h) fun v s1 ⟨x,H1,I1,r1,q1⟩=>⟨x,σ,H1,I1,r1,q1⟩)
def L8(c:TT)(t u:TS):TS:=fun D σ H=>c σ H fun b H1=>if b=true then t D σ H1 else u D σ H1
theorem Zy(hc:PT X c tc)(ha:PSs X a t)(hb:PSs X b u):PS X (.If c a b pos) (L8 tc t u):=by
 intro pins s σ H D I h;refine wpAny_If (thn (hc pins s σ H _ I h) fun d s1 ⟨H1,I1,q1⟩=>?_);cases d with
 | true=>exact ha pins s1 σ H1 D I1 q1
 | false=>exact hb pins s1 σ H1 D I1 q1
end
abbrev TG:=V->St->Hp->(St->Hp->Prop)->Prop
abbrev TGs:=#[a]->St->Hp->(St->Hp->Prop)->Prop
def PG(X:Cx)(target:Expr)(t:TG):Prop :=
 ∀ (pins:#[C]) (s:Shared) (σ:St) (H:Hp) (v:V) (u:Value) (Q:St->Hp->Prop),#[l]->RelV v u->t v σ H Q ->
   wpAny (model X.prog X.w) X.A (assign target X.env u) (fun _ s'=>∃ σ' H',Inv X pins σ' H' s'/\Q σ' H') X.xe s
def PGs(X:Cx)(ts:List Expr)(t:TGs):Prop :=
 ∀ (pins:#[C]) (s:Shared) (σ:St) (H:Hp) (vs:#[a]) (us:#[Q]) (Q:St->Hp->Prop),#[l]->Vals vs us->t vs σ H Q ->
   wpAny (model X.prog X.w) X.A (assignInOrder ((assignEach ts X.env).map (·.2)) us) (fun _ s'=>∃ σ' H',Inv X pins σ' H' s'/\Q σ' H') X.xe s
abbrev zlt:=V->V->V->Hp->(Hp->Prop)->Prop
def zlu(X:Cx)(t:zlt):Prop :=
 ∀ (pins:#[C]) (s:Shared) (σ:St) (H:Hp) (o i v:V) (ov iv u:Value) (Q:Hp->Prop),#[l]->RelV o ov->RelV i iv->RelV v u->t o i v H Q ->
   wpAny (model X.prog X.w) X.A (setItem ov iv u) (fun _ s'=>∃ H',#[H,H',s']/\Q H') X.xe s
section
variable{X:Cx}{pos:Pos}
def Vp(i:Nat):TG:=fun v σ H Q=>Q (σ.set i (some v)) H
theorem V6(hN:X.N.Nodup)(hi:X.N[i]?=some x)(hx:Loc X.env.scope x)(hf:zby X i x:=by first|exact⟨.inl rfl,W6⟩|exact⟨.inr rfl,W6⟩|assumption|exact⟨.inl rfl,by assumption⟩|exact⟨.inr rfl,by assumption⟩):PG X (.Name x pos) (Vp i):=by
 intro pins s σ H v u Q I r h;exact wpAny_assign_Name (Ar I hN hi hx r (fun s' I'=>⟨_,H,I',h⟩) hf)
def zm1:TGs:=fun vs σ H Q=>vs=[]/\Q σ H
def zlv(t:TG)(u:TGs):TGs:=fun vs σ H Q=>∃ v r,vs=v :: r/\t v σ H fun σ' H'=>u r σ' H' Q
theorem X9:PGs X [] zm1:=by
 intro pins s σ H vs us Q I r h;obtain⟨e,h⟩:=h;subst e;cases r;exact assignInOrder_nil ⟨σ,H,I,h⟩
theorem Z0(h1:PG X e t)(h2:PGs X es u)
  (hs:(assignEach (e :: es) X.env).map (·.2)=assign e X.env :: (assignEach es X.env).map (·.2):=by rfl):PGs X (e :: es) (zlv t u):=by
 intro pins s σ H vs us Q I r h;obtain⟨v,vr,e1,h⟩:=h;subst e1;cases r with
 | cons r rr =>
   rw[hs];refine assignInOrder_cons (thn (h1 pins s σ H _ _ _ I r h) fun _ s1 ⟨σ1,H1,I1,q1⟩=>?_);exact h2 pins s1 σ1 H1 _ _ Q I1 rr q1
def zlw(K:Frag)(n:Nat)(t:TGs):TG:=fun v σ H Q=>∃ a xs,v=.ref a/\SqT K H a xs/\xs.length=n/\t xs σ H Q
theorem zka(hc:X.calm=true)(h:PGs X es t)
  (hn:(assignEach es X.env).length=n:=by rfl) (hst:(assignEach es X.env).findIdx? (·.1)=none:=by rfl):PG X (.Tuple es k pos) (zlw X.K n t):=by
 intro pins s σ H v u Q I r hw;obtain⟨a,xs,e1,hq,hl,hw⟩:=hw;subst e1;cases r;obtain⟨its,rv,ht,hz⟩:=I.tuple hq;refine assign_Tuple_tuple (I.ok.hd hc) ht (by simp[hn,<- hl,rv.length]) hst fun h' hx=>?_;have I1:#[H,H,{ s with heap:=h' }]:=I.kept (t':=s.toks) fun b o e=>hx b o (zxh (Heap.lt_size e)) e;exact h pins _ σ H xs _ Q I1 (by simpa using rv) hw
def zm2(to ti:TE)(t:zlt):TG:=fun v σ H Q=>to σ H fun o H1=>ti σ H1 fun i H2=>t o i v H2 fun H3=>Q σ H3
theorem zbz(ho:PE X o to)(hi:PE X i ti)(hs:zlu X t)
  (ha:∀ v,assign (.Subscript o i pos) X.env v=(do
   let ov <- holding [v] (eval o X.env)
   let iv <- holding [v,ov] (eval i X.env)
   standAt pos
   holding [v,ov,iv] (setItem ov iv v)
   release [v,ov,iv] []):=by intro _;rfl):PG X (.Subscript o i pos) (zm2 to ti t):=by
 intro pins s σ H v u Q I r h;rw[ha];refine wpAny_bind (wpAny_holding (thn (ho pins s σ H _ I h) fun ov s1 ⟨x,H1,I1,r1,q1⟩=>?_));refine wpAny_bind (wpAny_holding (thn (hi pins s1 σ H1 _ I1 q1) fun iv s2 ⟨y,H2,I2,r2,q2⟩=>?_));refine wpAny_bind (wpAny_standAt (wpAny_bind (wpAny_holding (thn (hs pins s2 σ H2 x y v ov iv u _ I2 r1 r2 r q2) fun _ s3 ⟨H3,I3,q3⟩=>?_))));exact wpAny_release ⟨σ,H3,I3,q3⟩
def zeg(te:TE)(g:TG):TS:=fun D σ H=>te σ H fun x H1=>g x σ H1 D.nx
theorem Qg(he:PE X e te)(hg:PG X tg g)(hs:swapsWithSole [tg] e pos.line X.env=pure false:=by rfl)(hw:swappedStores [tg] e X.env=pure none:=by rfl)
  (h1:(assignEach [tg] X.env).map (·.2)=[assign tg X.env]:=by rfl):PS X (.Assign [tg] e pos) (zeg te g):=by
 intro pins s σ H D I h;refine wpAny_Assign_stores (thn (he pins s σ H _ I h) fun v s1 ⟨x,H1,I1,r1,q1⟩=>?_) hs hw;rw[h1];exact thn (hg pins s1 σ H1 x v _ I1 r1 q1) fun _ s2 q=>q
theorem zkb(hN:X.N.Nodup)(hi:X.N[i]?=some x)(hx:Loc X.env.scope x)(he:PE X e te)(hs:swapsWith e (some (.Name x pos')) pos.line X.env=pure false:=by rfl)(hf:zby X i x:=by first|exact⟨.inl rfl,W6⟩|exact⟨.inr rfl,W6⟩|assumption|exact⟨.inl rfl,by assumption⟩|exact⟨.inr rfl,by assumption⟩) :
  PS X (.Assign [.Name x pos'] e pos) (zeg te (Vp i)):=by
 intro pins s σ H D I h;refine wpAny_Assign_Name (thn (he pins s σ H _ I h) fun v s1 ⟨y,H1,I1,r1,q1⟩=>?_) hs;exact Ar I1 hN hi hx r1 (fun s2 I2=>⟨_,H1,I2,q1⟩) hf
end
section
variable{X:Cx}{pos:Pos}
def C9(c:TT)(tb:TS):TS:=fun D σ H=>∃ W:Nat->St->Hp->Prop,(∃ m,W m σ H)/\∀ m σ H,W m σ H ->
 c σ H fun b H1=>if b=true then ∃ N:St->Hp->Prop,(∀ σ' H',N σ' H'->∃ m',m' < m/\W m' σ' H')/\tb { D with nx:=N,ct:=N,bk:=D.nx } σ H1 else D.nx σ H1
theorem Mz(hp:PassesOwn (model X.prog X.w) X.A X.env X.xe)(hc:PT X c tc)(hb:PSs X body tb):PS X (.While c body [] pos) (C9 tc tb):=by
 intro pins s σ H D I h;obtain⟨W,⟨m0,w0⟩,turn⟩:=h;refine wpAny_While (codeAny_whileLoop (fun n s'=>∃ σ' H',Inv X pins σ' H' s'/\W n σ' H') ?_ m0 ⟨σ,H,I,w0⟩);rintro n s1 ⟨σ1,H1,I1,w1⟩;refine wpAny_passesOwn hp (thn (hc pins s1 σ1 H1 _ I1 (turn n σ1 H1 w1)) fun b s2 ⟨H2,I2,q2⟩=>?_);cases b with
 | true =>
   obtain⟨N,hN,q2⟩:=q2;rw[#[P]];refine wpAny_passesOwn hp (thn (hb pins s2 σ1 H2 _ I2 q2) fun f s3 q3=>?_);cases f with
   | next =>
     obtain⟨σ3,H3,I3,n3⟩:=q3;obtain⟨m',hm,w3⟩:=hN σ3 H3 n3;exact⟨m',hm,σ3,H3,I3,w3⟩
   | cont =>
     obtain⟨σ3,H3,I3,n3⟩:=q3;obtain⟨m',hm,w3⟩:=hN σ3 H3 n3;exact⟨m',hm,σ3,H3,I3,w3⟩
   | brk=>exact q3
   | ret v=>exact q3
 | false =>
   rw[#[h,zxe]];exact wpAny_execs_nil ⟨σ1,H2,I2,q2⟩
end
structure It where
 go:Nat->Hp->Prop
 yld:Nat->Hp->V->Hp->Prop
 stop:Nat->Hp->Prop
def FpOk(X:Cx)(pins:#[C])(H:Hp)(b:Addr):Prop :=
 H b=none/\b≠X.env.locals/\b∉X.fs/\(b∈X.ex\/X.s₀.heap.objs.size<=b)/\(∀ x c,#[ah,x]=some c->c≠b)/\∀ p∈X.pn++pins,p.1≠b
theorem Inv.fpOk(I:#[l])(hb:s.heap.objs.size<=b)(hn:H' b=none):FpOk X pins H' b:=by
 refine⟨hn,Nat.ne_of_gt (zxf I.lt hb),I.nofs hb,.inr (zw4 I.sz hb),fun x c e z=>?_,fun p hp z=>?_⟩
 ·obtain⟨v,q⟩:=I.cell x c e;exact absurd (zxf q.lt (by rw[z];exact hb)) (zyg _)
 ·exact absurd (zxf (Heap.lt_size (I.pin p hp).1) (by rw[z];exact hb)) (zyg _)
structure Au(P:Program)(w:World)(K:Frag)(tg:Expr)(J:It)(fp:#[x])(it:Addr)(tn:Nat->Heap->Prop):Prop where
 mem:it∈fp
 obj:∀ i h,tn i h->∀ b∈fp,∃ o,h.get? b=#[d]/\∀ v,o.data≠.cell v
 keep:∀ i h h',tn i h->(∀ b∈fp,∀ o,h.get? b=some o->h'.get? b=some o)->tn i h'
 item:∀ (X:Cx),X.prog=P->X.w=w->X.K=K->X.calm=true->∀ (i:Nat) (pins:#[C]) (s:Shared) (σ:St) (H:Hp) (E:Value->Shared->Prop),#[l]->(∀ b∈fp,FpOk X pins H b)->tn i s.heap->J.go i H ->
  wpAny (model P w) X.A (pyNext (.ref it)) (fun r s1=>∃ u,r=some u /\
   wpAny (model P w) X.A (letOwnedTupleGo tg (.ref it) u) (fun _ s2=>∃ x H',#[H,H',s2]/\RelV x u/\J.yld i H x H'/\tn (i+1) s2.heap/\∀ b∈fp,H' b=none) E s1) E s
 done:∀ (X:Cx),X.prog=P->X.w=w->X.K=K->X.calm=true->∀ (i:Nat) (pins:#[C]) (s:Shared) (σ:St) (H:Hp) (E:Value->Shared->Prop),#[l]->(∀ b∈fp,FpOk X pins H b)->tn i s.heap->J.stop i H ->
  wpAny (model P w) X.A (pyNext (.ref it)) (fun r s1=>r=none/\#[H,H,s1]) E s
 self:∀ (A:Around) (i:Nat) (s:Shared) (Q:Value->Shared->Prop) (E:Value->Shared->Prop),tn i s.heap->Q (.ref it) s->#[X,P,w,A,pyIter (.ref it),Q,E,s]
abbrev TI:=St->Hp->(It->Hp->Prop)->Prop
def PIE(X:Cx)(pins:#[C])(σ:St)(tg:Expr)(R:It->Hp->Prop)(itv:Value)(s2:Shared):Prop :=
 ∃ (it:Addr) (fp:#[x]) (tn:Nat->Heap->Prop) (J:It) (H':Hp),itv=.ref it/\#[H,H',s2]/\Au X.prog X.w X.K tg J fp it tn/\tn 0 s2.heap/\(∀ b∈fp,FpOk X pins H' b)/\R J H'
def PI(X:Cx)(tg iter:Expr)(wi:TI):Prop :=
 ∀ (pins:#[C]) (s:Shared) (σ:St) (H:Hp) (R:It->Hp->Prop),#[l]->wi σ H R ->
   wpAny (model X.prog X.w) X.A (eval iter X.env) (fun v s1=>#[am,pyIter v,PIE X pins σ tg R,X.xe,s1]) X.xe s
theorem zf9(ho:s.heap.get? it=some o)(hc:o.cls=.type n)(hd:o.data=.fields vs)
  (hn:["enumerate","zip","dict_itemiterator","dict_reverseitemiterator","odict_iterator","itertools.zip_longest","itertools.pairwise"].contains n=false) (hQ:Q () s):wpAny M A (letOwnedTupleGo tg (.ref it) u) Q E s:=by
 unfold letOwnedTupleGo;cases tg<;>first
  | exact wpAny_pure hQ
  | (cases u<;>first
    | exact wpAny_pure hQ
    | (refine wpAny_bind (wpAny_load ho ?_)
       rw[hc,hd];show wpAny M A (if (["enumerate","zip","dict_itemiterator","dict_reverseitemiterator","odict_iterator","itertools.zip_longest","itertools.pairwise"].contains n&&vs[0]? == some (rawInt _))=true then _ else _) Q E s;rw[if_neg (by intro h;rw[hn,Bool.false_and] at h;cases h)];exact wpAny_pure hQ))
def Itl(K:Frag)(a:Addr):It :=
 ⟨fun i H=>∃ xs x,SqL K H a xs/\xs[i]?=some x,fun i H x H'=>H'=H/\∀ xs,SqL K H a xs->xs[i]?=some x,fun i H=>∃ xs,SqL K H a xs/\xs.length<=i⟩
def Itr(lo:Int)(n:Nat):It:=⟨fun i _=>i<n,fun i H x H'=>H'=H/\x=.int (lo+i),fun i _=>n<=i⟩
theorem zeh{P:Program}{w:World}{K:Frag}{tg:Expr}(a it:Addr):Au P w K tg (Itl K a) [it] it (fun i h=>h.IsListIter it a i) where
 mem:=by simp
 obj:=fun i h st b hb=>by
  have e:b=it:=by simpa using hb
  subst e;obtain⟨o,e,c,d⟩:=st;exact⟨o,e,fun v z=>by rw[d] at z;cases z⟩
 keep:=fun i h h' st k=>st.at fun o e=>k it (by simp) o e
 item:=by
  intro X hP hw hK hc i pins s σ H E I hf st hg;subst hP hw hK;obtain⟨xs,x,hq,hx⟩:=hg;obtain⟨its,rv,p,hz⟩:=I.list hq;obtain⟨u,hu,ru⟩:=rv.get hx;obtain⟨f0,f1,f2,f3,f4,f5⟩:=hf it (by simp);refine wpAny_pyNext_list_item st p.isList (x:=u) (by simpa using hu) fun h' st' sb=>?_;have I1:#[H,H,{ s with heap:=h' }]:=I.turned (t':=s.toks) (fun b o hb e=>(sb.2 b hb).trans e) f0 f1 f3 f4 f5;obtain⟨o,e,c,d⟩:=id st';exact#[q,u,zf9 (s:={ s with heap:=h' }) e c d ⋯ ⟨x,H,I1,ru,⟨rfl,fun ys hy=>by rw[I.list_inj hy hq];exact hx⟩,st',fun b hb=>(hf b hb).1⟩]
 done:=by
  intro X hP hw hK hc i pins s σ H E I hf st hg;subst hP hw hK;obtain⟨xs,hq,hx⟩:=hg;obtain⟨its,rv,p,hz⟩:=I.list hq;obtain⟨f0,f1,f2,f3,f4,f5⟩:=hf it (by simp);have hl:=rv.length;exact wpAny_pyNext_list_end (I.ok.hd hc) st p.isList (by simp;omega) fun h' eb=>⟨rfl,I.turned (t':=s.toks) (fun b o hb e=>eb b o hb e) f0 f1 f3 f4 f5⟩
 self:=fun _ _ _ _ _ st h=>wpAny_pyIter_listiter st h
theorem zb0{P:Program}{w:World}{K:Frag}{tg:Expr}(it:Addr)(lo:Int)(n:Nat):Au P w K tg (Itr lo n) [it] it (fun i h=>IsRangeIter h it (lo+(i:Nat)*1) ((n:Int)-(i:Nat)) 1) where
 mem:=by simp
 obj:=fun i h st b hb=>by
  have e:b=it:=by simpa using hb
  subst e;exact⟨_,st,fun v z=>by
   have z':Data.fields _=Data.cell v:=z;cases z'⟩
 keep:=fun i h h' st k=>k it (by simp) _ st
 item:=by
  intro X hP hw hK hc i pins s σ H E I hf st hg;subst hP hw hK;obtain⟨f0,f1,f2,f3,f4,f5⟩:=hf it (by simp);have W:=Walks.range (prog:=X.prog) (w:=X.w) (I.ok.hd hc) it lo 1 n;refine W.item i s _ _ hg st fun v h' tk hv st' kk=>?_;obtain⟨t,rfl⟩:=hv;have I1:#[H,H,{ s with heap:=h',toks:=tk }]:=I.turned (fun b o hb e=>kk b o (by simpa using hb) e) f0 f1 f3 f4 f5;refine#[q,_,zf9 (s:={ s with heap:=h',toks:=tk }) (n:="range_iterator") st' rfl rfl ⋯ ⟨.int (lo+i),H,I1,⟨t,?_⟩,#[w,rfl],st',fun b hb=>(hf b hb).1⟩];rw[Int.mul_one]
 done:=by
  intro X hP hw hK hc i pins s σ H E I hf st hg;subst hP hw hK;obtain⟨f0,f1,f2,f3,f4,f5⟩:=hf it (by simp);exact wpAny_pyNext_range_end (I.ok.hd hc) st (by have:n<=i:=hg;omega) fun h' eb=>⟨rfl,I.turned (t':=s.toks) (fun b o hb e=>eb b o hb e) f0 f1 f3 f4 f5⟩
 self:=fun _ _ _ _ _ st h=>wpAny_pyIter_rangeiter st h
section
variable{X:Cx}{tg:Expr}
inductive zkc(K:Frag)(R:It->Hp->Prop)(x:V)(H1:Hp):Prop where
 | mk(a)(_:x=.ref a)(_:(∃ xs,SqL K H1 a xs))(_:R (Itl K a) H1)
def zc7(K:Frag)(tl:TE):TI:=fun σ H R=>tl σ H fun x H1=>zkc K R x H1
theorem zif{l:Expr}{tl:TE}(hl:PE X l tl):PI X tg l (zc7 X.K tl):=by
 intro pins s σ H R I h;refine thn (hl pins s σ H _ I h) fun v s1 ⟨x,H1,I1,r1,q1⟩=>?_;obtain⟨a,e,⟨xs,hq⟩,q⟩:=q1;subst e;cases r1;obtain⟨its,rv,p,hz⟩:=I1.list hq;refine wpAny_pyIter_list p.isList ?_;refine⟨s1.heap.objs.size,[s1.heap.objs.size],_,_,H1,rfl,I1.kept (t':=s1.toks) fun b o e=>#[ac,_,e],zeh a _,⟨_,Heap.get?_push_size _ rfl,rfl,rfl⟩,fun b hb=>?_,q⟩;have e:b=s1.heap.objs.size:=by simpa using hb
 subst e;exact I1.fpOk (zw1 _) (I1.hok.fresh (zw1 _))
theorem Av{pins:#[C]}{σ:St}{H:Hp}{s:Shared}{R:It->Hp->Prop}{E:Value->Shared->Prop}{lo hi:Int}{t u v:Tok}{tk:Nat}(I:#[l])(h1:-(2 ^ 62)<=lo)(h2:lo<2 ^ 62)(h3:-(2 ^ 62)<=hi)(h4:hi<2 ^ 62)
  (q:R (Itr lo (hi-lo).toNat) H):#[am,pyIter (.ref s.heap.objs.size),PIE X pins σ tg R,E,{ s with heap:=s.heap.push { cls:=.type "range",data:=.fields #[.int lo t,.int hi u,.int 1 v] },toks:=tk }]:=by
 refine wpAny_pyIter_range (IsRange.new ..) (small_one h1 h2 h3 h4) ?_;have I1:#[H,H,{ s with heap:=s.heap.push { cls:=.type "range",data:=.fields #[.int lo t,.int hi u,.int 1 v] },toks:=tk }]:=I.kept fun b o e=>#[ac,_,e];refine⟨(s.heap.push { cls:=.type "range",data:=.fields #[.int lo t,.int hi u,.int 1 v] }).objs.size,[(s.heap.push { cls:=.type "range",data:=.fields #[.int lo t,.int hi u,.int 1 v] }).objs.size],_,_,H,rfl,
  I1.kept (t':=tk) fun b o e=>#[ac,_,e],zb0 _ lo (hi-lo).toNat,?_,fun b hb=>?_,q⟩
 ·have e1:lo+((0:Nat):Int)*1=lo:=by simp
  have e2:(((hi-lo).toNat:Nat):Int)-((0:Nat):Int)=Builtin.Range.rangeSize lo hi 1:=by rw[rangeSize_one];split<;>omega
  show IsRangeIter _ _ (lo+((0:Nat):Int)*1) ((((hi-lo).toNat:Nat):Int)-((0:Nat):Int)) 1;rw[e1,e2];exact Heap.get?_push_size _ rfl
 ·have e:b=(s.heap.push { cls:=.type "range",data:=.fields #[.int lo t,.int hi u,.int 1 v] }).objs.size:=by simpa using hb
  subst e;exact I1.fpOk (zw1 _) (I1.hok.fresh (zw1 _))
def zlx(ta:TA):TI:=fun σ H R=>ta σ H fun vs H1=>∃ j:Int,vs=[.int j]/\-(2 ^ 62)<=j/\j<2 ^ 62/\R (Itr 0 j.toNat) H1
def zly(ta:TA):TI:=fun σ H R=>ta σ H fun vs H1=>∃ i j:Int,vs=[.int i,.int j]/\(-(2 ^ 62)<=i/\i<2 ^ 62/\-(2 ^ 62)<=j/\j<2 ^ 62)/\R (Itr i (j-i).toNat) H1
theorem Yw{a:Expr}{ta:TA}{p pos:Pos}(hg:Gl X "range")(hm:X.mg "range"=none)(ha:PA X [a] ta)(hs:starEach [a] X.env=[(false,#[G,a])]:=by rfl):PI X tg (.Call (.Name "range" p) [a] [] pos) (zlx ta):=by
 intro pins s σ H R I h;refine Call_ (Px I hg hm boot_range (PyProof.Rows.callWith_type1 (thn (ha pos pins s σ H _ I h) fun us s1 ⟨vs,H1,I1,r1,q1⟩=>?_) hs rfl));obtain⟨j,e,q1,q2,q⟩:=q1;subst e;cases r1 with
 | cons r rr =>
   cases rr;obtain⟨t,rfl⟩:=r;exact call_range_1 (Av I1 ⋯ ⋯ q1 q2 (by simpa using q))
theorem D3(hg:Gl X "range")(hm:X.mg "range"=none)(ha:PA X [a,b] ta)(hs:starEach [a,b] X.env=[(false,eval a X.env),(false,eval b X.env)]:=by rfl)(hs2:starEach [b] X.env=[(false,#[G,b])]:=by rfl) :
  PI X tg (.Call (.Name "range" p) [a,b] [] pos) (zly ta):=by
 intro pins s σ H R I h;refine Call_ (Px I hg hm boot_range (PyProof.Rows.callWith_type1 (thn (ha pos pins s σ H _ I h) fun us s1 ⟨vs,H1,I1,r1,q1⟩=>?_) (by rw[hs,hs2]) (by rw[hs2];rfl)));obtain⟨i,j,e,⟨q1,q2,q3,q4⟩,q⟩:=q1;subst e;cases r1 with
 | cons r rr =>
   cases rr with
   | cons r' rr =>
     cases rr;obtain⟨t,rfl⟩:=r;obtain⟨t',rfl⟩:=r';exact call_range_2 (Av I1 q1 q2 q3 q4 q)
def zei(wi:TI)(g:TG)(tb:TS):TS:=fun D σ H=>wi σ H fun J H1=>∃ W:Nat->Nat->St->Hp->Prop,(∃ m,W 0 m σ H1)/\∀ i m σ H,W i m σ H ->
 (J.stop i H/\D.nx σ H)\/(J.go i H/\∃ N:St->Hp->Prop,(∀ σ' H',N σ' H'->∃ m',m' < m/\W (i+1) m' σ' H')/\∀ x H',J.yld i H x H'->g x σ H' fun σ2 H2=>tb { D with nx:=N,ct:=N,bk:=D.nx } σ2 H2)
def L9(fp:#[x])(h:Heap):#[C]:=fp.filterMap fun b=>(h.get? b).map fun o=>(b,o)
theorem Qh(hb:b∈fp)(e:h.get? b=some o):(b,o)∈L9 fp h:=zyl.mpr ⟨b,hb,by rw[e];rfl⟩
theorem zej(hp:p∈L9 fp h):p.1∈fp/\h.get? p.1=some p.2:=by
 obtain⟨b,hb,e⟩:=zyl.mp hp;cases q:h.get? b with
 | none=>rw[q] at e;cases e
 | some o =>
   rw[q] at e;have e':(b,o)=p:=Option.some.inj e;subst e';exact⟨hb,q⟩
theorem Inv.pinned(I:#[l])(hf:∀ b∈fp,FpOk X pins H b)(ho:∀ b∈fp,∃ o,#[ab]=#[d]/\∀ v,o.data≠.cell v):Inv X (pins++L9 fp s.heap) σ H s :=
 I.pins_of fun p hp=>(zw0.mp hp).elim (fun z=>I.pin p (zw7 _ z)) fun z=>by
  obtain⟨hb,e⟩:=zej z;obtain⟨f0,f1,f2,_⟩:=hf p.1 hb;obtain⟨o,e',d⟩:=ho p.1 hb;rw[e] at e';cases e';exact⟨e,f0,f1,f2,d⟩
theorem Inv.unpinned(I:Inv X (pins++pl) σ H s):#[l]:=I.pins_of fun p hp=>I.pin p (zw7 _ (zxa _ hp))
theorem Yi(hp:PassesOwn (model X.prog X.w) X.A X.env X.xe)(hc:X.calm=true)(hi:PI X tg iter wi)(hg:PG X tg g)(hb:PSs X body tb)
  (hs:∀ x,foldedSetIterable iter X.env x=pure x:=by intro _;rfl):PS X (.For tg iter body [] pos) (zei wi g tb):=by
 intro pins s σ H D I h;refine wpAny_For (thn (hi pins s σ H _ I h) fun v s1 h1=>thn h1 fun itv s2 h2=>?_) hs;obtain⟨it,fp,tn,J,H2,e,I2,T,st2,f2,W,⟨m0,w0⟩,turn⟩:=h2;subst e;have stat:∀ {H':Hp},(∀ b∈fp,H' b=none)->∀ b∈fp,FpOk X pins H' b:=fun hn b hb=>⟨hn b hb,(f2 b hb).2⟩
 refine codeAny_forLoop_any (fun n s'=>∃ i σ' H',Inv X pins σ' H' s'/\tn i s'.heap/\(∀ b∈fp,H' b=none)/\W i n σ' H') ?_ m0 ⟨0,σ,H2,I2,st2,fun b hb=>(f2 b hb).1,w0⟩;rintro n s3 ⟨i,σ3,H3,I3,st3,fr3,w3⟩;rcases turn i n σ3 H3 w3 with ⟨stop,qn⟩|⟨go,N,hN,step⟩
 ·refine wpAny_passesOwn hp (thn (T.done X rfl rfl rfl hc i pins s3 σ3 H3 X.xe I3 (stat fr3) st3 stop) fun r s4 ⟨hr,I4⟩=>?_);subst hr;exact wpAny_execs_nil ⟨σ3,H3,I4,qn⟩
 ·refine wpAny_passesOwn hp (thn (T.item X rfl rfl rfl hc i pins s3 σ3 H3 X.xe I3 (stat fr3) st3 go) fun r s4 ⟨u,hr,h4⟩=>?_);subst hr;refine wpAny_passesOwn hp (thn h4 fun _ s5 ⟨x,H5,I5,r5,y5,st5,fr5⟩=>?_);have I5':=I5.pinned (stat fr5) (T.obj _ _ st5);refine wpAny_passesOwn hp (thn (hg _ s5 σ3 H5 x u _ I5' r5 (step x H5 y5)) fun _ s6 ⟨σ6,H6,I6,q6⟩=>?_);refine wpAny_passesOwn hp (thn (hb _ s6 σ6 H6 _ I6 q6) fun f s7 q7=>?_);have again:∀ {σ7:St} {H7:Hp},Inv X (pins++L9 fp s5.heap) σ7 H7 s7->N σ7 H7->∃ m,m<n/\∃ i σ' H',Inv X pins σ' H' s7/\tn i s7.heap/\(∀ b∈fp,H' b=none)/\W i m σ' H':=fun {σ7 H7} I7 n7=>by
   obtain⟨m',hm,w7⟩:=hN σ7 H7 n7;refine⟨m',hm,i+1,σ7,H7,I7.unpinned,T.keep _ _ _ st5 fun b hb o e=>(I7.pin (b,o) (zw7 _ (zw7 _ (Qh hb e)))).1,fun b hb=>?_,w7⟩;obtain⟨o,e,d⟩:=T.obj _ _ st5 b hb;exact(I7.pin (b,o) (zw7 _ (zw7 _ (Qh hb e)))).2.1
  cases f with
  | next=>obtain⟨σ7,H7,I7,n7⟩:=q7;exact again I7 n7
  | cont=>obtain⟨σ7,H7,I7,n7⟩:=q7;exact again I7 n7
  | brk=>obtain⟨σ7,H7,I7,q7⟩:=q7;exact⟨σ7,H7,I7.unpinned,q7⟩
  | ret v=>obtain⟨x7,σ7,H7,I7,r7,q7⟩:=q7;exact⟨x7,σ7,H7,I7.unpinned,r7,q7⟩
end
theorem Xd{K:Frag}{a:Addr}{xs:#[a]}{g:TG}{tb:TS}{D:Pp}{σ:St}{H:Hp}(Pv:Nat->St->Hp->Prop)(h0:Pv 0 σ H)(hl:∀ i σ H,i<=xs.length->Pv i σ H->SqL K H a xs)
  (hs:∀ i x σ H,xs[i]?=some x->Pv i σ H->g x σ H fun σ2 H2=>tb { D with nx:=Pv (i+1),ct:=Pv (i+1),bk:=D.nx } σ2 H2) (hd:∀ σ H,Pv xs.length σ H->D.nx σ H) :
  ∃ W:Nat->Nat->St->Hp->Prop,(∃ m,W 0 m σ H)/\∀ i m σ H,W i m σ H ->
    ((Itl K a).stop i H/\D.nx σ H)\/((Itl K a).go i H/\∃ N:St->Hp->Prop,(∀ σ' H',N σ' H'->∃ m',m' < m/\W (i+1) m' σ' H')/\∀ x H',(Itl K a).yld i H x H'->g x σ H' fun σ2 H2=>tb { D with nx:=N,ct:=N,bk:=D.nx } σ2 H2):=by
 refine⟨fun i m σ H=>m=xs.length-i/\i<=xs.length/\Pv i σ H,⟨xs.length,by simp,zxj _,h0⟩,?_⟩;rintro i m σ H ⟨rfl,hi,p⟩;have q:=hl i σ H hi p;by_cases hlt:i<xs.length
 ·refine .inr ⟨⟨xs,xs[i],q,by simp[hlt]⟩,Pv (i+1),fun σ' H' p'=>⟨xs.length-(i+1),by omega,rfl,hlt,p'⟩,fun x H' y=>?_⟩;obtain⟨e,y⟩:=y;subst e;exact hs i x σ _ (y xs q) p
 ·have e:i=xs.length:=by omega
  subst e;exact #[M,⟨xs,q,zw1 _⟩,hd σ H p]
theorem Xb{lo:Int}{n:Nat}{g:TG}{tb:TS}{D:Pp}{σ:St}{H:Hp}(Pv:Nat->St->Hp->Prop)(h0:Pv 0 σ H)
  (hs:∀ i σ H,i<n->Pv i σ H->g (.int (lo+i)) σ H fun σ2 H2=>tb { D with nx:=Pv (i+1),ct:=Pv (i+1),bk:=D.nx } σ2 H2) (hd:∀ σ H,Pv n σ H->D.nx σ H) :
  ∃ W:Nat->Nat->St->Hp->Prop,(∃ m,W 0 m σ H)/\∀ i m σ H,W i m σ H ->
    ((Itr lo n).stop i H/\D.nx σ H)\/((Itr lo n).go i H/\∃ N:St->Hp->Prop,(∀ σ' H',N σ' H'->∃ m',m' < m/\W (i+1) m' σ' H')/\∀ x H',(Itr lo n).yld i H x H'->g x σ H' fun σ2 H2=>tb { D with nx:=N,ct:=N,bk:=D.nx } σ2 H2):=by
 refine⟨fun i m σ H=>m=n-i/\i<=n/\Pv i σ H,⟨n,by simp,zxj _,h0⟩,?_⟩;rintro i m σ H ⟨rfl,hi,p⟩;by_cases hlt:i<n
 ·refine .inr ⟨hlt,Pv (i+1),fun σ' H' p'=>⟨n-(i+1),by omega,rfl,hlt,p'⟩,fun x H' y=>?_⟩;obtain⟨e,y⟩:=y;subst e y;exact hs i σ _ hlt p
 ·have e:i=n:=by omega
  subst e;exact #[M,zw1 _,hd σ H p]
abbrev R2:=V->V->Hp->VK->Prop
def OpR(X:Cx)(f:Value->Value->Sem Value)(r:R2):Prop :=
 ∀ (pins:#[C]) (s:Shared) (σ:St) (H:Hp) (x y:V) (v u:Value) (Q:VK),#[l]->RelV x v->RelV y u->r x y H Q ->
   wpAny (model X.prog X.w) X.A (f v u) (EP X pins σ Q) X.xe s
def UnR(X:Cx)(f:Value->Sem Value)(r:V->Hp->VK->Prop):Prop :=
 ∀ (pins:#[C]) (s:Shared) (σ:St) (H:Hp) (x:V) (v:Value) (Q:VK),#[l]->RelV x v->r x H Q ->
   wpAny (model X.prog X.w) X.A (f v) (EP X pins σ Q) X.xe s
def V5(X:Cx)(f:Value)(r:#[a]->Hp->VK->Prop):Prop :=
 ∀ (pins:#[C]) (s:Shared) (σ:St) (H:Hp) (xs:#[a]) (us:#[Q]) (Q:VK),#[l]->Vals xs us->r xs H Q ->
   wpAny (model X.prog X.w) X.A (call f us) (EP X pins σ Q) X.xe s
def zm3(X:Cx)(r:V->Hp->(Bool->Hp->Prop)->Prop):Prop :=
 ∀ (pins:#[C]) (s:Shared) (σ:St) (H:Hp) (x:V) (v:Value) (Q:Bool->Hp->Prop),#[l]->RelV x v->r x H Q ->
   wpAny (model X.prog X.w) X.A (truthy v) (TP X pins σ Q) X.xe s
def tOp(r:R2)(ta tb:TE):TE:=fun σ H Q=>ta σ H fun x H1=>tb σ H1 fun y H2=>r x y H2 Q
def tUn(r:V->Hp->VK->Prop)(ta:TE):TE:=fun σ H Q=>ta σ H fun x H1=>r x H1 Q
inductive rI(C:Int->Int->Prop)(g:Int->Int->V)(x:V)(y:V)(H:Hp)(Q:VK):Prop where
 | mk(i)(j)(_:x=.int i)(_:y=.int j)(_:C i j/\Q (g i j) H)
inductive rI0(g:Int->Int->V)(x:V)(y:V)(H:Hp)(Q:VK):Prop where
 | mk(i)(j)(_:x=.int i)(_:y=.int j)(_:Q (g i j) H)
inductive rU(g:Int->V)(x:V)(H:Hp)(Q:VK):Prop where
 | mk(i)(_:x=.int i)(_:Q (g i) H)
section
variable{X:Cx}{a b c:Expr}{ta tb tc:TE}{pos:Pos}
theorem binT(ha:PE X a ta)(hb:PE X b tb){pins:#[C]}{s:Shared}{σ:St}{H:Hp}{R:V->V->Hp->Prop}(I:#[l])
  (h:ta σ H fun x H1=>tb σ H1 fun y H2=>R x y H2) {Q:Value->Shared->Prop} {f:Value->Value->Sem Value}
  (hf:∀ v u s2 x y H2,#[H,H2,s2]->RelV x v->RelV y u->R x y H2->#[am,f v u,Q,X.xe,s2]) :
  wpAny (model X.prog X.w) X.A (eval a X.env) (fun v s₁=>#[am,#[G,b],fun u s₂=>#[am,f v u,Q,X.xe,s₂],X.xe,s₁]) X.xe s:=by
 refine thn (ha pins s σ H _ I h) fun v s1 ⟨x,H1,I1,r1,q1⟩=>?_;refine thn (hb pins s1 σ H1 _ I1 q1) fun u s2 ⟨y,H2,I2,r2,q2⟩=>?_;exact hf v u s2 x y H2 I2 r1 r2 q2
theorem Zt{op:Operator}{r:R2}(ho:OpR X (binaryOp op) r)(ha:PE X a ta)(hb:PE X b tb):PE X (.BinOp a op b pos) (tOp r ta tb):=by
 intro pins s σ H Q I h;exact wpAny_BinOp (binT ha hb I h fun v u s2 x y H2 I2 rx ry q=>ho pins s2 σ H2 x y v u Q I2 rx ry q)
theorem Pf(ho:UnR X (unaryOp op) r)(ha:PE X a ta):PE X (.UnaryOp op a pos) (tUn r ta):=by
 intro pins s σ H Q I h;exact UnaryOp_ (thn (ha pins s σ H _ I h) fun v s1 ⟨x,H1,I1,r1,q1⟩=>ho pins s1 σ H1 x v Q I1 r1 q1)
theorem opI{f:Value->Value->Sem Value}{C:Int->Int->Prop}{g:Int->Int->Int}
  (rule:∀ (i j:Int) (t u:Tok) (s:Shared) (Q:Value->Shared->Prop) (E:Value->Shared->Prop),C i j->Q (.int (g i j) s.toks) { s with toks:=s.toks+1 }->#[am,f (.int i t) (.int j u),Q,E,s]) :
  OpR X f (rI C fun i j=>.int (g i j)):=by
 intro pins s σ H x y v u Q I rx ry h;obtain⟨i,j,rfl,rfl,hc,q⟩:=h;obtain⟨t,rfl⟩:=rx;obtain⟨t',rfl⟩:=ry;exact rule i j t t' s _ _ hc ⟨.int (g i j),H,I.tok _,#[w,_],q⟩
theorem zlz{f:Value->Value->Sem Value}{g:Int->Int->Int}
  (rule:∀ (i j:Int) (t u:Tok) (s:Shared) (Q:Value->Shared->Prop) (E:Value->Shared->Prop),Q (.int (g i j) s.toks) { s with toks:=s.toks+1 }->#[am,f (.int i t) (.int j u),Q,E,s]) :
  OpR X f (rI0 fun i j=>.int (g i j)):=by
 intro pins s σ H x y v u Q I rx ry h;obtain⟨i,j,rfl,rfl,q⟩:=h;obtain⟨t,rfl⟩:=rx;obtain⟨t',rfl⟩:=ry;exact rule i j t t' s _ _ ⟨.int (g i j),H,I.tok _,#[w,_],q⟩
theorem zig{f:Value->Value->Sem Value}{g:Int->Int->Bool}
  (rule:∀ (i j:Int) (t u:Tok) (s:Shared) (Q:Value->Shared->Prop) (E:Value->Shared->Prop),Q (.bool (g i j)) s->#[am,f (.int i t) (.int j u),Q,E,s]) :
  OpR X f (rI0 fun i j=>.bl (g i j)):=by
 intro pins s σ H x y v u Q I rx ry h;obtain⟨i,j,rfl,rfl,q⟩:=h;obtain⟨t,rfl⟩:=rx;obtain⟨t',rfl⟩:=ry;exact rule i j t t' s _ _ ⟨.bl (g i j),H,I,rfl,q⟩
def CDiv(i j:Int):Prop:=0<j/\j<1073741824
def CMul(i j:Int):Prop:=(-(2 ^ 64)<i/\i<2 ^ 64)\/(-(2 ^ 64)<j/\j<2 ^ 64)
theorem CMul.ok(h:CMul i j):IntMulOk i j:=by
 rcases h with ⟨h1,h2⟩|⟨h1,h2⟩
 ·exact .of_left (intBits_le_64 h1 h2)
 ·exact .of_right (intBits_le_64 h1 h2)
theorem Yy:OpR X (binaryOp .Add) (rI0 fun i j=>.int (i+j)):=zlz fun _ _ _ _ _ _ _ q=>add_int q
theorem Py:OpR X (binaryOp .Sub) (rI0 fun i j=>.int (i-j)):=zlz fun _ _ _ _ _ _ _ q=>sub_int q
theorem P4:OpR X (binaryOp .Mult) (rI CMul fun i j=>.int (i*j)):=opI fun _ _ _ _ _ _ _ hc q=>mul_int q hc.ok
theorem Xj:OpR X (binaryOp .FloorDiv) (rI CDiv fun i j=>.int (i/j)):=opI fun i j _ _ _ _ _ hc q=>by
 have h1:(0:Int)<j:=hc.1;have h2:j<1073741824:=hc.2;exact floordiv_int ⋯ (by rw[Int.fdiv_eq_ediv_of_nonneg i ⋯];exact q) (.inl (PyProof.noPylong_small ⋯))
theorem Y2:OpR X (binaryOp .Mod) (rI (fun _ j=>0<j) fun i j=>.int (i%j)):=opI fun i j _ _ _ _ _ hc q=>by
 have h1:(0:Int)<j:=hc;exact mod_int' ⋯ (by rw[Int.fmod_eq_emod_of_nonneg i ⋯];exact q)
theorem unI{f:Value->Sem Value}{g:Int->Int}
  (rule:∀ (i:Int) (t:Tok) (s:Shared) (Q:Value->Shared->Prop) (E:Value->Shared->Prop),Q (.int (g i) s.toks) { s with toks:=s.toks+1 }->#[am,f (.int i t),Q,E,s]) :
  UnR X f (rU fun i=>.int (g i)):=by
 intro pins s σ H x v Q I rx h;obtain⟨i,rfl,q⟩:=h;obtain⟨t,rfl⟩:=rx;exact rule i t s _ _ ⟨.int (g i),H,I.tok _,#[w,_],q⟩
theorem Tg:UnR X (unaryOp .USub) (rU fun i=>.int (-i)):=unI fun _ _ _ _ _ q=>neg_int q
end
def zl0:V->V->Bool
 | .non,.non=>true|.non,.int _=>true|.int _,.non=>true|.non,.bl _=>true|.bl _,.non=>true|.non,.str _=>true|.str _,.non=>true
 | .int _,.int _=>true|.bl _,.bl _=>true|.str _,.str _=>true|.byt _,.byt _=>true
 | .int _,.str _=>true|.str _,.int _=>true|.bl _,.str _=>true|.str _,.bl _=>true
 | _,_=>false
inductive rEq(x:V)(y:V)(H:Hp)(Q:VK):Prop where
 | mk(_:zl0 x y=true)(_:Q (.bl (decide (x=y))) H)
inductive rNe(x:V)(y:V)(H:Hp)(Q:VK):Prop where
 | mk(_:zl0 x y=true)(_:Q (.bl (!#[g,x=y])) H)
theorem zc8:#[g,V.int i=V.int j]=(i == j):=by
 rw[zy3];simp
theorem zga:#[g,V.bl i=V.bl j]=(i == j):=by
 rw[zy3];simp
theorem zc9:#[g,V.str i=V.str j]=(i == j):=by
 rw[zy3];simp
theorem zda:#[g,V.byt i=V.byt j]=(i.toList == j.toList):=by
 rw[zy3];cases i;cases j;simp
section
variable{X:Cx}{a b c:Expr}{ta tb tc:TE}{pos:Pos}
theorem Yz(I:#[l])(q:Q (.bl k) H)(e:k=k'):EP X pins σ Q (.bool k') s:=by
 subst e;exact⟨.bl k,H,I,rfl,q⟩
theorem Xv:OpR X (compareOp .Eq) rEq:=by
 intro pins s σ H x y v u Q I rx ry h;obtain⟨hs,q⟩:=h;cases x with
 | non =>
   cases rx;cases y with
   | non=>cases ry;exact #[ai,PySem.EqNone.eq_none_none]
   | bl j=>cases ry;exact #[ai,PySem.EqNone.eq_none_bool]
   | int j=>obtain⟨t',rfl⟩:=ry;exact #[ai,PySem.EqNone.eq_none_int]
   | str j=>obtain⟨t',rfl⟩:=ry;exact #[ai,PySem.EqNone.eq_none_str]
   | _=>exact #[au]
 | bl i =>
   cases rx;cases y with
   | non=>cases ry;exact #[ai,PySem.EqNone.eq_bool_none]
   | bl j=>cases ry;exact eq_bool (Yz I q zga)
   | str j=>obtain⟨t',rfl⟩:=ry;exact #[ai,PySem.EqMixed.eq_bool_str]
   | _=>exact #[au]
 | int i =>
   obtain⟨t,rfl⟩:=rx;cases y with
   | non=>cases ry;exact #[ai,PySem.EqNone.eq_int_none]
   | int j=>obtain⟨t',rfl⟩:=ry;exact eq_int (Yz I q zc8)
   | str j=>obtain⟨t',rfl⟩:=ry;exact #[ai,PySem.EqMixed.eq_int_str]
   | _=>exact #[au]
 | str i =>
   obtain⟨t,rfl⟩:=rx;cases y with
   | non=>cases ry;exact #[ai,PySem.EqNone.eq_str_none]
   | bl j=>cases ry;exact #[ai,PySem.EqMixed.eq_str_bool]
   | int j=>obtain⟨t',rfl⟩:=ry;exact #[ai,PySem.EqMixed.eq_str_int]
   | str j=>obtain⟨t',rfl⟩:=ry;exact eq_str (Yz I q zc9)
   | _=>exact #[au]
 | byt i =>
   obtain⟨t,rfl⟩:=rx;cases y with
   | byt j=>obtain⟨t',rfl⟩:=ry;exact PySem.W.eq_bytes (Yz I q zda)
   | _=>exact #[au]
 | _=>cases y<;>exact #[au]
theorem P5:OpR X (compareOp .NotEq) rNe:=by
 intro pins s σ H x y v u Q I rx ry h;obtain⟨hs,q⟩:=h;cases x with
 | non =>
   cases rx;cases y with
   | non=>cases ry;exact #[ai,PySem.EqNone.ne_none_none]
   | bl j=>cases ry;exact #[ai,PySem.EqNone.ne_none_bool]
   | int j=>obtain⟨t',rfl⟩:=ry;exact #[ai,PySem.EqNone.ne_none_int]
   | str j=>obtain⟨t',rfl⟩:=ry;exact #[ai,PySem.EqNone.ne_none_str]
   | _=>exact #[au]
 | bl i =>
   cases rx;cases y with
   | non=>cases ry;exact #[ai,PySem.EqNone.ne_bool_none]
   | bl j=>cases ry;exact ne_bool (Yz I q (congrArg not zga))
   | str j=>obtain⟨t',rfl⟩:=ry;exact #[ai,PySem.EqMixed.ne_bool_str]
   | _=>exact #[au]
 | int i =>
   obtain⟨t,rfl⟩:=rx;cases y with
   | non=>cases ry;exact #[ai,PySem.EqNone.ne_int_none]
   | int j=>obtain⟨t',rfl⟩:=ry;exact ne_int (Yz I q (congrArg not zc8))
   | str j=>obtain⟨t',rfl⟩:=ry;exact #[ai,PySem.EqMixed.ne_int_str]
   | _=>exact #[au]
 | str i =>
   obtain⟨t,rfl⟩:=rx;cases y with
   | non=>cases ry;exact #[ai,PySem.EqNone.ne_str_none]
   | bl j=>cases ry;exact #[ai,PySem.EqMixed.ne_str_bool]
   | int j=>obtain⟨t',rfl⟩:=ry;exact #[ai,PySem.EqMixed.ne_str_int]
   | str j=>obtain⟨t',rfl⟩:=ry;exact ne_str (Yz I q (congrArg not zc9))
   | _=>exact #[au]
 | byt i =>
   obtain⟨t,rfl⟩:=rx;cases y with
   | byt j=>obtain⟨t',rfl⟩:=ry;exact PySem.W.ne_bytes (Yz I q (congrArg not zda))
   | _=>exact #[au]
 | _=>cases y<;>exact #[au]
theorem Hq:OpR X (compareOp .Lt) (rI0 fun i j=>.bl (decide (i<j))):=zig fun _ _ _ _ _ _ _ q=>lt_int q
theorem zgb:OpR X (compareOp .LtE) (rI0 fun i j=>.bl (decide (i<=j))):=zig fun _ _ _ _ _ _ _ q=>le_int q
theorem T2:OpR X (compareOp .Gt) (rI0 fun i j=>.bl (decide (j<i))):=zig fun _ _ _ _ _ _ _ q=>gt_int q
theorem zdb:OpR X (compareOp .GtE) (rI0 fun i j=>.bl (decide (j<=i))):=zig fun _ _ _ _ _ _ _ q=>ge_int q
theorem Ra:OpR X (compareOp .Is) fun x y H Q=>y=.non/\Q (.bl (decide (x=.non))) H:=by
 intro pins s σ H x y v u Q I rx ry h;obtain⟨rfl,q⟩:=h;cases ry;refine is_none_gen (Yz I q ?_);cases x<;>first
  | (cases rx;rfl)
  | (obtain⟨t,rfl⟩:=rx;rfl)
theorem Vs:OpR X (compareOp .IsNot) fun x y H Q=>y=.non/\Q (.bl (!#[g,x=.non])) H:=by
 intro pins s σ H x y v u Q I rx ry h;obtain⟨rfl,q⟩:=h;cases ry;refine isnot_none_gen (Yz I q ?_);cases x<;>first
  | (cases rx;rfl)
  | (obtain⟨t,rfl⟩:=rx;rfl)
theorem Zq(b:Expr)(h:op≠.In:=by decide)(h2:op≠.NotIn:=by decide):behindInMarks op b=false:=by
 have e1:(op == CmpOp.In)=false:=by cases op<;>first|rfl|exact absurd rfl h
 have e2:(op == CmpOp.NotIn)=false:=by cases op<;>first|rfl|exact absurd rfl h2
 cases b<;>simp[behindInMarks,e1,e2]
theorem Wa{op:CmpOp}{r:R2}(ho:OpR X (compareOp op) r)(ha:PE X a ta)(hb:PE X b tb)(hm:behindInMarks op b=false):PE X (.Compare a [op] [b] pos) (tOp r ta tb):=by
 intro pins s σ H Q I h;exact wpAny_Compare1 (binT ha hb I h fun v u s2 x y H2 I2 rx ry q=>ho pins s2 σ H2 x y v u Q I2 rx ry q) hm
def D4(t:TE):TT:=fun σ H Q=>t σ H fun x H'=>∃ k,x=.bl k/\Q k H'
theorem Zo(ho:OpR X (compareOp op) r)(ha:PE X a ta)(hb:PE X b tb)(hm:behindInMarks op b=false):PT X (.Compare a [op] [b] pos) (D4 (tOp r ta tb)):=by
 intro pins s σ H Q I h;refine wpAny_isTrue_Compare1 (thn (ha pins s σ H _ I h) fun v s1 ⟨x,H1,I1,r1,q1⟩=>thn (hb pins s1 σ H1 _ I1 q1) fun u s2 ⟨y,H2,I2,r2,q2⟩ =>
  thn (ho pins s2 σ H2 x y v u _ I2 r1 r2 q2) fun c s3 ⟨z,H3,I3,r3,k,e,q3⟩=>?_) hm
 subst e;cases r3;exact wpAny_truthy_bool ⟨H3,I3,q3⟩
def TruV(K:Frag)(x:V)(H:Hp)(k:Bool):Prop :=
 match x with
 | .non=>k=false
 | .bl b=>k=b
 | .int i=>k=(i != 0)
 | .str y=>y.length<=sizeLine/\k=((y.length:Int) != 0)
 | .byt y=>y.size<=sizeLine/\k=((y.size:Int) != 0)
 | .ref p=>(∃ xs,SqL K H p xs/\k=!xs.isEmpty)\/(∃ xs,SqT K H p xs/\k=!xs.isEmpty)\/∃ kvs,H p=#[b,.dK,kvs]/\k=!kvs.isEmpty
 | _=>False
theorem zb1(r:KV kvs vs):(!vs.isEmpty)=!kvs.isEmpty:=by
 cases r<;>rfl
theorem Hr(r:Vals xs its):(!its.toArray.isEmpty)=!xs.isEmpty:=by
 cases r<;>simp
theorem Nr:(sizeLine:Nat)<2 ^ 63:=by rw[sizeLine_eq];decide
theorem zkd:zm3 X (fun x H Q=>∃ k,TruV X.K x H k/\Q k H):=by
 intro pins s σ H x v Q I rx h;obtain⟨k,e,q⟩:=h;have hl:=Nr;have hs:sizeLine=16777216:=sizeLine_eq;cases x with
 | non =>
   cases rx;have e':k=false:=e;subst e';exact truthy_none ⟨H,I,q⟩
 | bl b =>
   cases rx;have e':k=b:=e;subst e';exact wpAny_truthy_bool ⟨H,I,q⟩
 | int i =>
   obtain⟨t,rfl⟩:=rx;have e':k=(i != 0):=e;subst e';exact PySem.P.truthy_int ⟨H,I,q⟩
 | str y =>
   obtain⟨t,rfl⟩:=rx;obtain⟨hy,e'⟩:y.length<=sizeLine/\k=((y.length:Int) != 0):=e;subst e';exact PySem.P.truthy_str ⋯ ⟨H,I.tok _,q⟩
 | byt y =>
   obtain⟨t,rfl⟩:=rx;obtain⟨hy,e'⟩:y.size<=sizeLine/\k=((y.size:Int) != 0):=e;subst e';exact PySem.W.truthy_bytes ⋯ ⟨H,I.tok _,q⟩
 | ref p =>
   cases rx;have e':(∃ xs,SqL X.K H p xs/\k=!xs.isEmpty)\/(∃ xs,SqT X.K H p xs/\k=!xs.isEmpty)\/∃ kvs,H p=#[b,.dK,kvs]/\k=!kvs.isEmpty:=e;rcases e' with ⟨xs,hx,e'⟩|⟨xs,hx,e'⟩|⟨kvs,hx,e'⟩
   ·subst e';obtain⟨its,r,pl,hz⟩:=I.list hx;have hlen:=r.length;exact wpAny_truthy_list pl.isList (by simp only[zw5];omega) ⟨H,I.tok _,by rw[Hr r];exact q⟩
   ·subst e';obtain⟨its,r,pl,hz⟩:=I.tuple hx;have hlen:=r.length;exact truthy_tuple pl (by simp only[zw5];omega) ⟨H,I.tok _,by rw[Hr r];exact q⟩
   ·subst e';obtain⟨hz,hS,vs,r,m⟩:kvs.length<=sizeLine/\(p == sysModules)=false/\∃ vs,KV kvs vs/\s.heap.DictOf (Ys X.prog X.w) p vs:=I.hok p _ hx;have hlen:kvs.length=vs.length:=Paired.length r;exact wpAny_truthy_dict hS m ⋯ ⟨H,I.tok _,by rw[zb1 r];exact q⟩
 | _=>exact(show False from e).elim
theorem zgc(ha:PE X a ta)(he:∀ whole,isTrue a X.env whole=(do let v <- whole;standAt a.pos;holding [v] (truthy v))) :
  PT X a (fun σ H Q=>ta σ H fun x H'=>∃ k,TruV X.K x H' k/\Q k H'):=by
 intro pins s σ H Q I h;exact isTrue_plain (thn (ha pins s σ H _ I h) fun v s1 ⟨x,H1,I1,r1,q1⟩=>zkd pins s1 σ H1 x v Q I1 r1 q1) (he _)
theorem T3(r:Vals [x] us):∃ u,us=[u]/\RelV x u:=by
 cases r with
 | cons r1 r2=>cases r2;exact#[q,_,r1]
theorem zgd(r:Vals [x,y] us):∃ u w',us=[u,w']/\RelV x u/\RelV y w':=by
 cases r with
 | cons r1 r2 =>
   cases r2 with
   | cons r3 r4=>cases r4;exact⟨_,_,rfl,r1,r3⟩
theorem D5(hc:X.calm=true):V5 X (.builtin "max") (fun xs H Q=>∃ i j,xs=[.int i,.int j]/\Q (.int (if j>i then j else i)) H):=by
 intro pins s σ H xs us Q I r h;obtain⟨i,j,rfl,q⟩:=h;obtain⟨u,w',rfl,⟨t,rfl⟩,⟨t',rfl⟩⟩:=zgd r;refine max_two_ints (I.ok.hd hc) fun h' tk k=>⟨_,H,I.kept k,?_,q⟩
 by_cases hj:j>i
 ·rw[if_pos hj,if_pos hj];exact#[w,_]
 ·rw[#[h,hj],#[h,hj]];exact#[w,_]
theorem D6(hc:X.calm=true):V5 X (.builtin "min") (fun xs H Q=>∃ i j,xs=[.int i,.int j]/\Q (.int (if j<i then j else i)) H):=by
 intro pins s σ H xs us Q I r h;obtain⟨i,j,rfl,q⟩:=h;obtain⟨u,w',rfl,⟨t,rfl⟩,⟨t',rfl⟩⟩:=zgd r;refine min_two_ints (I.ok.hd hc) fun h' tk k=>⟨_,H,I.kept k,?_,q⟩
 by_cases hj:j<i
 ·rw[if_pos hj,if_pos hj];exact#[w,_]
 ·rw[#[h,hj],#[h,hj]];exact#[w,_]
theorem D7:V5 X (.type "int") (fun xs H Q=>(∃ i,xs=[.int i]/\Q (.int i) H)\/∃ k,xs=[.bl k]/\Q (.int (if k then 1 else 0)) H):=by
 intro pins s σ H xs us Q I r h;rcases h with ⟨i,rfl,q⟩|⟨k,rfl,q⟩
 ·obtain⟨u,rfl,t,rfl⟩:=T3 r;exact call_int_int ⟨.int i,H,I,#[w,_],q⟩
 ·obtain⟨u,rfl,r1⟩:=T3 r;cases r1;exact call_int_bool ⟨.int (if k then 1 else 0),H,I.tok _,#[w,_],q⟩
end
structure ObjM(h:Heap)(x dx C:Addr)(mA:#[R]):Prop where
 obj:h.get? x=some (PySem.W.instObj C dx)
 ns:h.Ns1 dx mA
 ne:dx≠x
theorem zek{h:Heap}{dx:Addr}{mA:#[R]}(n:h.Ns1 dx mA):∃ od,h.get? dx=some od/\∀ name,PySem.W.lookIn name od=#[b,mA,name]:=by
 obtain⟨o,es,ep,ho,hd,hk,_,hm⟩:=n;refine⟨o,ho,fun name=>?_⟩;have e:=hm name;unfold nsFind findBy at e;rw[<- Array.find?_toList] at e;unfold PySem.W.lookIn;rw[hd];dsimp only;split
 ·rename_i y q;rw[q] at e;exact congrArg some e
 ·rename_i q;rw[q] at e;have a:es.toList.any (·.refKey)=false:=by
   rw[List.any_eq_false];intro y hy;obtain⟨z,t,hkey⟩:=hk y (Array.mem_toList_iff.mp hy);simp[DictEntry.refKey,hkey]
  have a':¬ es.toList.any (·.refKey)=true:=by rw[a];exact zxe
  rw[#[h,a']];exact congrArg some e
theorem ObjM.look(I:ObjM h x dx C mA):∃ od,PySem.W.InstAt h x (PySem.W.instObj C dx) C (some od)/\∀ name,PySem.W.lookIn name od=#[b,mA,name] :=
 let ⟨od,ho,hl⟩:=zek I.ns
 ⟨od,⟨I.obj,rfl,rfl,ho⟩,hl⟩
section
variable{prog:Program}{w:World}{A:Around}{E:Value->Shared->Prop}{s:Shared}{K:Frag}{x dx C f:Addr}{mA:#[R]}{name:Str}{v:Value}
theorem zih(X:K.In s.heap)(I:ObjM s.heap x dx C mA)(hg:PySem.W.plainGet K C name=true)(hh:PySem.W.hasDictIn K C=true)
  (ha:PySem.W.findIn K (.ref C) name=some none) (hv:mA name=some v) (hv':PySem.W.handedIn v=true) (h:Q v { s with toks:=s.toks+1 }) :
  wpAny (model prog w) A (getAttr (.ref x) name expr) Q E s:=by
 obtain⟨od,J,hl⟩:=I.look;exact PySem.W.get_value X J (PySem.W.plainGet_of hg).1 (PySem.W.findObj_own hh ha rfl (by rw[hl,hv])) hv' h
theorem zge(X:K.In s.heap)(I:ObjM s.heap x dx C mA)(hg:PySem.W.plainGet K C name=true)
  (hf:PySem.W.findIn K (.ref C) name=some #[c,f]) (ht:PySem.W.isFn K (.ref f)=true) (hv:mA name=none) (h:Q (.ref f,[.ref x]) s) :
  wpAny (model prog w) A (getMethod (.ref x) name pl) Q E s:=by
 obtain⟨od,J,hl⟩:=I.look;exact PySem.W.method_fn X J (PySem.W.plainGet_of hg).1 (PySem.W.plainGet_of hg).2 hf (beq_iff_eq.mp ht) (by show (PySem.W.lookIn name od).map (·.isSome)=some false;rw[hl,hv];rfl) h
theorem zii(X:K.In s.heap)(I:ObjM s.heap x dx C mA)
  (hs:PySem.W.findIn K (.ref C) "__setattr__"=some #[b,.builtin,"object.__setattr__"]) (hp:PySem.W.plainOver K C=true) (ht:PySem.W.takerIn K C name=some none) (hh:PySem.W.hasDictIn K C=true)
  (hw:PySem.Within mA ns) (hsz:ns.length<=sizeLine)
  (h:∀ h',ObjM h' x dx C (fun y=>if y=name then some v else mA y)->Heap.SameBut dx s.heap h'->Q () { s with heap:=h',toks:=s.toks+2 }) :
  wpAny (model prog w) A (setAttr (.ref x) name v) Q E s:=by
 obtain⟨od,J,hl⟩:=I.look;refine PySem.W.set_plain X J hs (PySem.W.osa_open (s:={ s with toks:=s.toks+1 }) (r:=none) X J hp ht fun b=>?_);obtain⟨cd,hc,hd'⟩:=PySem.W.any_some hh;have hx:s.heap.get? x=some ⟨.ref C,some dx,.plain,#[]⟩:=I.obj;refine wpAny_bind (wpAny_pure (wpAny_bind (wpAny_bind (wpAny_loadPart hx (wpAny_bind (PySem.W.Looks.here (s:={ s with toks:=s.toks+1 }) (PySem.W.looks_clsIn X hc) ?_))))));rw[hd'];refine wpAny_pure (a:=some dx) (wpAny_bind (wpAny_pure (wpAny_bind ?_)));refine wpAny_nsSet1 (s:={ s with toks:=s.toks+1 }) I.ns fun h' hn2 hs2=>?_;obtain⟨oD,esD,epD,hoD,hdD,hcD⟩:=hn2.count (PySem.Within.cons name v hw);refine wpAny_bind (wpAny_lookBehind hoD (by rw[hdD];exact pastItsLine_dict (zw4 hcD (by rw[zw9];omega))) ?_);exact wpAny_pure (h _ ⟨(hs2.2 _ (Ne.symm I.ne)).trans I.obj,hn2,I.ne⟩ hs2)
theorem zgf(X:K.In s.heap)(hm:PySem.W.makesIn K C=true)
  (hi:PySem.W.findIn K (.ref C) "__init__"=some #[c,f]) (hf:PySem.W.typeIn K (.ref f)=#[b,.type,"function"])
  (h:codeAny (model prog w) (A.under (.builtin "type.__call__" ⟨.ref C :: vs,kw⟩)) (.call (.ref f) ⟨.ref (s.heap.objs.size+1) :: vs,kw⟩) (PySem.W.InitBack (s.heap.objs.size+1) R)
   { s with heap:=(s.heap.push PySem.W.emptyDict).push (PySem.W.instObj C s.heap.objs.size) }) :
  codeAny (model prog w) A (.call (.ref C) ⟨vs,kw⟩) R s:=by
 obtain⟨hh,g,d,t,os⟩:=s;exact PySem.W.make_core (PySem.W.makes_of X hm) (PySem.W.looks_findIn X hi) (fun self=>PySem.W.bind_fn X self hf) (.inl rfl) h
end
def putF(f:Str)(v:V):#[aa]->#[aa]
 | []=>[(f,v)]
 | (g,x) :: r=>if g=f then (g,v) :: r else (g,x) :: putF f v r
theorem Jb(f g:Str)(v:V):∀ fs:#[aa],(putF f v fs).lookup g=if g=f then some v else fs.lookup g
 | []=>by
   show List.lookup g [(f,v)]=_;by_cases h:g=f
   ·have hb:(g == f)=true:=beq_iff_eq.mpr h;simp only[List.lookup,hb,if_pos h]
   ·have hb:(g == f)=false:=zxg.mpr h;simp only[List.lookup,hb,#[h,h]]
 | (k,x) :: r=>by
   have ih:=Jb f g v r;rw[show putF f v ((k,x) :: r)=(if k=f then (k,v) :: r else (k,x) :: putF f v r) from rfl];by_cases hk:k=f
   ·rw[if_pos hk];by_cases h:g=k
    ·have hb:(g == k)=true:=beq_iff_eq.mpr h;simp only[List.lookup,hb,if_pos (h.trans hk)]
    ·have hb:(g == k)=false:=zxg.mpr h;simp only[List.lookup,hb,#[h,(fun e:g=f=>h (e.trans hk.symm))]]
   ·rw[#[h,hk]];by_cases h:g=k
    ·have hb:(g == k)=true:=beq_iff_eq.mpr h;simp only[List.lookup,hb,#[h,(fun e:g=f=>hk (h.symm.trans e))]]
    ·have hb:(g == k)=false:=zxg.mpr h;simp only[List.lookup,hb];exact ih
theorem Ka(f:Str)(v:V):∀ fs:#[aa],f∈(putF f v fs).map (·.1)/\∀ g,g∈fs.map (·.1)->g∈(putF f v fs).map (·.1)
 | []=>⟨by simp[putF],fun g h=>by simp at h⟩
 | (k,x) :: r=>by
   obtain⟨i1,i2⟩:=Ka f v r;rw[show putF f v ((k,x) :: r)=(if k=f then (k,v) :: r else (k,x) :: putF f v r) from rfl];by_cases hk:k=f
   ·rw[if_pos hk];subst hk;exact⟨by simp,fun g h=>by simpa using h⟩
   ·rw[#[h,hk]];refine⟨?_,fun g h=>?_⟩
    ·rw[zw2];exact zxc _ i1
    ·rw[zw2] at h ⊢;rcases zwy.mp h with e|e
     ·exact zwy.mpr (.inl e)
     ·exact zxc _ (i2 g e)
theorem Jc(f:Str)(v:V):∀ fs:#[aa],(putF f v fs).length<=fs.length+1
 | []=>by simp[putF]
 | (k,x) :: r=>by
   have ih:=Jc f v r;rw[show putF f v ((k,x) :: r)=(if k=f then (k,v) :: r else (k,x) :: putF f v r) from rfl];by_cases hk:k=f
   ·rw[if_pos hk,zw9,zw9];omega
   ·rw[#[h,hk],zw9,zw9];omega
theorem RelO.some_of(r:RelO (some v) o):∃ u,o=some u/\RelV v u:=by
 cases o with
 | none=>exact(show False from r).elim
 | some u=>exact#[q,u,r]
theorem RelO.none_of(r:RelO none o):o=none:=by
 cases o with
 | none=>rfl
 | some u=>exact(show False from r).elim
theorem zel(r:RelV v u):PySem.W.handedIn u=true:=by
 cases v with
 | non=>cases (show u=Value.none from r);rfl
 | bl b=>cases (show u=Value.bool b from r);rfl
 | int i=>obtain⟨t,e⟩:=(show ∃ t,u=Value.int i t from r);cases e;rfl
 | str x=>obtain⟨t,e⟩:=(show ∃ t,u=Value.str x t from r);cases e;rfl
 | byt b=>obtain⟨t,e⟩:=(show ∃ t,u=Value.bytes b t from r);cases e;rfl
 | flt b=>obtain⟨t,e⟩:=(show ∃ t,u=Value.float b t from r);cases e;rfl
 | ref a=>cases (show u=Value.ref a from r);rfl
 | ty n=>cases (show u=Value.type n from r);rfl
section
variable{P:Program}{w:World}{H H':Hp}{h h':Heap}{a C dx:Addr}{fs fs':#[aa]}
theorem He(hok:HOk P w H h)(e:H a=some (.ins C dx fs)):∃ mA,ObjM h a dx C mA/\(∀ f,RelO (fs.lookup f) (mA f))/\PySem.Within mA (fs.map (·.1))/\fs.length<=1000/\H dx=#[b,.own,a]:=by
 obtain⟨d,z,ne,ob,mA,n,r,q⟩:=(show Xi P w H h a (.ins C dx fs) from hok a _ e);exact⟨mA,⟨ob,n,ne⟩,r,q,z,d⟩
end
structure Cls(K:Frag)(C:Addr):Prop where
 pg:PySem.W.plainGet K C Str.empty=true
 hd:PySem.W.hasDictIn K C=true
 po:PySem.W.plainOver K C=true
 sa:PySem.W.findIn K (.ref C) "__setattr__"=some #[b,.builtin,"object.__setattr__"]
theorem Cls.get{K:Frag}{C:Addr}(c:Cls K C)(f:Str):PySem.W.plainGet K C f=true:=c.pg
def Wf(K:Frag)(C:Addr)(f:Str):Prop:=PySem.W.findIn K (.ref C) f=some none
theorem Wf.taker{K:Frag}{C:Addr}{f:Str}(n:Wf K C f):PySem.W.takerIn K C f=some none:=by
 unfold PySem.W.takerIn;rw[show PySem.W.findIn K (.ref C) f=some none from n];rfl
structure Con(K:Frag)(C:Addr)(f:Str)(v:V)(u:Value):Prop where
 at_:PySem.W.findIn K (.ref C) f=#[b,some,u]
 rel:RelV v u
 get:PySem.W.specialIn K u "__get__"=some none
 cp:PySem.W.copiedNames.contains f=false
structure zgg(K:Frag)(C:Addr)(m:Str)(f:Addr):Prop where
 at_:PySem.W.findIn K (.ref C) m=some #[c,f]
 fn:PySem.W.isFn K (.ref f)=true
 kp:PySem.W.keepIn K (.ref f)=true
section
variable{X:Cx}{pins:#[C]}{σ:St}{H:Hp}{s:Shared}{a C dx:Addr}{fs:#[aa]}{f:Str}{v:V}{A:Around}{E:Value->Shared->Prop}
theorem zb2(I:#[l])(e:H a=some (.ins C dx fs))(c:Cls X.K C)(n:Wf X.K C f)(l:fs.lookup f=some v)
  (h:∀ u s',#[H,H,s']->RelV v u->Q u s'):#[X,X.prog,X.w,A,getAttr (.ref a) f b,Q,E,s]:=by
 obtain⟨mA,O,r,_,_,_⟩:=He I.hok e;obtain⟨u,hu,ru⟩:=RelO.some_of (v:=v) (o:=mA f) (by rw[<- l];exact r f);exact zih I.kIn O (c.get f) c.hd n hu (zel ru) (h u _ (I.tok _) ru)
theorem Hu(I:#[l])(e:H a=some (.ins C dx fs))(c:Cls X.K C)(k:zgg X.K C m g)(l:fs.lookup m=none)
  (h:Q (.ref g,[.ref a]) s):#[X,X.prog,X.w,A,getMethod (.ref a) m pl,Q,E,s]:=by
 obtain⟨mA,O,r,_,_,_⟩:=He I.hok e;have hn:mA m=none:=RelO.none_of (by rw[<- l];exact r m);exact zge I.kIn O (c.get m) k.at_ k.fn hn h
theorem zb3(I:#[l])(e:H a=some (.ins C dx fs))(c:Cls X.K C)(n:Wf X.K C f)(hl:fs.length<1000)(ry:RelV y u)
  (h:∀ s',#[H,upd H a (.ins C dx (putF f y fs)),s']->Q () s'):#[X,X.prog,X.w,A,setAttr (.ref a) f u,Q,E,s]:=by
 obtain⟨mA,O,r,wi,_,ho⟩:=He I.hok e;have hz:(fs.map (·.1)).length<=sizeLine:=by rw[zwo,sizeLine_eq];omega
 refine zii I.kIn O c.sa c.po n.taker c.hd wi hz fun h' O' sb=>h _ ?_;have hd:∃ o,h'.get? dx=#[d]:=let ⟨o,_,_,e',_⟩:=O'.ns;⟨o,e'⟩;refine I.write (x:=a) (e:=dx) (by rw[e];exact True.intro) (.inr ho) (fun b q hb z=>(sb.2 b hb).trans z) hd ?_;refine⟨by rw[Zh O.ne];exact ho,?_,O.ne,O'.obj,_,O'.ns,fun g=>?_,fun g hg=>?_⟩
 ·have:=Jc f y fs;omega
 ·show RelO ((putF f y fs).lookup g) (if g=f then some u else mA g);rw[Jb];by_cases q:g=f
  ·rw[if_pos q,if_pos q];exact ry
  ·rw[#[h,q],#[h,q]];exact r g
 ·by_cases q:g=f
  ·rw[q];exact(Ka f y fs).1
  ·refine(Ka f y fs).2 g (wi g fun z=>hg ?_);show (if g=f then some u else mA g)=none;rw[#[h,q]];exact z
theorem Inv.made(I:#[l]):Inv X pins σ (upd (upd H s.heap.objs.size (.own (s.heap.objs.size+1))) (s.heap.objs.size+1) (.ins C s.heap.objs.size []))
  { s with heap:=(s.heap.push PySem.W.emptyDict).push (PySem.W.instObj C s.heap.objs.size) }:=by
 have e1:(s.heap.push PySem.W.emptyDict).get? s.heap.objs.size=some PySem.W.emptyDict:=Heap.get?_push_size s.heap rfl;have e2:((s.heap.push PySem.W.emptyDict).push (PySem.W.instObj C s.heap.objs.size)).get? (s.heap.objs.size+1)=some (PySem.W.instObj C s.heap.objs.size):=by
  have:=Heap.get?_push_size (s.heap.push PySem.W.emptyDict) (o:=PySem.W.instObj C s.heap.objs.size) rfl
  rwa [Heap.size_push] at this
 have e3:(s.heap.push PySem.W.emptyDict).Ns s.heap.objs.size fun _=>none:=⟨PySem.W.emptyDict,#[],_,e1,rfl,fun e he=>absurd he (by simp),fun _=>rfl⟩;have I1:=I.laid (a:=s.heap.objs.size) (o:=.own (s.heap.objs.size+1)) (h':=s.heap.push PySem.W.emptyDict) (t':=s.toks) (fun b u q=>#[ac,_,q]) (zw1 _) ⟨_,e1⟩;refine I1.laid (a:=s.heap.objs.size+1) (o:=.ins C s.heap.objs.size []) (t':=s.toks) (fun b u q=>#[ac,_,q]) (Nat.le_of_eq (Heap.size_push _ _)) ?_;have ne:s.heap.objs.size≠s.heap.objs.size+1:=zxh (zyz _);refine⟨by rw[Zh ne,Ze],zxj _,ne,e2,fun _=>none,(Heap.Ns1.of_empty e3).at fun o q=>#[ac,_,q],fun _=>True.intro,fun y hy=>absurd rfl hy⟩
theorem zij(hb:attributeBase e f env (eval e env)=eval e env)
  (h:#[X,prog,w,A,eval e env,fun o s₁=>#[X,prog,w,A,getAttr o f true,Q,E,s₁],E,s]):#[X,prog,w,A,eval (.Attribute e f pos) env,Q,E,s] :=
 Attribute_any_ h (by rw[arm_eval_Attribute,hb])
end
inductive zl1(K:Frag)(f:Str)(Q:VK)(x:V)(H1:Hp):Prop where
 | mk(a)(C)(dx)(fs)(v)(_:x=.ref a)(_:H1 a=some (.ins C dx fs))(_:Cls K C)(_:Wf K C f)(_:fs.lookup f=some v)(_:Q v H1)
def zl2(K:Frag)(ta:TE)(f:Str):TE:=fun σ H Q=>ta σ H fun x H1=>zl1 K f Q x H1
inductive zl3(K:Frag)(f:Str)(D:Pp)(σ:L2.St)(y:V)(x:V)(H2:Hp):Prop where
 | mk(a)(C)(dx)(fs)(_:x=.ref a)(_:H2 a=some (.ins C dx fs))(_:Cls K C)(_:Wf K C f)(_:fs.length<1000)(_:D.nx σ (upd H2 a (.ins C dx (putF f y fs))))
def zl4(K:Frag)(ta tv:TE)(f:Str):TS:=fun D σ H=>tv σ H fun y H1=>ta σ H1 fun x H2=>zl3 K f D σ y x H2
section
variable{X:Cx}{o e value:Expr}{f:Str}{pos pos' tpos:Pos}{ta tv:TE}
theorem zke(he:PE X e ta)(hb:attributeBase e f X.env #[G,e]=#[G,e]):PE X (.Attribute e f pos) (zl2 X.K ta f):=by
 intro pins s σ H Q I h;refine zij hb (thn (he pins s σ H _ I h) fun u s1 ⟨x,H1,I1,rx,a,C,dx,fs,v,ex,ea,c,n,l,q⟩=>?_);subst ex;obtain rfl:u=Value.ref a:=rx;exact zb2 I1 ea c n l fun u' s2 I2 ru=>⟨v,H1,I2,ru,q⟩
theorem zkf(ha:PE X o ta)(hv:PE X value tv)(hs:swapsWith value (some (.Attribute o f pos')) pos.line X.env=pure false):PS X (.Assign [.Attribute o f pos'] value pos) (zl4 X.K ta tv f):=by
 intro pins s σ H D I h;refine plainObj_wpAny_Assign_Attribute (thn (hv pins s σ H _ I h) fun u s1 ⟨y,H1,I1,ry,q⟩=>thn (ha pins s1 σ H1 _ I1 q) fun ov s2 ⟨x,H2,I2,rx,a,C,dx,fs,ex,ea,c,n,l,q2⟩=>?_) hs;subst ex;obtain rfl:ov=Value.ref a:=rx;exact zb3 I2 ea c n l ry fun s3 I3=>⟨σ,_,I3,q2⟩
end
section
variable{X:Cx}{pins:#[C]}{σ:St}{H:Hp}{s:Shared}{A:Around}{E:Value->Shared->Prop}{Q:Value->Shared->Prop}{c:Value}{b:Bool}
inductive Kb(K:Frag)(H:Hp):V->Value->Prop where
 | non:Kb K H .non (.type "NoneType")
 | bl (x:Bool):Kb K H (.bl x) (.type "bool")
 | int (i:Int):Kb K H (.int i) (.type "int")
 | str (x:Str):Kb K H (.str x) (.type "str")
 | flt (x:UInt64):Kb K H (.flt x) (.type "float")
 | lst {a:Addr} {xs:#[a]} (e:#[y,H,a,xs]):Kb K H (.ref a) (.type "list")
 | frz {a:Addr} {o:Obj} {xs:#[a]} (e:H a=some (.frz o (.lst xs))):Kb K H (.ref a) (.type "list")
 | tup {a:Addr} {xs:#[a]} (e:#[N,H,a,xs]):Kb K H (.ref a) (.type "tuple")
 | dK {a:Addr} {kvs:#[U]} (e:H a=#[b,.dK,kvs]):Kb K H (.ref a) (.type "dict")
 | dT {a:Addr} {kvs:List (List Key×V)} (e:H a=#[b,.dT,kvs]):Kb K H (.ref a) (.type "dict")
 | ins {a C dx:Addr} {fs:#[aa]} (e:H a=some (.ins C dx fs)) (cl:Cls K C) (ha:PySem.W.findIn K (.ref C) "__class__"=some #[b,.builtin,"object.__class__"])
   (hn:PySem.W.specialIn K (.builtin "object.__class__") "__get__"=some #[b,.builtin,"getset_descriptor.__get__"]) (htk:PySem.W.takesIn K (.builtin "object.__class__")=some true)
   (hm:PySem.W.mroIn K C (.type "object")=some true):Kb K H (.ref a) (.ref C)
theorem zem(I:#[l])(rx:RelV x u)(ty:Kb X.K H x t)(e:PySem.W.kitOne X.K t c=some b)(h:∀ tk,Q (.bool b) { s with toks:=tk }) :
  wpAny (model X.prog X.w) A (call (.builtin "isinstance") [u,c]) Q E s:=by
 cases ty with
 | non=>cases (show u=Value.none from rx);exact #[aw,PySem.W.kitx_none,True.intro,e,h]
 | bl y=>cases (show u=Value.bool y from rx);exact #[aw,PySem.W.kitx_bool,True.intro,e,h]
 | int i=>obtain⟨t,q⟩:=(show ∃ t,u=Value.int i t from rx);cases q;exact #[aw,PySem.W.kitx_int,True.intro,e,h]
 | str y=>obtain⟨t,q⟩:=(show ∃ t,u=Value.str y t from rx);cases q;exact #[aw,PySem.W.kitx_str,True.intro,e,h]
 | flt y=>obtain⟨t,q⟩:=(show ∃ t,u=Value.float y t from rx);cases q;exact #[aw,PySem.W.kitx_float,True.intro,e,h]
 | @lst a xs ea =>
   cases (show u=Value.ref a from rx);obtain⟨_,_,n,_,h1⟩:=(show Xi X.prog X.w H s.heap a (.lst xs) from I.hok a _ ea);exact #[aw,PySem.W.kitx_list,#[L,_,h1],e,h]
 | @frz a ob xs ea =>
   cases (show u=Value.ref a from rx);obtain⟨_,_,_,n,_,h1⟩:=(show Xi X.prog X.w H s.heap a (.frz ob (.lst xs)) from I.hok a _ ea);exact #[aw,PySem.W.kitx_list,#[L,_,h1],e,h]
 | @tup a xs ea =>
   cases (show u=Value.ref a from rx);obtain⟨_,_,_,p⟩:=(show Xi X.prog X.w H s.heap a (.tup xs) from I.hok a _ ea);obtain⟨o,h1,h2,_⟩:=p;exact #[aw,PySem.W.kitx_tuple,⟨o,h1,h2⟩,e,h]
 | @dK a kvs ea =>
   cases (show u=Value.ref a from rx);obtain⟨_,_,vs,_,p⟩:=(show Xi X.prog X.w H s.heap a (.dK kvs) from I.hok a _ ea);obtain⟨o,es,ep,h1,h2,_⟩:=p;exact #[aw,PySem.W.kitx_dict,⟨o,h1,h2.1⟩,e,h]
 | @dT a kvs ea =>
   cases (show u=Value.ref a from rx);obtain⟨_,_,xs,_,o,es,ep,h1,h2,_⟩:=(show Xi X.prog X.w H s.heap a (.dT kvs) from I.hok a _ ea);exact #[aw,PySem.W.kitx_dict,⟨o,h1,h2.1⟩,e,h]
 | @ins a C dx fs ea cl ha hn htk hm =>
   cases (show u=Value.ref a from rx);obtain⟨mA,O,_⟩:=He I.hok ea;obtain⟨od,J,_⟩:=O.look;exact #[aw,PySem.W.kitx_own (cl.get _) cl.hd ha hn htk hm,J,e,h]
end
structure Vq(k:Nat)(A:Around):Prop where
 hd:A.handled=none
 dp:A.depth+3*k+5<recursionLimit
 un:A.units+16*k+200<cLine
theorem Vq.mono(r:Vq k A)(h:j<=k):Vq j A:=⟨r.hd,by have:=r.dp;omega,by have:=r.un;omega⟩
theorem Vq.deeper(r:Vq (k+1) A)(env:Env):Vq k (A.deeper env) :=
 ⟨r.hd,by have:=r.dp;show A.depth+1+3*k+5<_;omega,by have:=r.un;show A.units+3+16*k+200<_;omega⟩
theorem zb4{A:Around}{C:Addr}{us:#[Q]}{kw:List (Str×Value)}:(A.under (.builtin "type.__call__" ⟨.ref C :: us,kw⟩)).depth=A.depth+1:=by
 first|rfl|simp[Around.under,Code.weight,Code.isCreation,Code.isGuard,Code.isCaller,Code.frames,Code.isFrame,guardIds]
theorem zb5{A:Around}{C:Addr}{us:#[Q]}{kw:List (Str×Value)}:(A.under (.builtin "type.__call__" ⟨.ref C :: us,kw⟩)).units=A.units+1:=by
 first|rfl|simp[Around.under,Code.cUnits,Code.frames,Code.isFrame]
theorem Vq.make(r:Vq (k+1) A)(C:Addr)(us:#[Q])(kw:List (Str×Value)):Vq k (A.under (.builtin "type.__call__" ⟨.ref C :: us,kw⟩)) :=
 ⟨r.hd,by have:=r.dp;rw[zb4];omega,by have:=r.un;rw[zb5];omega⟩
theorem Vq.depth(r:Vq k A):A.depth<recursionLimit:=by have:=r.dp;omega
theorem Vq.units(r:Vq k A):A.units+64<cLine:=by have:=r.un;omega
def tNil:TA:=fun _ H Q=>Q [] H
def Ph(ta:TE)(tr:TA):TA:=fun σ H Q=>ta σ H fun x H1=>tr σ H1 fun xs H2=>Q (x :: xs) H2
section
variable{X:Cx}{e:Expr}{es:List Expr}{te:TE}{t:TA}{pos:Pos}
theorem Zc:PA X [] tNil:=fun _ _ _ _ H Q I h=>Calls.spliced_nil ⟨[],H,I,.nil,h⟩
theorem Za(ha:PE X e te)(hr:PA X es t)(hs:starEach (e :: es) X.env=(false,#[G,e]) :: starEach es X.env:=by rfl):PA X (e :: es) (Ph te t):=by
 intro pos pins s σ H Q I h;rw[hs];show wpAny _ _ (spliced ((false,eval e X.env) :: backTo pos (starEach es X.env))) _ _ s;refine Calls.spliced_cons (thn (ha pins s σ H _ I h) fun u s1 ⟨x,H1,I1,r1,q1⟩=>?_);exact thn (hr pos pins s1 σ H1 _ I1 q1) fun us s2 ⟨xs,H2,I2,r2,q2⟩=>⟨x :: xs,H2,I2,.cons r1 r2,q2⟩
inductive zl5(Q:VK)(xs:#[a])(H1:Hp):Prop where
 | mk(_:xs.length<=sizeLine)(_:∀ p,H1 p=none->Q (.ref p) (upd H1 p (.tup xs)))
def zm4(t:TA):TE:=fun σ H Q=>t σ H fun xs H1=>zl5 Q xs H1
inductive zl6(Q:VK)(xs:#[a])(H1:Hp):Prop where
 | mk(_:xs.length<=sizeLine)(_:∀ p,H1 p=none->Q (.ref p) (upd H1 p (.lst xs)))
def tLst(t:TA):TE:=fun σ H Q=>t σ H fun xs H1=>zl6 Q xs H1
theorem Yc{x1}(h:PA X es t):PE X (.Tuple es x1 pos) (zm4 t):=by
 intro pins s σ H Q I hq;refine wpAny_Tuple_spliced (thn (h pos pins s σ H _ I hq) fun us s1 ⟨xs,H1,I1,r,z,q⟩=>⟨by rw[<- r.length];exact z,?_⟩);have hf:H1 s1.heap.objs.size=none:=I1.hok.fresh (zw1 _);refine⟨.ref s1.heap.objs.size,upd H1 s1.heap.objs.size (.tup xs),I1.laid (t':=s1.toks) (fun b u e=>#[ac,_,e]) (zw1 _) ?_,rfl,q _ hf⟩;exact⟨z,us,r,⟨_,Heap.get?_push_size _ rfl,rfl,_,rfl⟩⟩
theorem Z6(h:PA X es t):PE X (.List es pos) (tLst t):=by
 intro pins s σ H Q I hq;refine wpAny_List_spliced (thn (h pos pins s σ H _ I hq) fun us s1 ⟨xs,H1,I1,r,z,q⟩=>⟨by rw[<- r.length];exact z,?_⟩);have hf:H1 s1.heap.objs.size=none:=I1.hok.fresh (zw1 _);refine⟨.ref s1.heap.objs.size,upd H1 s1.heap.objs.size (.lst xs),I1.laid (t':=s1.toks) (fun b u e=>#[ac,_,e]) (zw1 _) ?_,rfl,q _ hf⟩;exact⟨z,us,0,r,Heap.get?_push_size _ rfl⟩
end
abbrev Sp:=#[a]->Hp->VK->XK->Prop
abbrev CXT:=List Env->Hp->Shared->XK->Value->Shared->Prop
structure zb6(P:Program)(w:World)(K:Frag)(mg:#[R])(base:Heap)(A:Around)(outer:List Env)(s:Shared)(H:Hp):Prop where
 frames:A.frames=some outer
 mod:Mod K mg base
 bs:∀ b o,base.get? b=#[d]->#[ab]=#[d]/\H b=none
 bsz:base.objs.size<=s.heap.objs.size
 funs:s.heap.FunFrames base outer
 frf:∀ b∈frs outer,H b=none
 hok:HOk P w H s.heap
 bare:AllBare s.gens
def CE(outer:List Env)(P:Program)(w:World)(H:Hp)(s:Shared)(Q:VK)(u:Value)(s':Shared):Prop :=
 ∃ v H',s'.os=s.os/\AllBare s'.gens/\Un (frs outer) [] H H' s.heap s'.heap/\HOk P w H' s'.heap/\RelV v u/\Q v H'
def CR(CX:CXT)(outer:List Env)(P:Program)(w:World)(H:Hp)(s:Shared)(Q:VK)(E:XK)(r:Result)(s':Shared):Prop :=
 match r with
 | .ok (.ret u)=>CE outer P w H s Q u s'
 | .ok _=>False
 | .error e=>CX outer H s E e s'
structure FnOk(P:Program)(w:World)(K:Frag)(mg:#[R])(base:Heap)(CX:CXT)(k:Nat)(f:Addr)(fd:FuncData)(ps:List Str)(sp:Sp):Prop where
 len:∀ vs H Q E,sp vs H Q E->vs.length=ps.length
 run:∀ (A:Around) (outer:List Env) (s:Shared) (H:Hp) (args:Args) (us:#[Q]) (vs:#[a]) (Q:VK) (E:XK),Vq k A->zb6 P w K mg base A outer s H->BindsTo s fd args (ps.zip us)->Vals vs us->sp vs H Q E ->
  codeAny (model P w) A (.call (.ref f) args) (CR CX outer P w H s Q E) s
theorem zb6.make{P:Program}{w:World}{K:Frag}{mg:#[R]}{base:Heap}{A:Around}{outer:List Env}{s:Shared}{H:Hp}(e:zb6 P w K mg base A outer s H)(C:Addr)(us:#[Q])(kw:List (Str×Value)) :
  zb6 P w K mg base (A.under (.builtin "type.__call__" ⟨.ref C :: us,kw⟩)) outer s H:=⟨by first|exact e.frames|(simpa [Around.under,Code.envs,Code.isFrame,pushEnvs] using e.frames),e.mod,e.bs,e.bsz,e.funs,e.frf,e.hok,e.bare⟩
section
variable{X:Cx}{pins:#[C]}{σ:St}{H:Hp}{s s':Shared}
theorem Inv.env0(I:#[l]):zb6 X.prog X.w X.K X.mg X.base X.A X.stack s H :=
 ⟨I.ok.frames,I.ok.mod,I.bs,zw4 I.ok.bsz I.sz,I.stack,I.stkFree,I.hok,I.bare⟩
theorem Inv.after(I:#[l])(h:CE X.stack X.prog X.w H s Q u s'):EP X pins σ Q u s':=by
 obtain⟨v,H',os,bare,un,hok,r,q⟩:=h;obtain⟨hh,g,d,t,os'⟩:=s';obtain rfl:os'=s.os:=os;exact⟨v,H',I.call (h':=hh) (g':=g) (d':=d) (t':=t) (ch:=[]) un hok bare fun b z=>absurd z (by simp),r,q⟩
end
def Hv(sp:Sp)(dvs:#[a])(E:XK)(t:TA):TE:=fun σ H Q=>t σ H fun vs H1=>sp (vs++dvs) H1 Q E
inductive zkg(C:Addr)(m:Str)(sp:Sp)(dvs:#[a])(E:XK)(t:TA)(σ:L2.St)(Q:VK)(x:V)(H1:Hp):Prop where
 | mk(a)(dx)(fs)(_:x=.ref a)(_:H1 a=some (.ins C dx fs))(_:fs.lookup m=none)(_:t σ H1 fun vs H2=>sp (x :: (vs++dvs)) H2 Q E)
def Hw(C:Addr)(m:Str)(sp:Sp)(dvs:#[a])(E:XK)(ta:TE)(t:TA):TE:=fun σ H Q=>ta σ H fun x H1=>zkg C m sp dvs E t σ Q x H1
def zdc(C:Addr)(sp:Sp)(dvs:#[a])(E:XK)(t:TA):TE:=fun σ H Q=>t σ H fun vs H1=>∀ x dx,H1 x=none->H1 dx=none->dx≠x ->
 sp (.ref x :: (vs++dvs)) (upd (upd H1 dx (.own x)) x (.ins C dx [])) (fun v H2=>v=.non/\Q (.ref x) H2) E
def Ru(K:Frag)(fd:FuncData)(ps:List Str)(ds:#[Q]):Prop :=
 ∀ (s:Shared) (us:#[Q]),K.In s.heap->(us++ds).length=ps.length->BindsTo s fd ⟨us,[]⟩ (ps.zip (us++ds))
theorem Ru.all{K:Frag}{fd:FuncData}{ps:List Str}(h:∀ us:#[Q],us.length=ps.length->bindArgs fd ⟨us,[]⟩=pure (ps.zip us)):Ru K fd ps []:=fun s us _ hl=>by
 rw[zx4] at hl ⊢;exact .of_eq (h us hl)
def Vv(CX:CXT)(X:Cx)(E:XK):Prop:=∀ (pins:List (Addr×Obj)) (σ:St) (H:Hp) (s:Shared) (e:Value) (s':Shared),#[l]->CX X.stack H s E e s'->X.xe e s'
section
variable{X:Cx}{CX:CXT}{k:Nat}{f C:Addr}{fd:FuncData}{ps:List Str}{sp:Sp}{dvs:#[a]}{ds:#[Q]}{E:XK}{x m:Str}{p pos apos:Pos}{e o:Expr}{es:List Expr}{ta:TE}{t:TA}
theorem zb7(F:FnOk X.prog X.w X.K X.mg X.base CX k f fd ps sp)(hr:Vq k X.A)(hb:Ru X.K fd ps ds)(hd:Vals dvs ds)(hx:Vv CX X E)
  (I:#[l]) (r:Vals vs us) (h:sp (vs++dvs) H Q E):#[am,call (.ref f) us,EP X pins σ Q,X.xe,s]:=by
 have r2:Vals (vs++dvs) (us++ds):=r.append hd;have hl:(us++ds).length=ps.length:=by rw[<- r2.length];exact F.len _ _ _ _ h
 refine wpAny_call (codeAny_mono (F.run X.A X.stack s H ⟨us,[]⟩ (us++ds) (vs++dvs) Q E hr I.env0 (hb s us I.kIn hl) r2 h) fun r s' hq=>?_);cases r with
 | error e=>exact hx pins σ H s e s' I hq
 | ok fl =>
   cases fl with
   | ret u=>exact I.after hq
   | next=>exact False.elim hq
   | brk=>exact False.elim hq
   | cont=>exact False.elim hq
theorem zik(F:FnOk X.prog X.w X.K X.mg X.base CX k f fd ps sp)(hr:Vq k X.A)(hg:Gl X x)(hm:X.mg x=#[b,.ref,f])(hk:PySem.W.keepIn X.K (.ref f)=true)(hb:Ru X.K fd ps ds)(hd:Vals dvs ds)(hx:Vv CX X E)
  (ha:PA X (e :: es) t) (hdb:(x == ("__debug__":Str))=false:=by decide) (he:starEach (e :: es) X.env=(false,#[G,e]) :: starEach es X.env:=by rfl) (hpl:#[aA]=false:=by rfl) :
  PE X (.Call (.Name x p) (e :: es) [] pos) (Hv sp dvs E t):=by
 intro pins s σ H Q I h;refine wpAny_Call_Name_kw (My I hg hm ?_ hdb);refine PySem.W.callWith_K (h₀:=X.base) I.ok.mod.kin hk (thn (ha pos pins s σ H _ I h) fun us s1 ⟨vs,H1,I1,r,q⟩=>⟨I1.kIn,?_⟩) he hpl;exact zb7 F hr hb hd hx I1 r q
theorem zil(he:PE X o ta)(c:Cls X.K C)(hm:zgg X.K C m f)(F:FnOk X.prog X.w X.K X.mg X.base CX k f fd ps sp)(hr:Vq k X.A)(hb:Ru X.K fd ps ds)(hd:Vals dvs ds)(hx:Vv CX X E)(ha:PA X (e :: es) t)
  (hst:starEach (e :: es) X.env=(false,#[G,e]) :: starEach es X.env:=by rfl) (hpl:#[aA]=false:=by rfl)
  (ht:#[G,.Call (.Attribute o m apos) (e :: es) [] pos]=(do
   let ov <- #[G,o]
   standAt apos.atName
   let (f,first) <- holding [ov] (getMethod ov m pl)
   callWith pos f first (backTo pos (starEach (e :: es) X.env)) (backToKw pos (keywordEach [] X.env))):=by rfl) :
  PE X (.Call (.Attribute o m apos) (e :: es) [] pos) (Hw C m sp dvs E ta t):=by
 intro pins s σ H Q I h;refine PySem.W.methodCall_KW (pl:=pl) (thn (he pins s σ H _ I h) fun u s1 ⟨x,H1,I1,rx,a,dx,fs,ex,ea,l,q⟩=>?_) ht;subst ex;obtain rfl:u=Value.ref a:=rx;refine Hu I1 ea c hm l ?_;refine PySem.W.callWith_K (first:=[.ref a]) (h₀:=X.base) I.ok.mod.kin hm.kp (thn (ha pos pins s1 σ H1 _ I1 q) fun us s2 ⟨vs,H2,I2,r,q2⟩=>⟨I2.kIn,?_⟩) hst hpl;exact zb7 (us:=.ref a :: us) (vs:=.ref a :: vs) F hr hb hd hx I2 (.cons rfl r) q2
theorem zgh(he:PE X o ta)(c:Cls X.K C)(hm:zgg X.K C m f)(F:FnOk X.prog X.w X.K X.mg X.base CX k f fd ps sp)(hr:Vq k X.A)(hb:Ru X.K fd ps ds)(hd:Vals dvs ds)(hx:Vv CX X E)
  (ht:#[G,.Call (.Attribute o m apos) [] [] pos]=(do
   let ov <- #[G,o]
   standAt apos.atName
   let (f,first) <- holding [ov] (getMethod ov m pl)
   callWith pos f first (backTo pos (starEach [] X.env)) (backToKw pos (keywordEach [] X.env))):=by rfl) :
  PE X (.Call (.Attribute o m apos) [] [] pos) (Hw C m sp dvs E ta tNil):=by
 intro pins s σ H Q I h;refine PySem.W.methodCall_KW (pl:=pl) (thn (he pins s σ H _ I h) fun u s1 ⟨x,H1,I1,rx,a,dx,fs,ex,ea,l,q⟩=>?_) ht;subst ex;obtain rfl:u=Value.ref a:=rx;refine Hu I1 ea c hm l ?_;exact PySem.W.callWith_K0 (first:=[.ref a]) I1.kIn hm.kp (zb7 (us:=[.ref a]) (vs:=[.ref a]) F hr hb hd hx I1 (.cons rfl .nil) q)
structure Mk(K:Frag)(C f:Addr):Prop where
 makes:PySem.W.makesIn K C=true
 init:PySem.W.findIn K (.ref C) "__init__"=some #[c,f]
 fn:PySem.W.isFn K (.ref f)=true
 kp:PySem.W.keepIn K (.ref C)=true
theorem Aw(M:Mk X.K C f)(F:FnOk X.prog X.w X.K X.mg X.base CX k f fd ps sp)(hr:Vq (k+1) X.A)(hb:Ru X.K fd ps ds)(hd:Vals dvs ds)
  (hx:Vv CX X E) (I:#[l]) (r:Vals vs us)
  (h:∀ x dx,H x=none->H dx=none->dx≠x->sp (.ref x :: (vs++dvs)) (upd (upd H dx (.own x)) x (.ins C dx [])) (fun v H2=>v=.non/\Q (.ref x) H2) E) :
  wpAny (model X.prog X.w) X.A (call (.ref C) us) (EP X pins σ Q) X.xe s:=by
 have hq:=h (s.heap.objs.size+1) s.heap.objs.size (I.hok.fresh (Nat.le_succ _)) (I.hok.fresh (zw1 _)) (zxh (zyz _));have I2:=Inv.made (C:=C) I;have r2:Vals (V.ref (s.heap.objs.size+1) :: (vs++dvs)) (Value.ref (s.heap.objs.size+1) :: (us++ds)):=.cons rfl (r.append hd);have hl:(Value.ref (s.heap.objs.size+1) :: us++ds).length=ps.length:=by
  have e:=r2.length;rw[F.len _ _ _ _ hq] at e;exact e.symm
 refine wpAny_call (zgf (f:=f) I.kIn M.makes M.init (beq_iff_eq.mp M.fn) (codeAny_mono (F.run _ X.stack _ _ ⟨Value.ref (s.heap.objs.size+1) :: us,[]⟩ (Value.ref (s.heap.objs.size+1) :: (us++ds)) _ _ E (hr.make C us [])
  (I2.env0.make C us []) (hb _ (Value.ref (s.heap.objs.size+1) :: us) I2.kIn hl) r2 hq) fun r s' hq'=>?_))
 cases r with
 | error e=>exact hx pins σ _ _ e s' I2 hq'
 | ok fl =>
   cases fl with
   | ret u =>
     obtain⟨v,H',I3,rv,ev,q3⟩:=I2.after hq';subst ev;exact⟨rv,⟨V.ref (s.heap.objs.size+1),H',I3,rfl,q3⟩⟩
   | next=>exact False.elim hq'
   | brk=>exact False.elim hq'
   | cont=>exact False.elim hq'
theorem zim(M:Mk X.K C f)(F:FnOk X.prog X.w X.K X.mg X.base CX k f fd ps sp)(hr:Vq (k+1) X.A)(hg:Gl X x)(hm:X.mg x=#[b,.ref,C])(hb:Ru X.K fd ps ds)(hd:Vals dvs ds)(hx:Vv CX X E)
  (ha:PA X (e :: es) t) (hdb:(x == ("__debug__":Str))=false:=by decide) (he:starEach (e :: es) X.env=(false,#[G,e]) :: starEach es X.env:=by rfl) (hpl:#[aA]=false:=by rfl) :
  PE X (.Call (.Name x p) (e :: es) [] pos) (zdc C sp dvs E t):=by
 intro pins s σ H Q I h;refine wpAny_Call_Name_kw (My I hg hm ?_ hdb);refine PySem.W.callWith_K (h₀:=X.base) I.ok.mod.kin M.kp (thn (ha pos pins s σ H _ I h) fun us s1 ⟨vs,H1,I1,r,q⟩=>⟨I1.kIn,?_⟩) he hpl;exact Aw M F hr hb hd hx I1 r q
theorem zgi(M:Mk X.K C f)(F:FnOk X.prog X.w X.K X.mg X.base CX k f fd ps sp)(hr:Vq (k+1) X.A)(hg:Gl X x)(hm:X.mg x=#[b,.ref,C])(hb:Ru X.K fd ps ds)(hd:Vals dvs ds)(hx:Vv CX X E)
  (hdb:(x == ("__debug__":Str))=false:=by decide):PE X (.Call (.Name x p) [] [] pos) (zdc C sp dvs E tNil):=by
 intro pins s σ H Q I h;refine wpAny_Call_Name_kw (My I hg hm ?_ hdb);exact PySem.W.callWith_K0 I.kIn M.kp (Aw (us:=[]) M F hr hb hd hx I .nil h)
end
def PK(X:Cx)(kws:List Keyword)(t:TA):Prop :=
 ∀ (pos:Pos) (pins:#[C]) (s:Shared) (σ:St) (H:Hp) (Q:#[a]->Hp->Prop),#[H,H,s]->t σ H Q->#[X,X.prog,X.w,X.A,evalAll ((backToKw pos (keywordEach kws X.env)).map (·.2)),AP X pins σ Q,X.xe,s]
section
variable{X:Cx}{CX:CXT}{k:Nat}{f C:Addr}{fd:FuncData}{ps ks:List Str}{sp:Sp}{E:XK}{x m:Str}{p pos apos kpos:Pos}{e o:Expr}{es:List Expr}{kws:List Keyword}{te ta:TE}{t tk:TA}{nm:Option Str}
theorem zkh:PK X [] tNil:=fun _ _ _ _ H Q I h=>wpAny_evalAll_nil ⟨[],H,I,.nil,h⟩
theorem zin(ha:PE X e te)(hr:PK X kws t):PK X (⟨nm,e,kpos⟩ :: kws) (Ph te t):=by
 intro pos pins s σ H Q I h;show wpAny _ _ (evalAll ((do let v <- eval e X.env;standAt pos;pure v) :: (backToKw pos (keywordEach kws X.env)).map (·.2))) _ _ s;refine wpAny_evalAll_cons (wpAny_bind (thn (ha pins s σ H _ I h) fun u s1 ⟨x,H1,I1,r1,q1⟩=>wpAny_bind (wpAny_standAt (wpAny_pure ?_))));exact thn (hr pos pins s1 σ H1 _ I1 q1) fun us s2 ⟨xs,H2,I2,r2,q2⟩=>⟨x :: xs,H2,I2,.cons r1 r2,q2⟩
structure zm5(K:Frag)(fd:FuncData)(ps ks:List Str)(g:#[Q]->#[Q]->#[Q])(gV:#[a]->#[a]->#[a]):Prop where
 to:∀ (s:Shared) (us ws:List Value),K.In s.heap->(g us ws).length=ps.length->BindsTo s fd ⟨us,ks.zip ws⟩ (ps.zip (g us ws))
 rel:∀ {vs:List V} {us:List Value} {zs:List V} {ws:List Value},Vals vs us->Vals zs ws->Vals (gV vs zs) (g us ws)
variable{g:#[Q]->#[Q]->#[Q]}{gV:#[a]->#[a]->#[a]}
end
structure Zm(N P:List Str)(sc:Scope):Prop where
 kind:sc.kind=.function
 co:sc.isCoroutine=false
 gen:sc.isGenerator=false
 nd:N.Nodup
 pre:N.take P.length=P
 par:∀ x∈P,sc.names.lookup x=some .local\/sc.names.lookup x=some .cell
 nofree:∀ y∈sc.names,y.2≠.free
theorem D8{kindOf:Str->Option NameKind}{x:Str}:∀ {binds:List (Str×Value)} {m:Str->Option Value},(∀ v,(x,v)∉binds)->bindL kindOf binds m x=m x
 | [],_,_=>rfl
 | (n,v) :: r,m,h=>by
   unfold bindL;rw[D8 fun w hw=>h w (zxc _ hw)];split
   ·have:x≠n:=by rintro rfl;exact h v zxk
    simp[this]
   ·rfl
theorem D9{kindOf:Str->Option NameKind}{x:Str}:∀ {binds:List (Str×Value)} {m:Str->Option Value},(∀ v,(x,v)∉binds)->bindC kindOf binds m x=m x
 | [],_,_=>rfl
 | (n,v) :: r,m,h=>by
   unfold bindC;rw[D9 fun w hw=>h w (zxc _ hw)];split
   ·rfl
   ·have:x≠n:=by rintro rfl;exact h v zxk
    simp[this]
theorem Ca{kindOf:Str->Option NameKind}{x:Str}{v:Value}:∀ {P:List Str} {vs:#[Q]} {i:Nat} {m:#[R]},P.Nodup->P[i]?=some x->vs[i]?=some v->kindOf x=some .local ->
  bindL kindOf (P.zip vs) m x=some v
 | [],_,_,_,_,h,_,_=>by simp at h
 | _ :: _,[],_,_,_,_,h,_=>by simp at h
 | p :: P,w :: vs,0,m,nd,h1,h2,hk=>by
   simp at h1 h2;subst h1;subst h2;show bindL kindOf ((p,w) :: P.zip vs) m p=_;unfold bindL;rw[D8 fun v hv=>(zxi.mp nd).1 (List.of_mem_zip hv).1,if_pos hk];simp
 | p :: P,w :: vs,i+1,m,nd,h1,h2,hk=>by
   show bindL kindOf ((p,w) :: P.zip vs) m x=_;unfold bindL;exact Ca (i:=i) (zxi.mp nd).2 (by simpa using h1) (by simpa using h2) hk
theorem Cb{kindOf:Str->Option NameKind}{x:Str}{v:Value}:∀ {P:List Str} {vs:#[Q]} {i:Nat} {m:#[R]},P.Nodup->P[i]?=some x->vs[i]?=some v->kindOf x≠some .local ->
  bindC kindOf (P.zip vs) m x=some v
 | [],_,_,_,_,h,_,_=>by simp at h
 | _ :: _,[],_,_,_,_,h,_=>by simp at h
 | p :: P,w :: vs,0,m,nd,h1,h2,hk=>by
   simp at h1 h2;subst h1;subst h2;show bindC kindOf ((p,w) :: P.zip vs) m p=_;unfold bindC;rw[D9 fun v hv=>(zxi.mp nd).1 (List.of_mem_zip hv).1,#[h,hk]];simp
 | p :: P,w :: vs,i+1,m,nd,h1,h2,hk=>by
   show bindC kindOf ((p,w) :: P.zip vs) m x=_;unfold bindC;exact Cb (i:=i) (zxi.mp nd).2 (by simpa using h1) (by simpa using h2) hk
def M0(N:List Str)(vs:#[a]):St:=vs.map some++List.replicate (N.length-vs.length) none
def cxOf(CX:CXT)(P:Program)(w:World)(K:Frag)(mg:#[R])(base:Heap)(N:List Str)(qual:Str)(scope:Scope)(f:Addr)(cd:Value)(A:Around)(outer:List Env)(s:Shared)(H:Hp)(E:XK):Cx where
 prog:=P
 w:=w
 K:=K
 mg:=mg
 base:=base
 A:=A.deeper (envOfC qual scope s.heap.objs.size f cd)
 N:=N
 s₀:=s
 H₀:=H
 env:=envOfC qual scope s.heap.objs.size f cd
 outer:=outer
 stack:=envOfC qual scope s.heap.objs.size f cd :: outer
 ex:=[]
 calm:=true
 fn:=fun _=>true
 pn:=[]
 xe:=fun e s'=>#[X,P,w,A.deeper (envOfC qual scope s.heap.objs.size f cd),leaving (envOfC qual scope s.heap.objs.size f cd) e,fun _ s''=>CX outer H s E e s'',fun e' s''=>CX outer H s E e' s'',s']
theorem Ax{sc:Scope}{n:Nat}{x:Str}(h:sc.names.lookup x=some .cell):∃ c,(cellsFrom n sc.names []).lookup x=some c:=by
 have q:=PySem.W.cellsFrom_some sc.names n [] (.inl h);exact zyd.mp q
theorem zen{CX:CXT}{P:Program}{w:World}{K:Frag}{mg:#[R]}{base:Heap}{N ps:List Str}{qual:Str}{scope:Scope}{f:Addr}{cd:Value}{A:Around}{outer:List Env}{s s1:Shared}{H:Hp}{E:XK}{us:#[Q]}{vs:#[a]}
  (S:Zm N ps scope) (hd:A.handled=none) (e0:zb6 P w K mg base A outer s H) (hl:vs.length=ps.length) (r:Vals vs us)
  (x:InCallC s s.heap.objs.size (bindL (envOfC qual scope s.heap.objs.size f cd).kindOf (ps.zip us) fun _=>none) (cellsFrom (s.heap.objs.size+1) scope.names []) (bindC (envOfC qual scope s.heap.objs.size f cd).kindOf (ps.zip us) fun _=>none) s1) :
  Inv (cxOf CX P w K mg base N qual scope f cd A outer s H E) [] (M0 N vs) H s1:=by
 have hpl:ps.length<=N.length:=by have:=congrArg List.length S.pre;rw[zy0] at this;omega
 obtain⟨h1,tk,rfl,hk⟩:=x.done;have noA:∀ b:Addr,b∉(cxOf CX P w K mg base N qual scope f cd A outer s H E).ex:=fun b z=>absurd (show b∈([]:List Addr) from z) (by simp);refine⟨⟨e0.mod,S.kind,rfl,rfl,zw1 _,fun y z c h1 h2=>?_,fun y hy=>?_,fun y c _ h=>?_,fun _=>hd,Around.frames_deeper e0.frames,.inr ⟨rfl,rfl⟩,fun b z=>absurd z (noA b),e0.bs,e0.bsz,fun b _ _=>noA b,fun b z=>absurd z (noA b),e0.funs,e0.frf⟩,
  rfl,e0.bare,Un.kept hk,⟨_,x.toInCall.ns,fun i y v h1 h2 h3=>?_⟩,fun y c h=>⟨_,x.cell y c h⟩,e0.hok.fresh (zw1 _),fun y c h=>?_,fun p hp=>absurd (show p∈([]:List (Addr×Obj)) from hp) (by simp),e0.hok.kept hk,?_⟩
 ·exact name_of_addr x.apart (PySem.mem_of_lookup h1) (PySem.mem_of_lookup h2)
 ·have hy:scope.names.lookup y=some .cell\/scope.names.lookup y=some .free:=hy;rcases hy with hy|hy
  ·exact Ax hy
  ·exact absurd rfl (S.nofree _ (PySem.mem_of_lookup hy))
 ·exact zy6 (x.above y c (PySem.mem_of_lookup h))
 ·have h2:=h2.resolve_right (W6 _);have hi:i<vs.length:=by
   unfold M0 at h2;by_cases hi:i<vs.length
   ·exact hi
   ·rw[zxl (by simpa using hi)] at h2;rw[List.getElem?_replicate] at h2;split at h2<;>cases h2
  have ha:vs[i]?=some v:=by
   unfold M0 at h2;rw[zxm (by simpa using hi),zws] at h2;cases e:vs[i]? with
   | none=>rw[e] at h2;cases h2
   | some a=>rw[e] at h2;cases h2;rfl
  obtain⟨u,hu,rv⟩:=r.get ha;have hp:ps[i]?=some y:=by
   rw[<- S.pre,List.getElem?_take_of_lt ⋯];exact h1
  have ndP:ps.Nodup:=by rw[<- S.pre];exact S.nd.sublist (List.take_sublist _ _)
  refine⟨u,rv,?_⟩;rcases S.par y (zww hp) with k|k
  ·exact #[M,k,Ca ndP hp hu k]
  ·obtain⟨c,e⟩:=Ax (n:=s.heap.objs.size+1) k;refine .inr ⟨.inl k,c,e,?_⟩;have q:=x.cell y c e;rw[Cb ndP hp hu (by show scope.names.lookup y≠_;rw[k];decide)] at q;exact q
 ·exact e0.hok.fresh (zy6 (x.above y c (PySem.mem_of_lookup h)))
 ·unfold M0;show _=N.length;rw[zwr,zwo,List.length_replicate];omega
theorem zl7{CX:CXT}{P:Program}{w:World}{K:Frag}{mg:#[R]}{base:Heap}{k:Nat}{f:Addr}{name qual:Str}{params:Arguments}{body:List Stmt}{scope:Scope}{dV kV doc pm cdv ct oc:Value}{an od:Option Addr}
  {osl:Array (Option Value)} {N ps:List Str} {sp:Sp} (lk:K.lookup f=some ⟨oc,od,.func (PySem.W.fnOf name qual params body scope dV kV doc pm an cdv ct),osl⟩) (hcd:PySem.W.codeIn K cdv qual=true) (S:Zm N ps scope)
  (len:∀ vs H Q E,sp vs H Q E->vs.length=ps.length)
  (hbody:∀ (A:Around) (outer:List Env) (s:Shared) (H:Hp) (vs:#[a]) (Q:VK) (E:XK),Vq k (A.deeper (envOfC qual scope s.heap.objs.size f cdv))->sp vs H Q E ->
   ∃ t,PSs (cxOf CX P w K mg base N qual scope f cdv A outer s H E) body t/\t { nx:=fun _ H'=>Q .non H',rt:=Q } (M0 N vs) H) :
  FnOk P w K mg base CX (k+1) f (PySem.W.fnOf name qual params body scope dV kV doc pm an cdv ct) ps sp:=by
 refine⟨len,fun A outer s H args us vs Q E hr e0 hb r hsp=>?_⟩;have hl:=len _ _ _ _ hsp;have KX:K.In s.heap:=e0.mod.kin.keeps fun b o e=>(e0.bs b o e).1;have lim:s.heap.NoLimit:=e0.mod.nolimit.keeps fun b o e=>(e0.bs b o e).1;have hkind:∀ y∈ps.zip us,scope.names.lookup y.1=some .local\/(scope.names.lookup y.1=some .cell/\((cellsFrom (s.heap.objs.size+1) scope.names []).lookup y.1).isSome=true):=fun ⟨n,v⟩ hy=>by
  rcases S.par n (List.of_mem_zip hy).1 with q|q
  ·exact .inl q
  ·exact .inr ⟨q,PySem.W.cellsFrom_some _ _ _ (.inl q)⟩
 refine codeAny_call_function hr.depth (KX _ _ lk) rfl S.co S.gen rfl (PySem.W.codeRec_of KX hcd) (hb _ _ _ _ ?_);refine wpAny_newFunctionEnv_cells S.kind hkind fun env he s1 x=>?_;subst he;refine⟨lim.keeps x.toInCall.keep,codeAny_func ?_⟩;obtain⟨t,ht,hq⟩:=hbody A outer s H vs Q E (hr.deeper _) hsp;have I:Inv (cxOf CX P w K mg base N qual scope f cdv A outer s H E) [] (M0 N vs) H s1:=zen S hr.hd e0 hl r x;refine wpAny_mono (ht [] s1 (M0 N vs) H _ I hq) (fun fl s' hs=>?_) fun e s' hs=>hs;have fin:∀ {σ':St} {H':Hp} {v:V} {u:Value},Inv (cxOf CX P w K mg base N qual scope f cdv A outer s H E) [] σ' H' s'->RelV v u->Q v H'->CE outer P w H s Q u s' :=
  fun {σ' H' v u} J rv q=>⟨v,H',J.os,J.bare,J.base,J.hok,rv,q⟩
 cases fl with
 | ret u =>
   obtain⟨v,σ',H',J,rv,q⟩:=hs;exact fin J rv q
 | next =>
   obtain⟨σ',H',J,q⟩:=hs;exact fin (v:=V.non) (u:=Value.none) J rfl q
 | brk =>
   obtain⟨_,_,_,q⟩:=hs;exact False.elim q
 | cont =>
   obtain⟨_,_,_,q⟩:=hs;exact False.elim q
section
variable{X:Cx}{x:Str}{p pos:Pos}{e:Expr}{es:List Expr}{t:TA}{id T:String}{r:#[a]->Hp->VK->Prop}
def tCB(r:#[a]->Hp->VK->Prop)(t:TA):TE:=fun σ H Q=>t σ H fun vs H1=>r vs H1 Q
theorem Zk(hc:V5 X (.builtin id) r)(hg:Gl X x)(hm:X.mg x=none)(hv:bootBuiltins x=#[b,.builtin,id])(ha:PA X (e :: es) t)(hn:x≠"__name__":=by decide)(hdb:(x == ("__debug__":Str))=false:=by decide)
  (he:starEach (e :: es) X.env=(false,#[G,e]) :: starEach es X.env:=by rfl) (hpl:#[aA]=false:=by rfl):PE X (.Call (.Name x p) (e :: es) [] pos) (tCB r t):=by
 intro pins s σ H Q I h;refine wpAny_Call_Name_kw (Px I hg hm hv ?_ hn hdb);exact PyProof.Rows.callWith_builtin1 (thn (ha pos pins s σ H _ I h) fun us s1 ⟨vs,H1,I1,r1,q1⟩=>hc pins s1 σ H1 vs us Q I1 r1 q1) he hpl
theorem Yx(hc:V5 X (.type T) r)(hg:Gl X x)(hm:X.mg x=none)(hv:bootBuiltins x=#[b,.type,T])(ha:PA X (e :: es) t)(hn:x≠"__name__":=by decide)(hdb:(x == ("__debug__":Str))=false:=by decide)
  (he:starEach (e :: es) X.env=(false,#[G,e]) :: starEach es X.env:=by rfl) (hpl:#[aA]=false:=by rfl):PE X (.Call (.Name x p) (e :: es) [] pos) (tCB r t):=by
 intro pins s σ H Q I h;refine wpAny_Call_Name_kw (Px I hg hm hv ?_ hn hdb);exact PyProof.Rows.callWith_type1 (thn (ha pos pins s σ H _ I h) fun us s1 ⟨vs,H1,I1,r1,q1⟩=>hc pins s1 σ H1 vs us Q I1 r1 q1) he hpl
end
section
variable{κ:Type}[DecidableEq κ]
def valV(kvs:List (κ×V))(k:κ):Option V:=(kvs.find? fun kv=>decide (kv.1=k)).map (·.2)
def putK(kvs:List (κ×V))(k:κ)(v:V):List (κ×V) :=
 if (kvs.any fun kv=>decide (kv.1=k))=true then kvs.map (fun kv=>if kv.1=k then (kv.1,v) else kv) else kvs++[(k,v)]
def Wo(kvs:List (κ×V))(k:κ):List (κ×V):=kvs.filter fun kv=>#[g,kv.1≠k]
theorem zgj:valV ([]:List (κ×V)) k=none:=rfl
theorem Xl{p:κ×V}{r:List (κ×V)}{k:κ}(e:p.1=k):valV (p :: r) k=some p.2:=by simp[valV,zyv,e]
theorem Y7{p:κ×V}{r:List (κ×V)}{k:κ}(e:¬ p.1=k):valV (p :: r) k=valV r k:=by simp[valV,zyv,e]
theorem Rv(k:κ):∀ kvs:List (κ×V),(kvs.any fun kv=>#[g,kv.1=k])=(valV kvs k).isSome
 | []=>rfl
 | p :: r=>by
   rw[zyx];by_cases e:p.1=k
   ·simp only[Xl e,zwu e,Bool.true_or,Option.isSome_some]
   ·rw[Y7 e,zwz e,Bool.false_or];exact Rv k r
theorem Ay(k j:κ)(y:V):∀ kvs:List (κ×V),valV (kvs.map fun kv=>if kv.1=k then (kv.1,y) else kv) j=(valV kvs j).map fun x=>if j=k then y else x
 | []=>rfl
 | p :: r=>by
   have ih:=Ay k j y r;rw[zw2];by_cases h:p.1=k
   ·rw[if_pos h];by_cases e:p.1=j
    ·rw[Xl (p:=(p.1,y)) e,Xl e,zxv,if_pos (e.symm.trans h)]
    ·rw[Y7 (p:=(p.1,y)) e,Y7 e,ih]
   ·rw[#[h,h]];by_cases e:p.1=j
    ·rw[Xl (p:=p) e,Xl e,zxv,#[h,fun z=>h (e.trans z)]]
    ·rw[Y7 (p:=p) e,Y7 e,ih]
theorem Cc(k j:κ)(y:V):∀ kvs:List (κ×V),valV kvs k=none->valV (kvs++[(k,y)]) j=if j=k then some y else valV kvs j
 | [],_=>by
   by_cases e:k=j
   ·rw[if_pos e.symm];exact Xl (p:=(k,y)) e
   ·rw[#[h,fun z=>e z.symm]];exact Y7 (p:=(k,y)) e
 | p :: r,hn=>by
   rw[List.cons_append];have hk:¬ p.1=k:=fun z=>by rw[Xl z] at hn;cases hn
   rw[Y7 hk] at hn;have ih:=Cc k j y r hn;by_cases e:p.1=j
   ·rw[Xl e,Xl e,#[h,fun z=>hk (e.trans z)]]
   ·rw[Y7 e,Y7 e,ih]
theorem Vr(kvs:List (κ×V))(k j:κ)(y:V):valV (putK kvs k y) j=if j=k then some y else valV kvs j:=by
 unfold putK;by_cases a:(kvs.any fun kv=>#[g,kv.1=k])=true
 ·rw[if_pos a,Ay];rw[Rv] at a;by_cases e:j=k
  ·obtain⟨x,hx⟩:=zyd.mp a;rw[if_pos e,e,hx,zxv,#[P]]
  ·rw[#[h,e]];cases valV kvs j with
   | none=>rfl
   | some x=>rw[zxv,#[h,e]]
 ·rw[#[h,a]];refine Cc k j y kvs ?_;rw[Rv] at a;cases q:valV kvs k with
  | none=>rfl
  | some x=>rw[q] at a;exact(a rfl).elim
theorem Xm(kvs:List (κ×V))(k:κ)(v:V):(putK kvs k v).length<=kvs.length+1:=by
 unfold putK;split
 ·rw[zwo];omega
 ·rw[zwr,zw9,zy4];omega
theorem Az{kvs:List (κ×V)}{k:κ}(v:V)(h:valV kvs k=none):putK kvs k v=kvs++[(k,v)]:=by
 unfold putK;rw[Rv,h];exact if_neg ⋯
theorem RelO.isSome_eq(r:RelO o u):o.isSome=u.isSome:=by
 cases o with
 | none=>cases u with
   | none=>rfl
   | some _=>exact(show False from r).elim
 | some _=>cases u with
   | none=>exact(show False from r).elim
   | some _=>rfl
theorem RelO.getD(r:RelO o u)(rd:RelV d d'):RelV (o.getD d) (u.getD d'):=by
 cases o with
 | none=>cases u with
   | none=>exact rd
   | some _=>exact(show False from r).elim
 | some _=>cases u with
   | none=>exact(show False from r).elim
   | some _=>exact r
theorem KV.val{kvs:List (κ×V)}{vs:List (κ×Value)}(r:KV kvs vs)(k:κ):RelO (valV kvs k) (valueAt vs k):=by
 unfold KV at r
 induction r with
 | nil=>exact True.intro
 | @cons p q ps qs h t ih =>
   obtain⟨h1,h2⟩:=h;by_cases e:p.1=k
   ·have e':q.1=k:=h1.symm.trans e;have b:valueAt (q :: qs) k=some q.2:=by simp[valueAt,zyv,e']
    rw[Xl e,b];exact h2
   ·have e':¬ q.1=k:=fun z=>e (h1.trans z);have b:valueAt (q :: qs) k=valueAt qs k:=by simp[valueAt,zyv,e']
    rw[Y7 e,b];exact ih
theorem KV.any(r:KV kvs vs)(k:κ):(kvs.any fun kv=>#[g,kv.1=k])=vs.any fun kv=>#[g,kv.1=k]:=by
 unfold KV at r
 induction r with
 | nil=>rfl
 | cons h t ih=>rw[zyx,zyx,ih,h.1]
theorem KV.repl(r:KV kvs vs)(k:κ)(ry:RelV y u) :
  KV (kvs.map fun kv=>if kv.1=k then (kv.1,y) else kv) (vs.map fun kv=>if kv.1=k then (kv.1,u) else kv):=by
 unfold KV at r ⊢
 induction r with
 | nil=>exact .nil
 | @cons p q ps qs h t ih =>
   rw[zw2,zw2];refine .cons ?_ ih;obtain⟨h1,h2⟩:=h;by_cases e:p.1=k
   ·rw[if_pos e,if_pos (h1.symm.trans e)];exact⟨h1,ry⟩
   ·rw[#[h,e],#[h,fun z=>e (h1.trans z)]];exact⟨h1,h2⟩
theorem KV.put(r:KV kvs vs)(k:κ)(ry:RelV y u):KV (putK kvs k y) (stored vs k u):=by
 unfold putK stored;rw[r.any k];by_cases e:(vs.any fun kv=>#[g,kv.1=k])=true
 ·rw[if_pos e,if_pos e];exact r.repl k ry
 ·rw[#[h,e],#[h,e]];exact Paired.snoc r ⟨rfl,ry⟩
theorem KV.drop(r:KV kvs vs)(k:κ):KV (Wo kvs k) (without vs k):=by
 unfold KV at r ⊢;unfold Wo without
 induction r with
 | nil=>exact .nil
 | @cons p q ps qs h t ih =>
   obtain⟨h1,h2⟩:=h;rw[zx5,zx5];by_cases e:p.1=k
   ·have a:¬ #[g,p.1≠k]=true:=by simp[e]
    have b:¬ #[g,q.1≠k]=true:=by simp[h1.symm.trans e]
    rw[#[h,a],#[h,b]];exact ih
   ·have e':¬ q.1=k:=fun z=>e (h1.trans z);have a:#[g,p.1≠k]=true:=by simp[e]
    have b:#[g,q.1≠k]=true:=by simp[e']
    rw[if_pos a,if_pos b];exact .cons ⟨h1,h2⟩ ih
theorem KV.keys{kvs:List (κ×V)}{vs:List (κ×Value)}(r:KV kvs vs):kvs.map (·.1)=vs.map (·.1):=by
 unfold KV at r
 induction r with
 | nil=>rfl
 | cons h t ih=>rw[zw2,zw2,ih,h.1]
theorem KV.length(r:KV kvs vs):kvs.length=vs.length:=Paired.length r
theorem A0(kvs:List (κ×V))(k:κ):(Wo kvs k).length<=kvs.length:=zxn _ _
end
theorem Jd(r:RelV (kV k) u):(Ys P w).is k u=true:=by
 cases k with
 | inl i=>obtain⟨t,e⟩:=(show ∃ t,u=Value.int i t from r);subst e;exact Ao P w i t
 | inr x=>obtain⟨t,e⟩:=(show ∃ t,u=Value.str x t from r);subst e;exact Ap P w x t
theorem Cd:∀ {ks:List Key} {us:List Value},Vals (ks.map kV) us->ItemsAre (Ys P w) ks us
 | [],_,r=>by rw[List.map_nil] at r;cases r;exact .nil
 | k :: ks,_,r=>by
   rw[zw2] at r;cases r with
   | cons h t=>exact .cons (Jd h) (Cd t)
abbrev KT(H:Hp):List (List Key×V)->List (List Key×Addr×Value)->Prop:=Paired fun p q=>p.1=q.1/\H q.2.1=some (.tup (p.1.map kV))/\RelV p.2 q.2.2
theorem KT.val{H:Hp}{kvs:List (List Key×V)}{xs:List (List Key×Addr×Value)}(r:KT H kvs xs)(k:List Key):RelO (valV kvs k) ((atKey xs k).map (·.2)):=by
 induction r with
 | nil=>exact True.intro
 | @cons p q ps qs h t ih =>
   obtain⟨h1,_,h2⟩:=h;by_cases e:p.1=k
   ·have e':q.1=k:=h1.symm.trans e;have b:atKey (q :: qs) k=some q.2:=by simp[atKey,zyv,e']
    rw[Xl e,b];exact h2
   ·have e':¬ q.1=k:=fun z=>e (h1.trans z);have b:atKey (q :: qs) k=atKey qs k:=by simp[atKey,zyv,e']
    rw[Y7 e,b];exact ih
theorem KT.repl(r:KT H kvs xs)(k:List Key)(ry:RelV y u) :
  KT H (kvs.map fun kv=>if kv.1=k then (kv.1,y) else kv) (xs.map (putAt k u)):=by
 induction r with
 | nil=>exact .nil
 | @cons p q ps qs h t ih =>
   rw[zw2,zw2];refine .cons ?_ ih;obtain⟨h1,h2,h3⟩:=h;unfold putAt;by_cases e:p.1=k
   ·rw[if_pos e,if_pos (h1.symm.trans e)];exact⟨h1,h2,ry⟩
   ·rw[#[h,e],#[h,fun z=>e (h1.trans z)]];exact⟨h1,h2,h3⟩
theorem KT.put(r:KT H kvs xs)(k:List Key)(hb:H b=some (.tup (k.map kV)))(ry:RelV y u) :
  KT H (putK kvs k y) (storedH xs k b u):=by
 have e:(kvs.any fun kv=>#[g,kv.1=k])=(atKey xs k).isSome:=by
  rw[Rv,(r.val k).isSome_eq,Option.isSome_map]
 unfold putK storedH;rw[e];by_cases q:(atKey xs k).isSome=true
 ·rw[if_pos q,if_pos q];exact r.repl k ry
 ·rw[#[h,q],#[h,q]];exact Paired.snoc r ⟨rfl,hb,ry⟩
theorem KT.keeps(r:KT H kvs xs)(ht:∀ b ys,H b=#[J,ys]->H' b=#[J,ys]):KT H' kvs xs :=
 Paired.mapP r fun _ _ z=>⟨z.1,ht _ _ z.2.1,z.2.2⟩
section
variable{P:Program}{w:World}{H:Hp}{h:Heap}{a:Addr}
theorem zjs(ok:HOk P w H h)(e:Rd H a u):Xi P w H h a u:=e.ok ok
theorem Pj(ok:HOk P w H h)(e:Rd H a (.dK kvs)):kvs.length<=sizeLine/\(a == sysModules)=false/\∃ vs,KV kvs vs/\h.DictOf (Ys P w) a vs :=
 show Xi P w H h a (.dK kvs) from zjs ok e
theorem A4(ok:HOk P w H h)(e:H a=#[b,.dK,kvs]):kvs.length<=sizeLine/\(a == sysModules)=false/\∃ vs,KV kvs vs/\h.DictOf (Ys P w) a vs:=Pj ok (.inl e)
theorem Nt(ok:HOk P w H h)(e:H a=some (.tup (ks.map kV))):(tupleKind (Ys P w)).is h ks a:=by
 obtain⟨_,its,r,o,h1,h2,n,h3⟩:=(show Xi P w H h a (.tup (ks.map kV)) from ok a _ e);exact⟨o,its.toArray,n,h1,h2,h3,by simpa using Cd r⟩
theorem Ga(ok:HOk P w H h)(e:Rd H a (.dT kvs)):kvs.length<=sizeLine/\(a == sysModules)=false /\
  ∃ xs,KT H kvs xs/\h.DictOfH (tupleKind (Ys P w)) a xs:=by
 obtain⟨z,y,xs,r,o,es,ep,h1,h2,h3,h4,h5⟩:=(show Xi P w H h a (.dT kvs) from zjs ok e);refine⟨z,y,xs,r,o,es,ep,h1,h2,h3,h4,fun x hx=>?_,h5⟩;have all:∀ {l:List (List Key×V)} {m:List (List Key×Addr×Value)},KT H l m->∀ x∈m,(tupleKind (Ys P w)).is h x.1 x.2.1:=by
  intro l m q
  induction q with
  | nil=>intro x hx;exact nomatch hx
  | @cons p q ps qs hq t ih =>
    intro x hx;rcases zwy.mp hx with e|hx
    ·subst e;exact Nt ok (by rw[<- hq.1];exact hq.2.1)
    ·exact ih x hx
 exact all r x hx
theorem zjt(ok:HOk P w H h)(e:H a=#[b,.dT,kvs]):kvs.length<=sizeLine/\(a == sysModules)=false /\
  ∃ xs,KT H kvs xs/\h.DictOfH (tupleKind (Ys P w)) a xs:=Ga ok (.inl e)
end
def DGet(H:Hp)(a:Addr)(y:V)(r:Option V):Prop :=
 (∃ kvs k,Rd H a (.dK kvs)/\y=kV k/\r=valV kvs k)\/∃ kvs k b,Rd H a (.dT kvs)/\y=.ref b/\H b=some (.tup (k.map kV))/\r=valV kvs k
def DPut(H:Hp)(a:Addr)(y v:V)(H':Hp):Prop :=
 (∃ kvs k,H a=#[b,.dK,kvs]/\y=kV k/\kvs.length<sizeLine/\H'=upd H a (.dK (putK kvs k v))) \/
 ∃ kvs k b,H a=#[b,.dT,kvs]/\y=.ref b/\H b=some (.tup (k.map kV))/\kvs.length<sizeLine/\H'=upd H a (.dT (putK kvs k v))
theorem DGet.k{H:Hp}{a:Addr}{kvs:#[U]}{k:Key}(e:H a=#[b,.dK,kvs]):DGet H a (kV k) (valV kvs k):=.inl ⟨kvs,k,.inl e,rfl,rfl⟩
theorem DGet.t{H:Hp}{a b:Addr}{kvs:List (List Key×V)}{k:List Key}(e:H a=#[b,.dT,kvs])(eb:H b=some (.tup (k.map kV))):DGet H a (.ref b) (valV kvs k):=.inr ⟨kvs,k,b,.inl e,rfl,eb,rfl⟩
theorem DPut.k{H:Hp}{a:Addr}{kvs:#[U]}{k:Key}{v:V}(e:H a=#[b,.dK,kvs])(hl:kvs.length<sizeLine):DPut H a (kV k) v (upd H a (.dK (putK kvs k v))):=.inl ⟨kvs,k,e,rfl,hl,rfl⟩
theorem DPut.t{H:Hp}{a b:Addr}{kvs:List (List Key×V)}{k:List Key}{v:V}(e:H a=#[b,.dT,kvs])(eb:H b=some (.tup (k.map kV)))(hl:kvs.length<sizeLine) :
  DPut H a (.ref b) v (upd H a (.dT (putK kvs k v))):=.inr ⟨kvs,k,b,e,rfl,eb,hl,rfl⟩
section
variable{X:Cx}{pins:#[C]}{σ:St}{H:Hp}{s:Shared}{a:Addr}{y v:V}{u r:Value}{o:Option V}{A:Around}{E:Value->Shared->Prop}
theorem Inv.big(I:#[l]):sysModules<s.heap.objs.size:=by
 have h:mainGlobals<s.heap.objs.size:=(I.mod.glob.keeps I.bk).lt;exact Nat.lt_trans ⋯ h
theorem zeo(hu:A.units+1<cLine)(I:#[l])(g:DGet H a y (some v))(ry:RelV y u)(h:∀ w' s',#[H,H,s']->RelV v w'->Q w' s') :
  wpAny (model X.prog X.w) A (getItem (.ref a) u) Q E s:=by
 rcases g with ⟨kvs,k,e,ey,l⟩|⟨kvs,k,b,e,ey,eb,l⟩
 ·subst ey;obtain⟨z,hd,vs,rel,dd⟩:=Pj I.hok e;obtain⟨w',hw,rw'⟩:=RelO.some_of (v:=v) (o:=valueAt vs k) (by rw[l];exact rel.val k);exact wpAny_getItem_of (Jd ry) dd.mapOf hw (h w' _ (I.tok _) rw')
 ·subst ey;cases (show u=Value.ref b from ry);obtain⟨z,hd,xs,rel,dd⟩:=Ga I.hok e;obtain⟨w',hw,rw'⟩:=RelO.some_of (v:=v) (o:=(atKey xs k).map (·.2)) (by rw[l];exact rel.val k);obtain⟨p,hp,hp2⟩:=zyu.mp hw;refine wpAny_getItem_heap (tupleKind_room_in1 hu) (Nt I.hok eb) dd hp ?_;rw[hp2];exact h w' _ (I.tok _) rw'
theorem zm6(hu:A.units+1<cLine)(I:#[l])(g:DGet H a y o)(ry:RelV y u)(h:∀ s',#[H,H,s']->Q (.bool o.isSome) s') :
  wpAny (model X.prog X.w) A (compareOp .In u (.ref a)) Q E s:=by
 rcases g with ⟨kvs,k,e,ey,l⟩|⟨kvs,k,b,e,ey,eb,l⟩
 ·subst ey;obtain⟨z,hd,vs,rel,dd⟩:=Pj I.hok e;refine wpAny_in_of (Jd ry) hd dd.mapOf ?_;rw[<- (rel.val k).isSome_eq,<- l];exact h _ (I.tok _)
 ·subst ey;cases (show u=Value.ref b from ry);obtain⟨z,hd,xs,rel,dd⟩:=Ga I.hok e;refine wpAny_in_heap (tupleKind_room_in1 hu) (Nt I.hok eb) hd dd ?_;have q:=(rel.val k).isSome_eq;rw[Option.isSome_map] at q;rw[<- q,<- l];exact h _ (I.tok _)
theorem zio(hu:A.units+1<cLine)(I:#[l])(g:DGet H a y o)(ry:RelV y u)(h:∀ s',#[H,H,s']->Q (.bool (!o.isSome)) s') :
  wpAny (model X.prog X.w) A (compareOp .NotIn u (.ref a)) Q E s:=by
 rcases g with ⟨kvs,k,e,ey,l⟩|⟨kvs,k,b,e,ey,eb,l⟩
 ·subst ey;obtain⟨z,hd,vs,rel,dd⟩:=Pj I.hok e;refine wpAny_notIn_of (Jd ry) hd dd.mapOf ?_;rw[<- (rel.val k).isSome_eq,<- l];exact h _ (I.tok _)
 ·subst ey;cases (show u=Value.ref b from ry);obtain⟨z,hd,xs,rel,dd⟩:=Ga I.hok e;refine wpAny_notIn_heap (tupleKind_room_in1 hu) (Nt I.hok eb) hd dd ?_;have q:=(rel.val k).isSome_eq;rw[Option.isSome_map] at q;rw[<- q,<- l];exact h _ (I.tok _)
theorem O2(I:#[l])(mu:Mut (H a))(hs:Heap.SameBut a s.heap h')(he:∃ q,h'.get? a=some q)(new:Xi X.prog X.w (upd H a ob) h' a ob) :
  Inv X pins σ (upd H a ob) { s with heap:=h',toks:=t' } :=
 I.write (x:=a) (e:=a) mu (.inl rfl) (fun b q hb z=>(hs.2 b hb).trans z) he new
theorem Gb(z:kvs.length<=sizeLine)(hd:(a == sysModules)=false)(rel:KV kvs vs)(dd:h'.DictOf (Ys P w) a vs) :
  Xi P w H' h' a (.dK kvs):=⟨z,hd,vs,rel,dd⟩
theorem zep(hu:A.units+1<cLine)(I:#[l])(g:DPut H a y v H')(ry:RelV y u)(rv:RelV v r)(h:∀ s',#[H,H',s']->Q () s') :
  wpAny (model X.prog X.w) A (setItem (.ref a) u r) Q E s:=by
 rcases g with ⟨kvs,k,e,ey,l,eH⟩|⟨kvs,k,b,e,ey,eb,l,eH⟩
 ·subst ey eH;obtain⟨z,hd,vs,rel,dd⟩:=A4 I.hok e;have hz:vs.length<=sizeLine:=by rw[<- rel.length];exact z
  have hl:(putK kvs k v).length<=sizeLine:=by have:=Xm kvs k v;omega
  refine wpAny_setItem_pairs (hsz:=hz) (Jd ry) dd fun h' dd' hs=>h _ ?_;have he:∃ q,h'.get? a=some q:=let ⟨q,_,_,hq,_⟩:=dd';⟨q,hq⟩;exact O2 I (by rw[e];exact True.intro) hs he (Gb hl hd (rel.put k rv) dd')
 ·subst ey eH;cases (show u=Value.ref b from ry);obtain⟨z,hd,xs,rel,dd⟩:=zjt I.hok e;have hz:xs.length<=sizeLine:=by rw[<- Paired.length rel];exact z
  have hl:(putK kvs k v).length<=sizeLine:=by have:=Xm kvs k v;omega
  refine wpAny_setItem_heap (hsz:=hz) (tupleKind_room_in1 hu) (Nt I.hok eb) dd fun h' dd' hs=>h _ ?_;obtain⟨q,es,ep,hq,h2,h3,h4,_,h5⟩:=dd';refine O2 I (by rw[e];exact True.intro) hs ⟨q,hq⟩ ⟨hl,hd,_,(rel.put k eb rv).keeps fun c ys ec=>?_,q,es,ep,hq,h2,h3,h4,h5⟩;rw[Zh (Y6 ec e (fun z=>nomatch z))];exact ec
end
section
variable{X:Cx}{pins:#[C]}{σ:St}{H:Hp}{s:Shared}{a:Addr}{kvs:#[U]}{k:Key}{u:Value}{A:Around}{E:Value->Shared->Prop}
theorem zl8(I:#[l])(e:H a=#[b,.dK,kvs])(ry:RelV (kV k) u)(l:valV kvs k=some v)(hm:more=[]\/∃ x,more=[x])
  (h:∀ w' s',#[H,upd H a (.dK (Wo kvs k)),s']->RelV v w'->Q w' s'):#[X,X.prog,X.w,A,call (.builtin "dict.pop") (.ref a :: u :: more),Q,E,s]:=by
 obtain⟨z,hd,vs,rel,dd⟩:=A4 I.hok e;obtain⟨w',hw,rw'⟩:=RelO.some_of (v:=v) (o:=valueAt vs k) (by rw[<- l];exact rel.val k);have hp:(keyPart u).isSome=true:=by
  cases k with
  | inl i=>obtain⟨t,q⟩:=(show ∃ t,u=Value.int i t from ry);subst q;rfl
  | inr x=>obtain⟨t,q⟩:=(show ∃ t,u=Value.str x t from ry);subst q;rfl
 have ha:argsOk "dict.pop" ⟨.ref a :: u :: more,[]⟩:=by
  rcases hm with q|⟨x,q⟩
  ·subst q;exact PySem.F.args_dict_pop_2 _ _
  ·subst q;exact PySem.F.args_dict_pop_3 _ _ _
 refine call_meetsIn PySem.F.slot_dict_pop dd.typeIs PySem.F.entry_dict_pop ha (meets_dict_pop_there (Ys X.prog X.w) a (Jd ry) more hm hp)
  ⟨vs,w',dd,by rw[<- rel.length];exact z,hw,fun h' dd' hs=>h w' _ ?_ rw'⟩
 have he:∃ q,h'.get? a=some q:=let ⟨q,_,_,hq,_⟩:=dd';⟨q,hq⟩;exact O2 I (by rw[e];exact True.intro) hs he (Gb (zw4 (A0 kvs k) z) hd (rel.drop k) dd')
theorem zl9(I:#[l])(e:Rd H a (.dK kvs))(h:∀ t s',#[H,H,s']->Q (.int kvs.length t) s'):#[X,X.prog,X.w,A,call (.builtin "len") [.ref a],Q,E,s]:=by
 obtain⟨z,hd,vs,rel,dd⟩:=Pj I.hok e;refine call_len_dict hd dd (by rw[<- rel.length];rw[sizeLine_eq] at z;omega) ?_;rw[<- rel.length];exact h _ _ (I.tok _)
end
def zki(i:Expr):Prop:=∀ ov iv,subscripted i false ov iv=operate [ov,iv] (getItem ov iv)
theorem ziq{prog:Program}{w:World}{A:Around}{E:Value->Shared->Prop}{s:Shared}{env:Env}{value slice:Expr}{pos:Pos}{T id:String}{Q:Value->Shared->Prop}
  (hl:typeLookup (.type T) "__getitem__"=pure #[b,.builtin,id]) (hs:zki slice)
  (h:#[X,prog,w,A,eval value env,fun o s₁=>#[X,prog,w,A,eval slice env,fun i s₂=>s₂.TypeIs o T/\#[X,prog,w,A,getItem o i,Q,E,s₂],E,s₁],E,s]) :
  wpAny (model prog w) A (eval (.Subscript value slice pos) env) Q E s:=by
 refine Subscript_ (wpAny_mono h (fun o s₁ h₁=>wpAny_mono h₁ (fun i s₂ h₂=>?_) fun _ _ x=>x) fun _ _ x=>x);obtain⟨hT,h₂⟩:=h₂;unfold subscriptTail;refine wpAny_bind ?_;rw[getitemInPython_of_ne hT.not_modules];refine wpAny_bind (wpAny_specialOf hT hl ?_);have fin:#[X,prog,w,A,subscripted slice false o i,fun r s₃=>#[X,prog,w,A,letTemporaryGo value o r >>= fun _=>pure r,Q,E,s₃],E,s₂]:=by
  rw[hs o i];exact wpAny_operating (wpAny_mono h₂ (fun r s₃ h₃=>wpAny_bind (wpAny_letTemporaryGo (wpAny_pure h₃))) fun _ _ x=>x)
 first
  | exact wpAny_pure (wpAny_bind fin)
  | exact wpAny_bind (wpAny_pure (wpAny_bind fin))
  | exact wpAny_bind fin
theorem A5(I:#[l])(g:DGet H a y o):s.TypeIs (.ref a) "dict":=by
 rcases g with ⟨kvs,k,e,_,_⟩|⟨kvs,k,b,e,_,_,_⟩
 ·obtain⟨_,_,vs,_,dd⟩:=Pj I.hok e;exact dd.typeIs
 ·obtain⟨_,_,xs,_,dd⟩:=Ga I.hok e;exact dd.typeIs
inductive zkj(Q:VK)(x:V)(y:V)(H2:Hp):Prop where
 | mk(a)(v)(_:x=.ref a)(_:DGet H2 a y (some v))(_:Q v H2)
def A6(td ty:TE):TE:=fun σ H Q=>td σ H fun x H1=>ty σ H1 fun y H2=>zkj Q x y H2
inductive zma(Q:VK)(y:V)(x:V)(H2:Hp):Prop where
 | mk(a)(o)(_:x=.ref a)(_:DGet H2 a y o)(_:Q (.bl o.isSome) H2)
def zm7(ty td:TE):TE:=fun σ H Q=>ty σ H fun y H1=>td σ H1 fun x H2=>zma Q y x H2
inductive zgk(Q:VK)(y:V)(x:V)(H2:Hp):Prop where
 | mk(a)(o)(_:x=.ref a)(_:DGet H2 a y o)(_:Q (.bl (!o.isSome)) H2)
def zir(ty td:TE):TE:=fun σ H Q=>ty σ H fun y H1=>td σ H1 fun x H2=>zgk Q y x H2
inductive zkk(D:Pp)(σ:L2.St)(v:V)(x:V)(y:V)(H3:Hp):Prop where
 | mk(a)(H4)(_:x=.ref a)(_:DPut H3 a y v H4)(_:D.nx σ H4)
def zju(td ty tv:TE):TS:=fun D σ H=>tv σ H fun v H1=>td σ H1 fun x H2=>ty σ H2 fun y H3=>zkk D σ v x y H3
section
variable{X:Cx}{o i e value:Expr}{pos pos' tpos:Pos}{td ty tv:TE}
theorem zis(hu:X.A.units+1<cLine)(ho:PE X o td)(hi:PE X i ty)(hs:zki i):PE X (.Subscript o i pos) (A6 td ty):=by
 intro pins s σ H Q I h;refine ziq PySem.F.slot_dict_getitem.lookup hs (thn (ho pins s σ H _ I h) fun u s1 ⟨x,H1,I1,rx,q1⟩=>thn (hi pins s1 σ H1 _ I1 q1) fun iv s2 ⟨y,H2,I2,ry,a,v,ex,g,q2⟩=>?_);subst ex;obtain rfl:u=Value.ref a:=rx;exact⟨A5 I2 g,zeo hu I2 g ry fun w' s3 I3 rw'=>⟨v,H2,I3,rw',q2⟩⟩
theorem Nu(hu:X.A.units+1<cLine)(hi:PE X i ty)(ho:PE X o td):PC X .In i o (zm7 ty td):=by
 intro pins s σ H Q I h;refine thn (hi pins s σ H _ I h) fun iv s1 ⟨y,H1,I1,ry,q1⟩=>thn (ho pins s1 σ H1 _ I1 q1) fun u s2 ⟨x,H2,I2,rx,a,ov,ex,g,q2⟩=>?_;subst ex;obtain rfl:u=Value.ref a:=rx;exact zm6 hu I2 g ry fun s3 I3=>⟨.bl ov.isSome,H2,I3,rfl,q2⟩
theorem Rw(hu:X.A.units+1<cLine)(hi:PE X i ty)(ho:PE X o td):PC X .NotIn i o (zir ty td):=by
 intro pins s σ H Q I h;refine thn (hi pins s σ H _ I h) fun iv s1 ⟨y,H1,I1,ry,q1⟩=>thn (ho pins s1 σ H1 _ I1 q1) fun u s2 ⟨x,H2,I2,rx,a,ov,ex,g,q2⟩=>?_;subst ex;obtain rfl:u=Value.ref a:=rx;exact zio hu I2 g ry fun s3 I3=>⟨.bl (!ov.isSome),H2,I3,rfl,q2⟩
theorem Ym(hu:X.A.units+1<cLine)(ho:PE X o td)(hi:PE X i ty)(hv:PE X value tv)(hs:swapsWith value (some (.Subscript o i pos')) pos.line X.env=pure false) :
  PS X (.Assign [.Subscript o i pos'] value pos) (zju td ty tv):=by
 intro pins s σ H D I h;refine wpAny_Assign_Subscript (thn (hv pins s σ H _ I h) fun r s1 ⟨v,H1,I1,rv,q1⟩=>thn (ho pins s1 σ H1 _ I1 q1) fun u s2 ⟨x,H2,I2,rx,q2⟩=>thn (hi pins s2 σ H2 _ I2 q2) fun iv s3 ⟨y,H3,I3,ry,a,H4,ex,g,q3⟩=>?_) hs;subst ex;obtain rfl:u=Value.ref a:=rx;exact zep hu I3 g ry rv fun s4 I4=>⟨σ,H4,I4,q3⟩
end
theorem A7(h:Heap)(hb:sysModules<h.objs.size):Xi P w H (h.push { cls:=.type "dict",data:=.dict #[] }) h.objs.size (.dK []) :=
 ⟨zxj _,zxg.mpr (Ne.symm (zxh hb)),[],.nil,Heap.DictOf.new h⟩
theorem zgl(h:Heap)(hb:sysModules<h.objs.size):Xi P w H (h.push { cls:=.type "dict",data:=.dict #[] }) h.objs.size (.dT []) :=
 ⟨zxj _,zxg.mpr (Ne.symm (zxh hb)),[],.nil,_,#[],0,Heap.get?_push_size _ rfl,⟨rfl,rfl,rfl⟩,rfl,rfl,zyo⟩
def zkl:TE:=fun _ H Q=>∀ p,H p=none->Q (.ref p) (upd H p (.dK []))
def zkm:TE:=fun _ H Q=>∀ p,H p=none->Q (.ref p) (upd H p (.dT []))
section
variable{X:Cx}{pos:Pos}
theorem T4:PE X (.Dict [] [] pos) zkl:=fun pins s σ H Q I h =>
 wpAny_Dict_empty ⟨.ref s.heap.objs.size,_,I.laid (a:=s.heap.objs.size) (o:=.dK []) (t':=s.toks) (fun _ _ q=>Heap.get?_push_of_some _ q) (zw1 _) (A7 s.heap I.big),rfl,h _ (I.hok.fresh (zw1 _))⟩
theorem Gd:PE X (.Dict [] [] pos) zkm:=fun pins s σ H Q I h =>
 wpAny_Dict_empty ⟨.ref s.heap.objs.size,_,I.laid (a:=s.heap.objs.size) (o:=.dT []) (t':=s.toks) (fun _ _ q=>Heap.get?_push_of_some _ q) (zw1 _) (zgl s.heap I.big),rfl,h _ (I.hok.fresh (zw1 _))⟩
end
def zb8:List (TE×TE)->St->Hp->(List (V×V)->Hp->Prop)->Prop
 | [],_,H,Q=>Q [] H
 | (tk,tv) :: r,σ,H,Q=>tk σ H fun x H1=>tv σ H1 fun y H2=>zb8 r σ H2 fun ps H3=>Q ((x,y) :: ps) H3
abbrev VV:List (V×V)->List (Value×Value)->Prop:=Paired fun p q=>RelV p.1 q.1/\RelV p.2 q.2
def PPs(X:Cx)(pos:Pos)(keys:List (Option Expr))(values:List Expr)(trs:List (TE×TE)):Prop :=
 ∀ (pins:#[C]) (s:Shared) (σ:St) (H:Hp) (Q:List (V×V)->Hp->Prop),#[l]->zb8 trs σ H Q ->
   wpAny (model X.prog X.w) X.A (evalPairs (pairTrees keys values X.env pos)) (fun vs s'=>∃ ps H',#[H,H',s']/\VV ps vs/\Q ps H') X.xe s
theorem Ba:PPs X pos [] [] []:=fun pins s σ H Q I h=>pairTrees_nil_walk ⟨[],H,I,.nil,h⟩
theorem Ta(hk:PE X k tk)(hv:PE X v tv)(hr:PPs X pos ks vs trs) :
  PPs X pos (some k :: ks) (v :: vs) ((tk,tv) :: trs):=fun pins s σ H Q I h =>
 pairTrees_cons_walk (thn (hk pins s σ H _ I h) fun u s1 ⟨x,H1,I1,rx,q1⟩=>thn (hv pins s1 σ H1 _ I1 q1) fun w2 s2 ⟨y,H2,I2,ry,q2⟩ =>
  thn (hr pins s2 σ H2 _ I2 q2) fun ws s3 ⟨ps,H3,I3,rel,q3⟩=>⟨(x,y) :: ps,H3,I3,.cons ⟨rx,ry⟩ rel,q3⟩)
def Vl(kvs more:#[U]):#[U]:=more.foldl (fun acc kv=>putK acc kv.1 kv.2) kvs
theorem KV.merge:∀ {more:List (Key×V)} {rs:List (Key×Value)} {kvs:List (Key×V)} {vs:List (Key×Value)},KV more rs->KV kvs vs->KV (Vl kvs more) (merged vs rs):=by
 intro more rs kvs vs r;unfold KV at r
 induction r generalizing kvs vs with
 | nil=>intro q;exact q
 | @cons p q ps qs h t ih =>
   intro r0;have e:KV (putK kvs p.1 p.2) (stored vs q.1 q.2):=by
    have:=r0.put p.1 h.2;rw[<- h.1];exact this
   exact ih e
theorem Rb:∀ (more kvs:List (Key×V)),(Vl kvs more).length<=kvs.length+more.length
 | [],kvs=>by show kvs.length<=kvs.length+0;omega
 | p :: r,kvs=>by
   have h1:=Rb r (putK kvs p.1 p.2);have h2:=Xm kvs p.1 p.2;show (Vl (putK kvs p.1 p.2) r).length<=_;rw[zw9];omega
theorem Ge:∀ {kvs:List (Key×V)} {ws:List (Value×Value)},VV (kvs.map fun kv=>(kV kv.1,kv.2)) ws->∃ rs,Carries (Ys P w) ws rs/\KV kvs rs
 | [],_,r=>by rw[List.map_nil] at r;cases r;exact⟨[],True.intro,.nil⟩
 | p :: kvs,_,r=>by
   rw[zw2] at r;cases r with
   | @cons a b as bs h t =>
     obtain⟨rs,c,q⟩:=Ge (P:=P) (w:=w) t;obtain⟨b1,b2⟩:=b;exact⟨(p.1,b2) :: rs,#[q,Jd h.1,c],.cons ⟨rfl,h.2⟩ q⟩
def zmb(trs:List (TE×TE)):TE:=fun σ H Q=>∀ p,H p=none->zb8 trs σ (upd H p (.dK [])) fun ps H2=>H2 p=#[b,.dK,[]]/\∃ kvs:#[U],ps=kvs.map (fun kv=>(kV kv.1,kv.2))/\kvs.length<=15/\Q (.ref p) (upd H2 p (.dK (Vl [] kvs)))
theorem Bb(h:PPs X pos keys values trs)(hall:keys.all (·.isSome)=true)(hl:keys.length=values.length)(h0:keys≠[])
  (h15:keys.length<=15):PE X (.Dict keys values pos) (zmb trs):=by
 intro pins s σ H Q I q;have hn:=I.hok.fresh (zw1 s.heap.objs.size);have I1:=I.laid (a:=s.heap.objs.size) (o:=.dK []) (h':=s.heap.push { cls:=.type "dict",data:=.dict #[] }) (t':=s.toks) (fun _ _ q=>#[ac,_,q]) (zw1 _) (A7 s.heap I.big);refine wpAny_Dict_walk (knd:=Ys X.prog X.w) hall hl h0 h15 (thn (h pins _ σ _ _ I1 (q _ hn)) fun ws s2 ⟨ps,H2,I2,rel,e,kvs,ep,lk,q2⟩=>?_);subst ep;obtain⟨rs,c,rk⟩:=Ge (P:=X.prog) (w:=X.w) rel;obtain⟨z,hd,vs0,r0,dd⟩:=A4 I2.hok e;cases r0;refine⟨rs,c,dd,fun h' dd' hs=>⟨.ref s.heap.objs.size,_,?_,rfl,q2⟩⟩;have hz:(Vl [] kvs).length<=sizeLine:=by
  have h1:=Rb kvs [];rw[zy4] at h1;rw[sizeLine_eq];omega
 have he:∃ q,h'.get? s.heap.objs.size=some q:=let ⟨q,_,_,hq,_⟩:=dd';⟨q,hq⟩;exact O2 I2 (by rw[e];exact True.intro) hs he (Gb hz hd (rk.merge .nil) dd')
structure M1(X:Cx)(o:Expr)(m:Str)(apos:Pos)(e:Expr)(cpos:Pos):Prop where
 base:attributeBase o m X.env #[G,o]=#[G,o]
 few:((backTo cpos (starEach [e] X.env)).all (fun x=>!x.1)&&(backToKw cpos (keywordEach [] X.env)).all (fun x=>x.1.isSome)
  && decide (([e]:List Expr).length+([]:List Keyword).length+(if ([]:List Keyword).isEmpty then 0 else 1)<30))=true
 line:(apos.endLine == cpos.line)=true
 trees:backTo cpos (starEach [e] X.env)=[(false,eval e X.env)]
structure M2(X:Cx)(o:Expr)(m:Str)(apos:Pos)(e f:Expr)(cpos:Pos):Prop where
 base:attributeBase o m X.env #[G,o]=#[G,o]
 few:((backTo cpos (starEach [e,f] X.env)).all (fun x=>!x.1)&&(backToKw cpos (keywordEach [] X.env)).all (fun x=>x.1.isSome)
  && decide (([e,f]:List Expr).length+([]:List Keyword).length+(if ([]:List Keyword).isEmpty then 0 else 1)<30))=true
 line:(apos.endLine == cpos.line)=true
 trees:backTo cpos (starEach [e,f] X.env)=[(false,#[G,e]),(false,#[G,f])]
def IsD(H:Hp)(a:Addr):Prop:=(∃ kvs,Rd H a (.dK kvs))\/∃ kvs,Rd H a (.dT kvs)
theorem zb9(I:#[l])(d:IsD H a) :
  s.TypeIs (.ref a) "dict"/\(∀ b,Value.ref a=.ref b->∃ ob,#[ab]=some ob/\ob.dict=none)/\(a == sysModules)=false:=by
 rcases d with ⟨kvs,e⟩|⟨kvs,e⟩
 ·obtain⟨_,hd,vs,_,dd⟩:=Pj I.hok e;refine⟨dd.typeIs,fun b q=>?_,hd⟩;cases q;obtain⟨ob,_,_,h1,h2,_⟩:=dd;exact⟨ob,h1,h2.2.1⟩
 ·obtain⟨_,hd,xs,_,dd⟩:=Ga I.hok e;refine⟨dd.typeIs,fun b q=>?_,hd⟩;cases q;obtain⟨ob,_,_,h1,h2,_⟩:=dd;exact⟨ob,h1,h2.2.1⟩
section
variable{X:Cx}{pins:#[C]}{σ:St}{H:Hp}{s:Shared}{a:Addr}{y d:V}{u r:Value}{o:Option V}{A:Around}{E:Value->Shared->Prop}
theorem zkn(hu:A.units+1<cLine)(I:#[l])(g:DGet H a y o)(ry:RelV y u)(rd:RelV d r)(h:∀ w' s',#[H,H,s']->RelV (o.getD d) w'->Q w' s') :
  wpAny (model X.prog X.w) A (call (.builtin "dict.get") [.ref a,u,r]) Q E s:=by
 rcases g with ⟨kvs,k,e,ey,l⟩|⟨kvs,k,b,e,ey,eb,l⟩
 ·subst ey;obtain⟨z,hd,vs,rel,dd⟩:=Pj I.hok e;refine call_meetsIn PySem.F.slot_dict_get dd.typeIs PySem.F.entry_dict_get (PySem.F.args_dict_get_3 _ _ _) (meets_dict_get_default (Ys X.prog X.w) a (Jd ry) hd r) ⟨_,dd.mapOf,h _ _ (I.tok _) ?_⟩;rw[l];exact(rel.val k).getD rd
 ·subst ey;cases (show u=Value.ref b from ry);obtain⟨z,hd,xs,rel,dd⟩:=Ga I.hok e;refine call_meetsIn PySem.F.slot_dict_get dd.typeIs PySem.F.entry_dict_get (PySem.F.args_dict_get_3 _ _ _) (meetsH_dict_get_default (tupleKind (Ys X.prog X.w)) a b hd r) ⟨tupleKind_room_in1 hu,k,xs,Nt I.hok eb,dd,h _ _ (I.tok _) ?_⟩;rw[l];exact(rel.val k).getD rd
end
inductive zit(ty:TE)(tx:TE)(σ:L2.St)(Q:VK)(x:V)(H1:Hp):Prop where
 | mk(a)(_:x=.ref a)(_:IsD H1 a)(_:ty σ H1 fun y H2=>tx σ H2 fun z H3=>∃ o,DGet H3 a y o/\Q (o.getD z) H3)
def zko(td ty tx:TE):TE:=fun σ H Q=>td σ H fun x H1=>zit ty tx σ Q x H1
inductive ziu(ty:TE)(σ:L2.St)(Q:VK)(x:V)(H1:Hp):Prop where
 | mk(a)(_:x=.ref a)(_:IsD H1 a)(_:ty σ H1 fun y H2=>∃ kvs k v,H2 a=#[b,.dK,kvs]/\y=kV k/\valV kvs k=some v/\Q v (upd H2 a (.dK (Wo kvs k))))
def zkp(td ty:TE):TE:=fun σ H Q=>td σ H fun x H1=>ziu ty σ Q x H1
section
variable{X:Cx}{o e f:Expr}{apos cpos:Pos}{td ty tx:TE}
theorem zgm(hu:X.A.units+1<cLine)(ho:PE X o td)(he:PE X e ty)(hf:PE X f tx)(m:M2 X o "get" apos e f cpos):PE X (.Call (.Attribute o "get" apos) [e,f] [] cpos) (zko td ty tx):=by
 intro pins s σ H Q I h;refine wpAny_Call_method m.base m.few m.line PySem.F.plainAttrs_dict PySem.F.slot_dict_get PySem.F.type_dict_get (thn (ho pins s σ H _ I h) fun u s1 ⟨x,H1,I1,rx,a,ex,d,q1⟩=>?_);subst ex;obtain rfl:u=Value.ref a:=rx;obtain⟨t1,t2,_⟩:=zb9 I1 d;refine⟨t1,t2,?_⟩;rw[m.trees];refine Calls.callWith_builtin rfl (Calls.evalArgs_plain (Calls.spliced_cons (thn (he pins s1 σ H1 _ I1 q1) fun iv s2 ⟨y,H2,I2,ry,q2⟩ =>
  Calls.spliced_cons (thn (hf pins s2 σ H2 _ I2 q2) fun fv s3 ⟨z,H3,I3,rz,ov,g,q3⟩=>Calls.spliced_nil ?_))))
 exact zkn hu I3 g ry rz fun w' s4 I4 rw'=>⟨_,H3,I4,rw',q3⟩
theorem zgn(ho:PE X o td)(he:PE X e ty)(m:M1 X o "pop" apos e cpos):PE X (.Call (.Attribute o "pop" apos) [e] [] cpos) (zkp td ty):=by
 intro pins s σ H Q I h;refine wpAny_Call_method m.base m.few m.line PySem.F.plainAttrs_dict PySem.F.slot_dict_pop PySem.F.type_dict_pop (thn (ho pins s σ H _ I h) fun u s1 ⟨x,H1,I1,rx,a,ex,d,q1⟩=>?_);subst ex;obtain rfl:u=Value.ref a:=rx;obtain⟨t1,t2,_⟩:=zb9 I1 d;refine⟨t1,t2,?_⟩;rw[m.trees];refine Calls.callWith_builtin rfl (Calls.evalArgs_plain (Calls.spliced_cons (thn (he pins s1 σ H1 _ I1 q1) fun iv s2 ⟨y,H2,I2,ry,kvs,k,v,ea,ey,l,q2⟩=>Calls.spliced_nil ?_)));subst ey;exact zl8 I2 ea ry l (.inl rfl) fun w' s3 I3 rw'=>⟨v,_,I3,rw',q2⟩
end
section
variable{X:Cx}{pins:#[C]}{σ:St}{H:Hp}{s:Shared}{a:Addr}{kvs:#[U]}{A:Around}{E:Value->Shared->Prop}
theorem zgo(I:#[l])(e:Rd H a (.dK kvs))(h:∀ p s',H p=none->#[H,upd H p (.dK kvs),s']->Q (.ref p) s'):#[X,X.prog,X.w,A,call (.type "dict") [.ref a],Q,E,s]:=by
 obtain⟨z,hd,vs,rel,dd⟩:=Pj I.hok e;refine kt_call_dict hd dd (by rw[<- rel.length];exact z) fun h' dd' hs=>?_;refine h _ _ (I.hok.fresh (zw1 _)) (I.laid (a:=s.heap.objs.size) (o:=.dK kvs) (t':=s.toks) (fun b q hq=>?_) (zw1 _) (Gb z (zxg.mpr (Ne.symm (zxh I.big))) rel dd'));exact(hs.2 b (zxh (Heap.lt_size hq))).trans (Heap.get?_push_of_some _ hq)
end
end L2
namespace HT
open PySem PyProof.Rows
section
open PySem.SeqAt
open PySem.AutoSeq1 (wpAny_loadPart')
open PySem.MeetsSeq PySem.MeetsSeq2 PySem.MeetsSeq3
end
section
variable{prog:Program}{w:World}{A:Around}{E:Value->Shared->Prop}{s:Shared}
theorem cat_tup(ht:IsTup s.heap t vs.toArray)(hb:IsTup s.heap b ws.toArray)(hv:vs≠[])
  (h1:ws=[]->Q (.ref t) s) (h2:ws≠[]->Q (.ref s.heap.objs.size) { s with heap:=s.heap.push { cls:=.type "tuple",data:=.seq (vs++ws).toArray } })
  (hsz:vs.length+ws.length<=sizeLine):#[X,prog,w,A,binaryOp .Add (.ref t) (.ref b),Q,E,s]:=by
 obtain⟨⟨cls,dd,data,sl⟩,ho,hc,n,hd⟩:=id ht;obtain⟨⟨cls2,dd2,data2,sl2⟩,ho2,hc2,n2,hd2⟩:=id hb;simp only at hc hd hc2 hd2;subst hc hd hc2 hd2;have e:vs.toArray++ws.toArray=(vs++ws).toArray:=by simp
 by_cases hw:ws=[]
 ·exact concat_meets #[L,_,ho] #[L,_,ho2] noFill_tuple_add seq_tuple_add PySem.F.slot_tuple_add PySem.F.entry_tuple_add (PySem.F.args_tuple_add_2 _ _)
   (tuple_addW1 t b vs.toArray ws.toArray n n2 dd dd2 sl sl2 (by simpa using hv) (by simp[hw])) ⟨ho,ho2,h1 hw⟩
 ·refine concat_meets #[L,_,ho] #[L,_,ho2] noFill_tuple_add seq_tuple_add PySem.F.slot_tuple_add PySem.F.entry_tuple_add (PySem.F.args_tuple_add_2 _ _)
   (tuple_addW2 t b vs.toArray ws.toArray n n2 dd dd2 sl sl2 (by simpa using hv) (by simpa using hw) (by rw[zw5,zw5];exact hsz)) ⟨ho,ho2,?_⟩
  rw[e];exact h2 hw
def sIx(n d:Nat):#[D]->Nat
 | none=>d
 | some v=>if v<0 then (v+(n:Int)).toNat else min v.toNat n
theorem sIx_none(n d:Nat):sIx n d none=d:=rfl
theorem sIx_nat(n d k:Nat):sIx n d (some (k:Int))=min k n:=by
 show (if (k:Int)<0 then ((k:Int)+(n:Int)).toNat else min (k:Int).toNat n)=min k n;rw[if_neg ⋯,zw3]
end
end HT
namespace L2
open PySem PySem.Spec PyProof.Rows
abbrev TO:=St->Hp->(#[D]->Hp->Prop)->Prop
def PO(X:Cx)(e:Option Expr)(t:TO):Prop :=
 ∀ (pins:#[C]) (s:Shared) (σ:St) (H:Hp) (Q:#[D]->Hp->Prop),#[l]->t σ H Q ->
   wpAny (model X.prog X.w) X.A (evalPart e X.env) (fun u s'=>∃ o H',#[H,H',s']/\IsPart u o/\Q o H') X.xe s
def Bc:TO:=fun _ H Q=>Q none H
inductive zkq(Q:#[D]->Hp->Prop)(x:V)(H1:Hp):Prop where
 | mk(i)(_:x=.int i)(_:Q (some i) H1)
def zgp(t:TE):TO:=fun σ H Q=>t σ H fun x H1=>zkq Q x H1
section
variable{X:Cx}{e:Expr}{te:TE}{lo hi:Option Expr}{tl th:TO}{pos p2:Pos}
theorem Bd:PO X none Bc:=by
 intro pins s σ H Q I h;rw[evalPart_none];exact wpAny_pure ⟨none,H,I,.none,h⟩
theorem Be(h:PE X e te):PO X (some e) (zgp te):=by
 intro pins s σ H Q I hw;rw[evalPart_some];refine thn (h pins s σ H _ I hw) fun u s1 ⟨x,H1,I1,r1,q1⟩=>?_;obtain⟨i,rfl,q⟩:=q1;obtain⟨t,rfl⟩:=r1;exact⟨some i,H1,I1,.int i t,q⟩
def SlR(X:Cx)(r:V->#[D]->#[D]->Hp->VK->Prop):Prop :=
 ∀ (pins:#[C]) (s:Shared) (σ:St) (H:Hp) (x:V) (v vl vu:Value) (lo hi:#[D]) (sl:Addr) (Q:VK),#[l]->RelV x v->s.heap.IsSliceOf sl vl vu .none->IsPart vl lo->IsPart vu hi->r x lo hi H Q ->
   ∃ T id,typeLookup (.type T) "__getitem__"=pure #[b,.builtin,id]/\s.TypeIs v T/\#[am,getItem v (.ref sl),EP X pins σ Q,X.xe,s]
def tSl(r:V->#[D]->#[D]->Hp->VK->Prop)(te:TE)(tl th:TO):TE:=fun σ H Q=>te σ H fun x H1=>tl σ H1 fun l H2=>th σ H2 fun u H3=>r x l u H3 Q
theorem Gf(hr:SlR X r)(he:PE X e te)(hl:PO X lo tl)(hu:PO X hi th):PE X (.Subscript e (.Slice lo hi none p2) pos) (tSl r te tl th):=by
 intro pins s σ H Q I h;refine Subscript_ (thn (he pins s σ H _ I h) fun v s1 ⟨x,H1,I1,r1,q1⟩=>?_);refine wpAny_Slice (thn (hl pins s1 σ H1 _ I1 q1) fun vl s2 ⟨l,H2,I2,pl,q2⟩=>thn (hu pins s2 σ H2 _ I2 q2) fun vu s3 ⟨u,H3,I3,pu,q3⟩=>?_);rw[evalPart_none];refine wpAny_pure ?_;have I4:#[H,H3,{ s3 with heap:=s3.heap.push { cls:=.type "slice",data:=.fields #[vl,vu,.none] } }]:=I3.kept (t':=s3.toks) fun b ob q=>#[ac,_,q];obtain⟨T,id,hT,ht,hg⟩:=hr pins { s3 with heap:=s3.heap.push { cls:=.type "slice",data:=.fields #[vl,vu,.none] } } σ H3 x v vl vu l u s3.heap.objs.size Q I4 r1 (Heap.IsSliceOf.new ..) pl pu q3;show #[am,subscriptTail e (.Slice lo hi none p2) v (.ref s3.heap.objs.size),EP X pins σ Q,X.xe,{ s3 with heap:=s3.heap.push { cls:=.type "slice",data:=.fields #[vl,vu,.none] } }];exact tail_any (ops:=[.ref s3.heap.objs.size,v]) ht hT hg (by with_unfolding_all rfl)
def Jx(xs:#[a])(lo hi:#[D]):#[a]:=(xs.drop (HT.sIx xs.length 0 lo)).take (HT.sIx xs.length xs.length hi-HT.sIx xs.length 0 lo)
theorem A8(xs:#[a])(lo hi:#[D]):(Jx xs lo hi).length<=xs.length:=by
 unfold Jx;rw[zy0,zyt];omega
inductive zjv(K:Frag)(x:V)(y:V)(H:Hp)(Q:VK):Prop where
 | mk(a)(b)(xs)(ys)(_:x=.ref a)(_:y=.ref b)(_:SqT K H a xs)(_:SqT K H b ys)(_:xs≠[])(_:xs.length+ys.length<=sizeLine)(_:(ys=[]->Q (.ref a) H))(_:(ys≠[]->∀ p,H p=none->Q (.ref p) (upd H p (.tup (xs++ys)))))
theorem Vals.nil_iff(r:Vals xs us):us=[]↔xs=[]:=by
 cases r with
 | nil=>simp
 | cons _ _=>simp
theorem ziv:OpR X (binaryOp .Add) (zjv X.K):=by
 intro pins s σ H x y v u Q I rx ry h;obtain⟨a,b,xs,ys,rfl,rfl,ha,hb,hx,hz,q1,q2⟩:=h;cases rx;cases ry;obtain⟨its,r1,p1,_⟩:=I.tuple ha;obtain⟨its2,r2,p2,_⟩:=I.tuple hb;refine HT.cat_tup p1 p2 (fun z=>hx (r1.nil_iff.mp z)) (fun z=>⟨.ref a,H,I,rfl,q1 (r2.nil_iff.mp z)⟩) (fun z=>?_) (by rw[<- r1.length,<- r2.length];exact hz);refine⟨.ref s.heap.objs.size,_,I.laid (t':=s.toks) (o:=.tup (xs++ys)) (fun b ob q=>#[ac,_,q]) (zw1 _) ?_,rfl,q2 (fun w=>z (r2.nil_iff.mpr w)) _ (I.hok.fresh (zw1 _))⟩;exact⟨by rw[zwr];exact hz,_,r1.append r2,IsTup.new _ _⟩
end
def ixN(n:Nat)(i:Int):Option Nat:=if 0<=i then (if i<n then some i.toNat else none) else if -(n:Int)<=i then some (i+n).toNat else none
def atI{α:Type}(xs:List α)(i:Int):Option α:=(ixN xs.length i).bind fun j=>xs[j]?
theorem zdd(h:ixN n i=some j):seqIndex? i n=some j/\j<n/\-(n:Int)<=i/\i<n:=by
 unfold ixN at h;by_cases h0:0<=i
 ·rw[if_pos h0] at h;by_cases h1:i<n
  ·rw[if_pos h1] at h;have e:i.toNat=j:=Option.some.inj h;exact⟨by rw[seqIndex_of h0 h1,e],by omega,by omega,h1⟩
  ·rw[#[h,h1]] at h;cases h
 ·rw[#[h,h0]] at h;by_cases h1:-(n:Int)<=i
  ·rw[if_pos h1] at h;have e:(i+n).toNat=j:=Option.some.inj h;exact⟨by rw[seqIndex_neg ⋯ h1,e],by omega,h1,by omega⟩
  ·rw[#[h,h1]] at h;cases h
theorem zde(h:atI xs i=some v):∃ j,seqIndex? i xs.length=some j/\xs[j]?=some v/\j<xs.length/\-(xs.length:Int)<=i/\i<xs.length:=by
 unfold atI at h;cases e:ixN xs.length i with
 | none=>rw[e] at h;cases h
 | some j =>
   rw[e] at h;obtain⟨h1,h2,h3,h4⟩:=zdd e;exact⟨j,h1,h,h2,h3,h4⟩
theorem Zz{α:Type}{xs:List α}{j:Nat}{v:α}(h:xs[j]?=some v):atI xs (j:Int)=some v:=by
 have hj:j<xs.length:=(zwq.mp h).1;have e:ixN xs.length (j:Int)=some j:=by
  unfold ixN;rw[if_pos ⋯,if_pos ⋯];simp
 unfold atI;rw[e];exact h
theorem atI_last(xs:List α)(v:α):atI (xs++[v]) (-1)=some v:=by
 have hl:(xs++[v]).length=xs.length+1:=by simp
 have e:ixN (xs++[v]).length (-1)=some xs.length:=by
  unfold ixN;rw[hl,if_neg ⋯,if_pos ⋯]
  congr 1
  omega
 unfold atI;rw[e];show (xs++[v])[xs.length]?=some v;simp
def zdf(b:Expr):Prop:=∀ o i,subscripted b false o i=operate [o,i] (getItem o i)
def IxR(X:Cx)(r:R2):Prop :=
 ∀ (value slice:Expr) (pins:#[C]) (s:Shared) (σ:St) (H:Hp) (x y:V) (v u:Value) (Q:VK),#[l]->RelV x v->RelV y u->r x y H Q ->
   subscripted slice false v u=operate [v,u] (getItem v u)->wpAny (model X.prog X.w) X.A (subscriptTail value slice v u) (EP X pins σ Q) X.xe s
def MtR(X:Cx)(id:String)(r:V->#[a]->Hp->VK->Prop):Prop :=
 ∀ (pins:#[C]) (s:Shared) (σ:St) (H:Hp) (x:V) (xs:#[a]) (v:Value) (us:#[Q]) (Q:VK),#[l]->RelV x v->Vals xs us->r x xs H Q ->
   wpAny (model X.prog X.w) X.A (call (.builtin id) (v :: us)) (EP X pins σ Q) X.xe s
section
variable{X:Cx}{a b:Expr}{ta tb:TE}{pos:Pos}
theorem zmc(hr:IxR X r)(ha:PE X a ta)(hb:PE X b tb)(hs:zdf b):PE X (.Subscript a b pos) (tOp r ta tb):=by
 intro pins s σ H Q I h;exact Subscript_ (binT ha hb I h fun v u s2 x y H2 I2 rx ry q=>hr a b pins s2 σ H2 x y v u Q I2 rx ry q (hs _ _))
inductive Et(K:Frag)(x:V)(y:V)(H:Hp)(Q:VK):Prop where
 | mk(p)(xs)(i)(v)(_:x=.ref p)(_:y=.int i)(_:SqL K H p xs)(_:atI xs i=some v)(_:Q v H)
inductive zeq(K:Frag)(x:V)(y:V)(H:Hp)(Q:VK):Prop where
 | mk(p)(xs)(i)(v)(_:x=.ref p)(_:y=.int i)(_:SqT K H p xs)(_:atI xs i=some v)(_:Q v H)
theorem ziw:IxR X (Et X.K):=by
 intro value slice pins s σ H x y v u Q I rx ry h hs;obtain⟨p,xs,i,z,rfl,rfl,hq,he,q⟩:=h;cases rx;obtain⟨t,rfl⟩:=ry;obtain⟨its,r,pl,hz⟩:=I.list hq;obtain⟨j,h1,h2,h3,h4,h5⟩:=zde he;obtain⟨w,ew,rw'⟩:=r.get h2;have hl:=r.length;have hn:=Nr;have fin:EP X pins σ Q w s:=⟨z,H,I,rw',q⟩;by_cases h0:0<=i
 ·have hj:i.toNat=j:=by
   rw[seqIndex_of h0 h5] at h1;exact Option.some.inj h1
  exact item_listR pl.isList h0 ⋯ (by rw[hj];simpa using ew) fin hs
 ·have hj:(i+(its.toArray.size:Int)).toNat=j:=by
   rw[seqIndex_neg ⋯ h4] at h1;rw[zw5,<- hl];exact Option.some.inj h1
  exact subscriptTail_builtinR (x:=w) pl.isList.typeIs slot_list_getitem.lookup
   (wpAny_getItem_list_neg (Q:=fun r s'=>r=w/\EP X pins σ Q r s') pl.isList ⋯ (by rw[zw5]<;>omega) ⋯ (by rw[hj];simpa using ew) ⟨rfl,fin⟩) hs
theorem zkr:IxR X (zeq X.K):=by
 intro value slice pins s σ H x y v u Q I rx ry h hs;obtain⟨p,xs,i,z,rfl,rfl,hq,he,q⟩:=h;cases rx;obtain⟨t,rfl⟩:=ry;obtain⟨its,r,pl,hz⟩:=I.tuple hq;obtain⟨j,h1,h2,h3,h4,h5⟩:=zde he;obtain⟨w,ew,rw'⟩:=r.get h2;have hl:=r.length;have hn:=Nr;have fin:EP X pins σ Q w s:=⟨z,H,I,rw',q⟩;exact subscriptTail_builtinR (x:=w) pl.typeIs slot_tuple_getitem.lookup
  (getItem_tuple (j:=j) (Q:=fun r s'=>r=w/\EP X pins σ Q r s') pl ⋯ ⋯ (by rw[zw5,<- hl];exact h1) (by simpa using ew) ⟨rfl,fin⟩) hs
theorem zca(its:#[Q])(n j:Nat)(u:Value):Obj.mapSeq (·.setIfInBounds j u) { cls:=.type "list",data:=.seq its.toArray n }={ cls:=.type "list",data:=.seq (its.set j u).toArray n }:=by
 simp[Obj.mapSeq]
theorem Inv.lst(I:#[l])(h:#[y,H,p,xs]) :
  ∃ (its:#[Q]) (n:Nat),Vals xs its/\s.heap.get? p=some { cls:=.type "list",data:=.seq its.toArray n }/\xs.length<=sizeLine:=by
 obtain⟨z,its,n,r,e⟩:=I.hok p _ h;exact⟨its,n,r,e,z⟩
theorem Inv.lstUpd{pins:#[C]}{σ:St}{H:Hp}{s:Shared}{p:Addr}{xs ys:#[a]}{its its':#[Q]}{n n':Nat}{f:Obj->Obj}(I:#[l])(h:#[y,H,p,xs])
  (ho:s.heap.get? p=some { cls:=.type "list",data:=.seq its.toArray n }) (hf:f { cls:=.type "list",data:=.seq its.toArray n }={ cls:=.type "list",data:=.seq its'.toArray n' }) (r:Vals ys its') (hz:ys.length<=sizeLine) (t:Nat) :
  Inv X pins σ (upd H p (.lst ys)) { s with heap:=s.heap.update p f,toks:=t }:=by
 have e:(s.heap.update p f).get? p=some { cls:=.type "list",data:=.seq its'.toArray n' }:=by
  rw[Heap.get?_update_self f ho (by rw[hf]<;>rfl),hf]
 refine I.write (x:=p) (e:=p) (by rw[h];trivial) (.inl rfl) (fun b u hb q=>(Heap.get?_update_other _ _ (Ne.symm hb)).trans q) ⟨_,e⟩ ?_;exact⟨hz,its',n',r,e⟩
def zmd:V->V->V->Hp->(Hp->Prop)->Prop:=fun o i v H Q=>∃ p xs k j,o=.ref p/\i=.int k/\H p=#[r,xs]/\ixN xs.length k=some j/\Q (upd H p (.lst (xs.set j v)))
theorem Gg:zlu X zmd:=by
 intro pins s σ H o i v ov iv u Q I ro ri rv h;obtain⟨p,xs,k,j,rfl,rfl,hp,hj,q⟩:=h;cases ro;obtain⟨t,rfl⟩:=ri;obtain⟨its,n,r,ho,hz⟩:=I.lst hp;obtain⟨h1,h2,h3,h4⟩:=zdd hj;have hl:=r.length;have hn:=Nr;have I':#[H,upd H p (.lst (xs.set j v)),{ s with heap:=s.heap.update p (Obj.mapSeq (·.setIfInBounds j u)) }] :=
  I.lstUpd hp ho (zca its n j u) (r.set rv j) (by rw[zyj];exact hz) s.toks
 by_cases h0:0<=k
 ·have hk:k.toNat=j:=by
   rw[seqIndex_of h0 h4] at h1;exact Option.some.inj h1
  exact PySem.W.ki_setAt ho h0 ⋯ (by rw[zw5,<- hl];exact h4) (by rw[hk];exact⟨_,I',q⟩)
 ·have hk:(k+(its.toArray.size:Int)).toNat=j:=by
   rw[seqIndex_neg ⋯ h3] at h1;rw[zw5,<- hl];exact Option.some.inj h1
  exact PySem.W.ki_setBack ho ⋯ (by rw[zw5,<- hl];exact h3) ⋯ (by rw[hk];exact⟨_,I',q⟩)
theorem Bf(lo hi:#[D])(n:Nat):(sliceBounds lo hi none n).1=((HT.sIx n 0 lo:Nat):Int)/\(sliceBounds lo hi none n).2.1=((HT.sIx n n hi:Nat):Int)/\(sliceBounds lo hi none n).2.2=1:=by
 refine#[L,?_,?_]
 ·cases lo with
  | none=>simp[sliceBounds,HT.sIx]
  | some i =>
    simp only[sliceBounds,HT.sIx,Option.getD_none,show (1:Int)>0 by decide,if_true];by_cases h:i<0
    ·simp only[h,if_true]<;>omega
    ·simp only[h,if_false]<;>omega
 ·cases hi with
  | none=>simp[sliceBounds,HT.sIx]
  | some i =>
    simp only[sliceBounds,HT.sIx,Option.getD_none,show (1:Int)>0 by decide,if_true];by_cases h:i<0
    ·simp only[h,if_true]<;>omega
    ·simp only[h,if_false]<;>omega
theorem Eu(its:#[Q])(lo hi:#[D]):slicePick its.toArray lo hi none=((its.drop (HT.sIx its.length 0 lo)).take (HT.sIx its.length its.length hi-HT.sIx its.length 0 lo)).toArray:=by
 obtain⟨h1,h2,h3⟩:=Bf lo hi its.toArray.size;unfold slicePick;rw[h1,h2,h3];simp only[sliceRange_one,pick_run,zw5]<;>rfl
def zix(K:Frag):V->#[D]->#[D]->Hp->VK->Prop:=fun x lo hi H Q=>∃ a xs,x=.ref a/\SqL K H a xs/\∀ p,H p=none->Q (.ref p) (upd H p (.lst (Jx xs lo hi)))
theorem ziy:SlR X (zix X.K):=by
 intro pins s σ H x v vl vu lo hi sl Q I rx hs pl pu h;obtain⟨a,xs,rfl,hx,q⟩:=h;cases rx;obtain⟨its,r,ht,hz⟩:=I.list hx;have hlen:=r.length;refine⟨"list",_,slot_list_getitem.lookup,ht.isList.typeIs,?_⟩;refine wpAny_getItem_list_slice ht.isList hs pl pu .none (by simp) ?_ (by rw[zw5]<;>omega);rw[Eu,<- hlen];refine⟨.ref s.heap.objs.size,_,I.laid (t':=s.toks) (o:=.lst (Jx xs lo hi)) (fun b ob q=>#[ac,_,q]) (zw1 _) ?_,rfl,q _ (I.hok.fresh (zw1 _))⟩;exact⟨zw4 (A8 xs lo hi) hz,_,0,(r.drop (HT.sIx xs.length 0 lo)).take (HT.sIx xs.length xs.length hi-HT.sIx xs.length 0 lo),Heap.get?_push_size _ rfl⟩
def Tb:V->Bool
 | .non=>true
 | .bl _=>true
 | .int _=>true
 | .str _=>true
 | _=>false
def eqV:V->V->Bool
 | .non,.non=>true
 | .bl a,.bl b=>a == b
 | .bl a,.int b=>(if a then 1 else 0) == b
 | .int a,.bl b=>a == (if b then 1 else 0)
 | .int a,.int b=>a == b
 | .str a,.str b=>a == b
 | _,_=>false
theorem zks(ry:RelV y u)(rx:RelV x v)(fy:Tb y=true)(fx:Tb x=true):SeqAt.EqAt A s u v (eqV y x):=by
 cases y with
 | non =>
   cases ry;cases x with
   | non=>cases rx;exact SeqAt.EqAt.same _
   | bl b=>cases rx;exact SeqAt.EqAt.none_bool b
   | int b=>obtain⟨t,rfl⟩:=rx;exact SeqAt.EqAt.none_int b t
   | str b=>obtain⟨t,rfl⟩:=rx;exact SeqAt.EqAt.none_str b t
   | _=>exact absurd (show false=true from fx) zxe
 | bl a =>
   cases ry;cases x with
   | non=>cases rx;exact SeqAt.EqAt.bool_none a
   | bl b=>cases rx;exact SeqAt.EqAt.bool_bool a b
   | int b=>obtain⟨t,rfl⟩:=rx;exact SeqAt.EqAt.bool_int a b t
   | str b=>obtain⟨t,rfl⟩:=rx;exact SeqAt.EqAt.bool_str a b t
   | _=>exact absurd (show false=true from fx) zxe
 | int a =>
   obtain⟨t',rfl⟩:=ry;cases x with
   | non=>cases rx;exact SeqAt.EqAt.int_none a t'
   | bl b=>cases rx;exact SeqAt.EqAt.int_bool a t' b
   | int b=>obtain⟨t,rfl⟩:=rx;exact SeqAt.EqAt.int_int a t' b t
   | str b=>obtain⟨t,rfl⟩:=rx;exact SeqAt.EqAt.int_str a t' b t
   | _=>exact absurd (show false=true from fx) zxe
 | str a =>
   obtain⟨t',rfl⟩:=ry;cases x with
   | non=>cases rx;exact SeqAt.EqAt.str_none a t'
   | bl b=>cases rx;exact SeqAt.EqAt.str_bool a t' b
   | int b=>obtain⟨t,rfl⟩:=rx;exact SeqAt.EqAt.str_int a t' b t
   | str b=>obtain⟨t,rfl⟩:=rx;exact SeqAt.EqAt.str_str a t' b t
   | _=>exact absurd (show false=true from fx) zxe
 | _=>exact absurd (show false=true from fy) zxe
def eqU(x:V)(u:Value):Bool:=match u with
 | .none=>eqV .non x
 | .bool b=>eqV (.bl b) x
 | .int i _=>eqV (.int i) x
 | .str z _=>eqV (.str z) x
 | _=>false
theorem zcb(r:RelV y u)(f:Tb y=true):eqU x u=eqV y x:=by
 cases y with
 | non=>cases r;rfl
 | bl b=>cases r;rfl
 | int i=>obtain⟨t,rfl⟩:=r;rfl
 | str z=>obtain⟨t,rfl⟩:=r;rfl
 | _=>exact absurd (show false=true from f) zxe
theorem M3:∀ {xs:List V} {us:List Value},Vals xs us->xs.all Tb=true->us.any (eqU x)=xs.any fun y=>eqV y x
 | _,_,.nil,_=>rfl
 | y :: xs,u :: us,.cons r t,f=>by
   rw[List.all_cons,zx6] at f;rw[zyx,zyx,zcb r f.1,M3 t f.2]
theorem Rx(rx:RelV x v)(fx:Tb x=true):∀ {xs:List V} {us:List Value},Vals xs us->xs.all Tb=true->∀ u∈us,SeqAt.EqAt A s u v (eqU x u)
 | _,_,.nil,_=>fun u hu=>by cases hu
 | y :: xs,u :: us,.cons r t,f=>fun u' hu=>by
   rw[List.all_cons,zx6] at f;rcases zwy.mp hu with rfl|hu
   ·rw[zcb r f.1];exact zks r rx f.1 fx
   ·exact Rx rx fx t f.2 u' hu
def inV(x:V)(xs:#[a]):Bool:=xs.any fun y=>eqV y x
inductive rIn(K:Frag)(neg:Bool)(x:V)(y:V)(H:Hp)(Q:VK):Prop where
 | mk(p)(xs)(_:y=.ref p)(_:(SqL K H p xs\/SqT K H p xs))(_:Tb x=true)(_:xs.all Tb=true)(_:Q (.bl (if neg then !inV x xs else inV x xs)) H)
theorem zer:OpR X (compareOp .In) (rIn X.K false):=by
 intro pins s σ H x y v u Q I rx ry h;obtain⟨p,xs,rfl,hq,fx,fs,q⟩:=h;cases ry;rcases hq with hq|hq
 ·obtain⟨its,r,pl,hz⟩:=I.list hq;refine SeqAt.in_listAt (eqU x) pl.isList (fun w hw=>Rx rx fx r fs w (by simpa using hw)) ⟨.bl _,H,I,rfl,?_⟩;rw[show its.toArray.any (eqU x)=its.any (eqU x) by simp,M3 r fs];exact q
 ·obtain⟨its,r,pl,hz⟩:=I.tuple hq;refine SeqAt.in_tupleAt (eqU x) pl (fun w hw=>Rx rx fx r fs w (by simpa using hw)) ⟨.bl _,H,I,rfl,?_⟩;rw[show its.toArray.any (eqU x)=its.any (eqU x) by simp,M3 r fs];exact q
theorem Bg:OpR X (compareOp .NotIn) (rIn X.K true):=by
 intro pins s σ H x y v u Q I rx ry h;obtain⟨p,xs,rfl,hq,fx,fs,q⟩:=h;cases ry;rcases hq with hq|hq
 ·obtain⟨its,r,pl,hz⟩:=I.list hq;refine SeqAt.notIn_listAt (eqU x) pl.isList (fun w hw=>Rx rx fx r fs w (by simpa using hw)) ⟨.bl _,H,I,rfl,?_⟩;rw[show its.toArray.any (eqU x)=its.any (eqU x) by simp,M3 r fs];exact q
 ·obtain⟨its,r,pl,hz⟩:=I.tuple hq;refine SeqAt.notIn_tupleAt (eqU x) pl (fun w hw=>Rx rx fx r fs w (by simpa using hw)) ⟨.bl _,H,I,rfl,?_⟩;rw[show its.toArray.any (eqU x)=its.any (eqU x) by simp,M3 r fs];exact q
theorem Bh:V5 X (.builtin "len") (fun xs H Q=>∃ p ys,xs=[.ref p]/\(SqL X.K H p ys\/SqT X.K H p ys)/\Q (.int ys.length) H):=by
 intro pins s σ H xs us Q I r h;obtain⟨p,ys,rfl,hq,q⟩:=h;obtain⟨u,rfl,rx⟩:=T3 r;cases rx;have hn:=Nr;rcases hq with hq|hq
 ·obtain⟨its,r',pl,hz⟩:=I.list hq;have hlen:=r'.length;exact Calls.call_len_list pl.isList (by simp only[zw5]<;>omega) ⟨.int ys.length,H,I.tok _,⟨s.toks+1,by rw[zw5,hlen]⟩,q⟩
 ·obtain⟨its,r',pl,hz⟩:=I.tuple hq;have hlen:=r'.length;exact len_tuple pl (by simp only[zw5]<;>omega) ⟨.int ys.length,H,I.tok _,⟨s.toks+1,by rw[zw5,hlen]⟩,q⟩
theorem Bi:V5 X (.type "list") (fun xs H Q=>∃ p ys,xs=[.ref p]/\(SqL X.K H p ys\/SqT X.K H p ys)/\∀ l,H l=none->Q (.ref l) (upd H l (.lst ys))):=by
 intro pins s σ H xs us Q I r h;obtain⟨p,ys,rfl,hq,q⟩:=h;obtain⟨u,rfl,rx⟩:=T3 r;cases rx;have fin:∀ (its:#[Q]),Vals ys its->ys.length<=sizeLine->∀ (h':Heap) (c':Nat),(∀ b o',#[ab]=some o'->h'.get? b=some o') ->
   h'.get? s.heap.objs.size=some { cls:=.type "list",dict:=none,data:=.seq its.toArray c',slots:=#[] }->EP X pins σ Q (.ref s.heap.objs.size) { s with heap:=h' }:=fun its r' hz h' c' kp e =>
  ⟨.ref s.heap.objs.size,_,I.laid (t':=s.toks) kp (zw1 _) (show Xi X.prog X.w _ h' _ (.lst ys) from⟨hz,its,c',r',e⟩),rfl,q _ (I.hok.fresh (zw1 _))⟩
 rcases hq with hq|hq
 ·obtain⟨its,r',pl,hz⟩:=I.list hq;have hlen:=r'.length;obtain⟨o,ho,hc,n,hd⟩:=pl.isList;exact call_list_seq p (.inl rfl) ho hc hd (fun h' c' kp e=>fin its r' hz h' c' kp e) (by simp only[zw5]<;>omega)
 ·obtain⟨its,r',pl,hz⟩:=I.tuple hq;have hlen:=r'.length;obtain⟨o,ho,hc,n,hd⟩:=pl;exact call_list_seq p (.inr rfl) ho hc hd (fun h' c' kp e=>fin its r' hz h' c' kp e) (by simp only[zw5]<;>omega)
theorem Ew:V5 X (.type "tuple") (fun xs H Q=>∃ p ys,xs=[.ref p]/\((SqL X.K H p ys/\∀ l,H l=none->Q (.ref l) (upd H l (.tup ys)))\/(SqT X.K H p ys/\Q (.ref p) H))):=by
 intro pins s σ H xs us Q I r h;obtain⟨p,ys,rfl,h⟩:=h;obtain⟨u,rfl,rx⟩:=T3 r;cases rx;rcases h with ⟨hq,q⟩|⟨hq,q⟩
 ·obtain⟨its,r',pl,hz⟩:=I.list hq;have hlen:=r'.length;refine call_tuple_list pl.isList (fun h' kp=>?_) (by simp only[zw5]<;>omega);have I1:#[H,H,{ s with heap:=h' }]:=I.kept (t':=s.toks) kp;have I2:#[H,upd H h'.objs.size (.tup ys),{ s with heap:=h'.push { cls:=.type "tuple",data:=.seq its.toArray } }] :=
   I1.laid (t':=s.toks) (fun b o e=>#[ac,_,e]) (zw1 _) (show Xi X.prog X.w _ _ _ (.tup ys) from⟨hz,its,r',IsTup.new _ _⟩)
  exact⟨.ref h'.objs.size,_,I2,rfl,q _ (I1.hok.fresh (zw1 _))⟩
 ·obtain⟨its,r',pl,hz⟩:=I.tuple hq;exact call_tuple_same pl ⟨.ref p,H,I,rfl,q⟩
def tyV(K:Frag)(T:String)(x:V)(H:Hp):Prop:=match x with
 | .str _=>T="str"
 | .int _=>T="int"
 | .ref p=>(T="list"/\∃ xs,SqL K H p xs)\/(T="tuple"/\∃ o,K.lookup p=#[d]/\o.cls=.type "tuple"/\o.dict=none) \/
   (T="dict"/\((∃ kvs,H p=#[b,.dK,kvs])\/∃ kvs,H p=#[b,.dT,kvs]))\/(T="set"/\∃ S n,H p=some (.set S n))
 | _=>False
theorem zcc(I:#[l])(r:RelV x v)(ty:tyV X.K T x H) :
  s.TypeIs v T/\∀ a,v=.ref a->∃ ob,s.heap.get? a=some ob/\ob.dict=none:=by
 cases x with
 | str z =>
   obtain⟨t,rfl⟩:=r;cases (show T="str" from ty);exact⟨typeIs_str s z t,fun _ e=>nomatch e⟩
 | int i =>
   obtain⟨t,rfl⟩:=r;cases (show T="int" from ty);exact⟨typeIs_int s i t,fun _ e=>nomatch e⟩
 | ref p =>
   cases r;rcases ty with ⟨rfl,xs,hq⟩|⟨rfl,o,hk,hc,hd⟩|⟨rfl,hk⟩|⟨rfl,S,n,hk⟩
   ·obtain⟨its,_,pl,_⟩:=I.list hq;refine⟨pl.isList.typeIs,fun a e=>?_⟩;cases e;obtain⟨o,n,e,c,hd,_⟩:=pl;exact⟨o,e,hd⟩
   ·refine⟨⟨o,I.kIn p o hk,hc⟩,fun a e=>?_⟩;cases e;exact⟨o,I.kIn _ o hk,hd⟩
   ·have z:∃ o,s.heap.get? p=#[d]/\o.ExactDict:=by
     rcases hk with ⟨kvs,hk⟩|⟨kvs,hk⟩
     ·obtain⟨_,_,_,_,o,_,_,e,ex,_⟩:=I.hok p _ hk;exact⟨o,e,ex⟩
     ·obtain⟨_,_,_,_,o,_,_,e,ex,_⟩:=I.hok p _ hk;exact⟨o,e,ex⟩
    obtain⟨o,e,ex⟩:=z;refine⟨⟨o,e,ex.1⟩,fun a e2=>?_⟩;cases e2;exact⟨o,e,ex.2.1⟩
   ·obtain⟨o,_,_,_,e,ex,_⟩:=I.hok p _ hk;refine⟨⟨o,e,ex.1⟩,fun a e2=>?_⟩;cases e2;exact⟨o,e,ex.2.1⟩
 | _=>exact False.elim ty
inductive zme(K:Frag)(T:String)(r:V->#[a]->Hp->VK->Prop)(Q:VK)(x:V)(H1:Hp):Prop where
 | mk(_:tyV K T x H1)(_:r x [] H1 Q)
def zm8(K:Frag)(T:String)(r:V->#[a]->Hp->VK->Prop)(to:TE):TE:=fun σ H Q=>to σ H fun x H1=>zme K T r Q x H1
inductive zm9(K:Frag)(T:String)(r:V->#[a]->Hp->VK->Prop)(t:TA)(σ:L2.St)(Q:VK)(x:V)(H1:Hp):Prop where
 | mk(_:tyV K T x H1)(_:t σ H1 fun xs H2=>r x xs H2 Q)
def tBM(K:Frag)(T:String)(r:V->#[a]->Hp->VK->Prop)(to:TE)(t:TA):TE:=fun σ H Q=>to σ H fun x H1=>zm9 K T r t σ Q x H1
variable{o e:Expr}{es:List Expr}{to:TE}{t:TA}{name:Str}{apos cpos:Pos}{T id:String}{r:V->#[a]->Hp->VK->Prop}
theorem zgq(pa:PlainAttrs T)(slot:Slot T name id)(hty:typeOf (.builtin id)=pure (.type "method_descriptor"))(hm:MtR X id r)(ho:PE X o to)
  (hbase:attributeBase o name X.env #[G,o]=eval o X.env:=by rfl) (hline:(apos.endLine == cpos.line)=true:=by rfl):PE X (.Call (.Attribute o name apos) [] [] cpos) (zm8 X.K T r to):=by
 intro pins s σ H Q I h;refine wpAny_Call_method0_late hbase hline (thn (ho pins s σ H _ I h) fun v s1 ⟨x,H1,I1,r1,ty,q1⟩=>?_);obtain⟨h1,h2⟩:=zcc I1 r1 ty;exact⟨T,id,pa,slot,hty,h1,h2,Calls.callWith_builtin rfl (PySem.evalArgs_none (hm pins s1 σ H1 x [] v [] Q I1 r1 .nil q1))⟩
theorem zdg(pa:PlainAttrs T)(slot:Slot T name id)(hty:typeOf (.builtin id)=pure (.type "method_descriptor"))(hm:MtR X id r)(ho:PE X o to)(ha:PA X (e :: es) t)
  (hbase:attributeBase o name X.env #[G,o]=eval o X.env:=by rfl)
  (hfew:((backTo cpos (starEach (e :: es) X.env)).all (fun x=>!x.1)&&(backToKw cpos (keywordEach [] X.env)).all (fun x=>x.1.isSome)
   && decide ((e :: es).length+([]:List Keyword).length+(if ([]:List Keyword).isEmpty then 0 else 1)<30))=true:=by rfl)
  (hline:(apos.endLine == cpos.line)=true:=by rfl) (hs:starEach (e :: es) X.env=(false,#[G,e]) :: starEach es X.env:=by rfl) (hplain:(backTo cpos (starEach es X.env)).any (·.1)=false:=by rfl) :
  PE X (.Call (.Attribute o name apos) (e :: es) [] cpos) (tBM X.K T r to t):=by
 intro pins s σ H Q I h;refine wpAny_Call_method_late hbase hfew hline rfl (thn (ho pins s σ H _ I h) fun v s1 ⟨x,H1,I1,r1,ty,q1⟩=>?_);obtain⟨h1,h2⟩:=zcc I1 r1 ty;refine⟨T,id,pa,slot,hty,h1,h2,?_⟩;have hA:=ha cpos pins s1 σ H1 _ I1 q1;rw[hs] at hA ⊢;refine Calls.callWith_builtin (by show (false||(backTo cpos (starEach es X.env)).any (·.1))=false;rw[hplain]<;>rfl) (Calls.evalArgs_plain ?_);exact thn hA fun us s2 ⟨vs,H2,I2,r2,q2⟩=>hm pins s2 σ H2 x vs v us Q I2 r1 r2 q2
end
def MtM(X:Cx)(id:String)(r:V->#[a]->Hp->VK->Prop):Prop :=
 ∀ (pins:#[C]) (s:Shared) (σ:St) (H:Hp) (x:V) (xs:#[a]) (v:Value) (us:#[Q]) (Q:VK),#[l]->RelV x v->Vals xs us->r x xs H Q ->
   wpAny (model X.prog X.w) X.A (call (.builtin id) (v :: us)) (EP X pins σ Q) X.xe s
theorem Vals.one:∀ {x:V} {us:List Value},Vals [x] us->∃ u,us=[u]/\RelV x u
 | _,_,.cons r .nil=>#[q,_,r]
theorem Vals.zero:∀ {us:List Value},Vals [] us->us=[]
 | _,.nil=>rfl
theorem Vals.dropLast(h:Vals xs us):Vals xs.dropLast us.dropLast:=by
 induction h with
 | nil=>exact .nil
 | cons r t ih =>
   cases t with
   | nil=>exact .nil
   | cons q t'=>exact .cons r ih
theorem Vals.reverse(h:Vals xs us):Vals xs.reverse us.reverse:=by
 induction h with
 | nil=>exact .nil
 | cons r t ih=>rw[zyy,zyy];exact Vals.append ih (.cons r .nil)
theorem zcd(l:List α):l.eraseIdx (l.length-1)=l.dropLast:=by
 induction l with
 | nil=>rfl
 | cons a r ih =>
   cases r with
   | nil=>rfl
   | cons b r =>
     have e:(a :: b :: r).length-1=((b :: r).length-1)+1:=by
      have h1:(a :: b :: r).length=r.length+2:=rfl;have h2:(b :: r).length=r.length+1:=rfl;omega
     rw[e,List.eraseIdx_cons_succ,ih]
     all_goals rfl
section
variable{X:Cx}{pins:#[C]}{σ:St}{H:Hp}{s:Shared}{l b:Addr}{xs ys zs:#[a]}
theorem Inv.lset{its its':#[Q]}{n:Nat}{f:Array Value->Array Value}{t':Nat}(I:#[l])(hH:#[y,H,l,xs])
  (e:s.heap.get? l=some { cls:=.type "list",data:=.seq its.toArray n }) (hf:f its.toArray=its'.toArray) (hv:Vals ys its') (hz:ys.length<=sizeLine) :
  Inv X pins σ (upd H l (.lst ys)) { s with heap:=s.heap.update l (Obj.mapSeq f),toks:=t' }:=by
 have q:=PySem.IsL.update e f;rw[hf] at q;refine I.write (x:=l) (e:=l) (by rw[hH];exact trivial) (.inl rfl) (fun b' u hb hu=>(Heap.get?_update_other s.heap (Obj.mapSeq f) (Ne.symm hb)).trans hu) ⟨_,q⟩ ?_;exact⟨hz,its',_,hv,q⟩
theorem Inv.lnew(I:#[l])(hv:Vals ys its)(hz:ys.length<=sizeLine) :
  Inv X pins σ (upd H s.heap.objs.size (.lst ys)) { s with heap:=s.heap.push { cls:=.type "list",data:=.seq its.toArray },toks:=t' } :=
 I.laid (fun _ _ q=>#[ac,_,q]) (zw1 _) ⟨hz,its,0,hv,Heap.get?_push_size _ rfl⟩
theorem Inv.fresh(I:#[l]):H s.heap.objs.size=none:=I.hok.fresh (zw1 _)
theorem Inv.lstM(I:#[l])(hH:#[y,H,l,xs]):xs.length<=sizeLine/\∃ (its:List Value) (n:Nat),Vals xs its/\xs.length=its.length/\s.heap.get? l=some { cls:=.type "list",data:=.seq its.toArray n }:=by
 obtain⟨z,its,n,r,e⟩:=I.hok l _ hH;exact⟨z,its,n,r,r.length,e⟩
end
section
variable{X:Cx}
inductive ziz(x:V)(vs:#[a])(H:Hp)(Q:VK):Prop where
 | mk(l)(xs)(y)(_:x=.ref l)(_:vs=[y])(_:#[y,H,l,xs])(_:xs.length<sizeLine)(_:Q .non (upd H l (.lst (xs++[y]))))
theorem zes:MtM X "list.append" ziz:=by
 intro pins s σ H x vs v us Q I rx rv h;obtain⟨l,xs,y,rfl,rfl,hH,hz,q⟩:=h;cases rx;obtain⟨u,rfl,ru⟩:=rv.one;obtain⟨z,its,n,r,hl,e⟩:=I.lstM hH;refine call_meets F.slot_list_append #[L,_,e] F.entry_list_append (F.args_list_append_2 _ _) (PySem.list_append l its.toArray n u (by rw[zw5];omega)) ⟨e,?_⟩;refine⟨.non,_,I.lset (its':=its++[u]) hH e (by simp) (r.append (.cons ru .nil)) ?_,rfl,q⟩;rw[zwr,List.length_singleton];omega
inductive zna(x:V)(vs:#[a])(H:Hp)(Q:VK):Prop where
 | mk(l)(xs)(y)(_:x=.ref l)(_:vs=[])(_:#[y,H,l,xs])(_:xs[xs.length-1]?=some y)(_:Q y (upd H l (.lst xs.dropLast)))
theorem zkt:MtM X "list.pop" zna:=by
 intro pins s σ H x vs v us Q I rx rv h;obtain⟨l,xs,y,rfl,rfl,hH,hy,q⟩:=h;cases rx;have hus:=rv.zero;subst hus;obtain⟨z,its,n,r,hl,e⟩:=I.lstM hH;obtain⟨u,hu,ru⟩:=r.get hy;have hy':its.toArray[its.toArray.size-1]?=some u:=by
  show its.toArray[its.length-1]?=some u;rw[<- Array.getElem?_toList,<- hl];exact hu
 refine call_meets F.slot_list_pop #[L,_,e] F.entry_list_pop (F.args_list_pop_1 _) (MeetsSeq.list_pop_last l its.toArray n u hy' (by rw[zw5];omega)) ⟨e,?_⟩;refine⟨y,_,I.lset (its':=its.dropLast) hH e ?_ r.dropLast ?_,ru,q⟩
 ·show its.toArray.eraseIdxIfInBounds (its.toArray.size-1)=its.dropLast.toArray;rw[zw5,List.eraseIdxIfInBounds_toArray,zcd]
 ·rw[List.length_dropLast];omega
inductive zgr(x:V)(vs:#[a])(H:Hp)(Q:VK):Prop where
 | mk(l)(xs)(_:x=.ref l)(_:vs=[])(_:#[y,H,l,xs])(_:Q .non (upd H l (.lst xs.reverse)))
theorem zce:MtM X "list.reverse" zgr:=by
 intro pins s σ H x vs v us Q I rx rv h;obtain⟨l,xs,rfl,rfl,hH,q⟩:=h;cases rx;have hus:=rv.zero;subst hus;obtain⟨z,its,n,r,hl,e⟩:=I.lstM hH;refine call_meets F.slot_list_reverse #[L,_,e] F.entry_list_reverse (F.args_list_reverse_1 _) (AutoSeq1.list_reverse_list_0 l its.toArray n (by rw[zw5];omega)) ⟨e,?_⟩;refine⟨.non,_,I.lset (its':=its.reverse) hH e (by simp) r.reverse ?_,rfl,q⟩;rw[List.length_reverse];omega
inductive znb(x:V)(y:V)(H:Hp)(Q:VK):Prop where
 | mk(l)(b)(xs)(zs)(_:x=.ref l)(_:y=.ref b)(_:#[y,H,l,xs])(_:#[y,H,b,zs])(_:xs.length+zs.length<=sizeLine)(_:∀ p,H p=none->Q (.ref p) (upd H p (.lst (xs++zs))))
theorem Gh:OpR X (binaryOp .Add) znb:=by
 intro pins s σ H x y v u Q I rx ry h;obtain⟨l,b,xs,zs,rfl,rfl,hH,hB,hz,q⟩:=h;cases rx;cases ry;obtain⟨z,its,n,r,hl,e⟩:=I.lstM hH;obtain⟨z2,its2,n2,r2,hl2,e2⟩:=I.lstM hB;refine PySem.P.add_list e e2 ?_ (by rw[zw5,zw5];omega);have ea:its.toArray++its2.toArray=(its++its2).toArray:=by simp
 rw[ea];exact⟨.ref _,_,I.lnew (t':=s.toks) (r.append r2) (by rw[zwr];omega),rfl,q _ I.fresh⟩
end
end L2
namespace Att
open PySem PySem.W PySem.Calls PyProof.Rows
theorem Jy:∀ (ns:List Int) (vs:List Value),WellAll P h vs (ns.map WData.int)->IntsAre vs ns:=by
 intro ns
 induction ns with
 | nil =>
   intro vs w;rw[List.map_nil] at w;cases w;exact .nil
 | cons n ns ih =>
   intro vs w;rw[zw2] at w;cases w with
   | cons a b =>
     cases a;exact .cons _ _ (ih _ b)
theorem zet{l:OpenLaw}{n:Nat}(hn:l.most=some n){P:Params}{h:Heap}{args:List WData}{vals:#[Q]}
  (hpre:l.row.toRowW.claim.pre args=true) (hwl:WellAll P h vals args) :
  ∃ a vs ns,vals=[Value.ref a]/\args=[WData.list (ns.map WData.int)]/\h.get? a=some { cls:=.type "list",data:=.seq vs.toArray }/\IntsAre vs ns/\ns.length<=n:=by
 have hsh:WShape.hasAll [] args [.list .int]=true:=(pre_splitW hpre).1;have hc:l.pre.holds [] { args:=args }=true:=(pre_splitW hpre).2;obtain⟨d,r,rfl,h1,h2⟩:=hasAllW_cons hsh;obtain rfl:=hasAllW_nil h2;obtain⟨xs,rfl,h3⟩:=hasW_list h1;obtain⟨ns,rfl⟩:=items_int h3;have hlen:ns.length<=n:=by
  unfold OpenLaw.pre at hc;have h4:(WTm.not (.lt (.lit (.int (n:Int))) (.len (.arg 0)))).holds [] { args:=[.list (ns.map .int)] }=true:=by
   have h4:=(holds_andW hc).1;rw[hn] at h4;exact h4
  have h5:=condW_of h4 (w_not (w_lt w_lit (w_len_list (w_arg rfl))));rw[zwo] at h5;refine Nat.le_of_not_lt fun q=>?_;have q':(n:Int)<((ns.length:Nat):Int):=by omega
  first
   | (rw[zwu q'] at h5;exact absurd h5 ⋯)
   | (simp at h5;omega)
 cases hwl with
 | cons w1 w2 =>
   cases w2;cases w1 with
   | list ho hall=>exact⟨_,_,ns,rfl,rfl,ho,Jy ns _ hall,hlen⟩
theorem zeu(l:OpenLaw)(args:List WData):l.row.toRowW.claim.post args (.bool true) args=true :=
 postW_of (r:=l.row.toRowW) (X:=(true == true))
  (show WShape.has [] (.bool true) .bool=true by first|rfl|decide|simp[WShape.has,WShape.arms,WShape.armsAll])
  (show (WTm.eq .res (.lit (.bool true))).value [] { args:=args,res:=#[b,.bool,true],after:=args }=#[b,.bool,true == true] from w_eq_bool (w_res rfl) w_lit) rfl
theorem attach_call{l:OpenLaw}{n:Nat}{q:Program}{loose:List Str}{XP:#[R]->Heap->Prop}{YP:World->Heap->Prop}{d:DefRec}
  (hn:l.most=some n) (hdf:d.params.defaults=[])
  (call:∀ (w:World) (s₀ s₁:Shared) (mg mb:#[R]) (fa:Addr) (o:Obj) (pm cd doc:Value) (a:Addr) (vs:#[Q]) (ns:#[o]),
   Ground q loose [] XP w s₀ mg mb s₁.heap->YP w s₁.heap ->
   s₁.heap.get? fa=some o->o.data=.func (docDef d.name d.params d.body d.scope pm cd doc)->s₁.heap.CodeRec cd d.name->mg d.name=some (.ref fa) ->
   s₁.heap.get? a=some { cls:=.type "list",data:=.seq vs.toArray }->IntsAre vs ns->ns.length<=n->s₁.gens=#[] ->
   codeAny (model l.prog w) callerA (.call (.ref fa) ⟨[.ref a],[]⟩) (fun r s'=>r=.ok (.ret (.bool true))/\OldK s₁.heap s'.heap/\s'.os=s₁.os/\AllBare s'.gens) s₁) :
  WalkO q loose XP YP l.row.toRowW d [] (fun f vs=>PySem.call f vs):=by
 intro w s₀ s₁ mg mb G Y fa o pm cd doc dV kV ho hd hcd hD hmg hg args vals as hpre hlay hrd hwl hlo;obtain rfl:dV=.none:=Dflts.none hD hdf;obtain rfl:kV=.none:=Dflts.noKw hD;obtain⟨a,vs,ns,rfl,rfl,hobj,hints,hlen⟩:=zet hn hpre hwl;refine enter_call (codeAny_mono (call w s₀ s₁ mg mb fa o pm cd doc a vs ns G Y ho (fd_plain hd) hcd hmg hobj hints hlen hg) fun r s' hq=>?_);obtain⟨rfl,h2,h3,h4⟩:=hq;exact⟨.inl ⟨.bool true,.bool true,[],rfl,fun _=>rfl,.bool true,zeu l _,fun _=>⟨List.Pairwise.nil,fun _ hm=>(nomatch hm)⟩⟩,h2,h3,h4⟩
end Att
namespace L2
open PySem PySem.Spec PyProof.Rows
theorem Kc:∀ {vs:List Value} {ns:List Int},IntsAre vs ns->Vals (ns.map V.int) vs
 | _,_,.nil=>.nil
 | _,_,.cons n t h=>.cons #[w,t] (Kc h)
def zku(H:Hp):Prop:=∀ b,H b=none\/∃ o xs,H b=some (.frz o (.lst xs))
theorem zgs{P:Program}{w:World}{K:Frag}{mg mb:#[R]}{CX:CXT}{k:Nat}{fa a:Addr}{fd:FuncData}{x:Str}{sp:Sp}{s₁:Shared}{vs:#[Q]}{ns:#[o]}
  (KX:K.In s₁.heap) (hns:s₁.heap.Ns mainGlobals mg) (hb:s₁.heap.Ns builtinsNs mb) (hbb:∀ x:Str,x≠"__name__"->mb x=bootBuiltins x) (hlim:s₁.heap.NoLimit) (hg:s₁.gens=#[])
  (ha:s₁.heap.get? a=some { cls:=.type "list",data:=.seq vs.toArray }) (hi:IntsAre vs ns) (hl:ns.length<=sizeLine) (hr:Vq k callerA)
  (F:∀ base:Heap,K.In base->base.Ns mainGlobals mg->FnOk P w K mg base CX k fa fd [x] sp) (hbind:∀ (s:Shared) (u:Value),BindsTo s fd ⟨[u],[]⟩ [(x,u)])
  (hsp:∀ H:Hp,zku H->SqL K H a (ns.map V.int)->sp [.ref a] H (fun v _=>v=.bl true) fun _ _ _=>False)
  (hCX:∀ H e s',CX [] H s₁ (fun _ _ _=>False) e s'->False) :
  codeAny (model P w) callerA (.call (.ref fa) ⟨[.ref a],[]⟩) (fun r s'=>r=.ok (.ret (.bool true))/\OldK s₁.heap s'.heap/\s'.os=s₁.os/\AllBare s'.gens) s₁:=by
 have rv:=Kc hi;have lenV:=hi.length;have core:∀ H:Hp,zku H->SqL K H a (ns.map V.int)->HOk P w H s₁.heap->(∀ b,H b≠none->b=a)->(H a≠none->K.lookup a=none) ->
   codeAny (model P w) callerA (.call (.ref fa) ⟨[.ref a],[]⟩) (fun r s'=>r=.ok (.ret (.bool true))/\OldK s₁.heap s'.heap/\s'.os=s₁.os/\AllBare s'.gens) s₁:=by
  intro H hO hS hok hA hK;have base_of:∀ {b:Addr} {o:Obj},s₁.heap.get? b=#[d]->H b=none->(C8 s₁.heap H).get? b=#[d]:=fun e n=>zf7 e n;have noA:∀ {b:Addr} {o:Obj} {es:Array DictEntry} {ep:Nat},s₁.heap.get? b=#[d]->o.data=.dict es ep->H b=none:=fun {b o es ep} e d=>by
   cases q:H b with
   | none=>rfl
   | some u =>
     have e':b=a:=hA b (by rw[q];simp);subst e';rw[ha] at e;cases e;have d':Data.seq vs.toArray _=Data.dict es ep:=d;cases d'
  have nsK:∀ {b:Addr} {m:Str->Option Value},s₁.heap.Ns b m->(C8 s₁.heap H).Ns b m:=fun {b m} ⟨o,es,ep,e,d,r⟩=>⟨o,es,ep,base_of e (noA e d),d,r⟩
  have hKb:K.In (C8 s₁.heap H):=fun b o e=>base_of (KX b o e) (by
   cases q:H b with
   | none=>rfl
   | some u =>
     have e':b=a:=hA b (by rw[q];simp);subst e';rw[hK (by rw[q];simp)] at e;cases e)
  have hM:Mod K mg (C8 s₁.heap H):=⟨hKb,nsK hns,⟨mb,nsK hb,hbb⟩,let ⟨mc,h1,h2⟩:=hlim;⟨mc,nsK h1,h2⟩⟩;have e0:zb6 P w K mg (C8 s₁.heap H) callerA [] s₁ H:=⟨rfl,hM,fun b o e=>zib e,Nat.le_of_eq (zee _ _),trivial,fun b hb=>absurd (show b∈([]:List Addr) from hb) (by simp),hok,.of_eq hg⟩;refine codeAny_mono ((F _ hKb (nsK hns)).run callerA [] s₁ H ⟨[.ref a],[]⟩ [.ref a] [.ref a] _ _ hr e0 (hbind s₁ (.ref a)) (.cons rfl .nil) (hsp H hO hS)) fun r s' h=>?_;cases r with
  | error e=>exact(hCX H e s' h).elim
  | ok fl =>
    cases fl with
    | next=>exact False.elim h
    | brk=>exact False.elim h
    | cont=>exact False.elim h
    | ret u =>
      obtain⟨v,H',os,bare,un,hok',r',q⟩:=h;have q':v=.bl true:=q;subst q';obtain rfl:u=Value.bool true:=r';refine⟨rfl,OldK.of_keep fun b o e=>?_,os,bare⟩;cases q:H b with
      | none=>exact un.keep b o e q (by intro z;exact absurd (show b∈([]:List Addr) from z) (by simp)) (by simp)
      | some u =>
        rcases hO b with z|⟨ob,xs,z⟩
        ·rw[q] at z;cases z
        ·have z2:=un.frzs b ob _ z;obtain⟨e1,_⟩:=hok b _ z;obtain⟨e2,_⟩:=hok' b _ z2;rw[e] at e1;cases e1;exact e2
 cases hk:K.lookup a with
 | some o =>
   have e:=KX a o hk;rw[ha] at e;cases e;refine core (fun _=>none) (fun _=>.inl rfl) (.inr ⟨_,vs.toArray,_,hk,rfl,rfl,rfl,by rw[zw5,lenV];exact hl,by simpa using rv⟩) (fun b u z=>by have z':(none:Option HO)=some u:=z;cases z') (fun b z=>absurd rfl z) fun z=>absurd rfl z
 | none =>
   refine core (fun b=>if b=a then some (.frz { cls:=.type "list",data:=.seq vs.toArray } (.lst (ns.map V.int))) else none) (fun b=>?_) (.inl (.inr ⟨{ cls:=.type "list",data:=.seq vs.toArray },#[P]⟩)) (fun b u z=>?_) (fun b z=>?_) fun _=>hk
   ·by_cases hb:b=a
    ·exact .inr ⟨_,_,if_pos hb⟩
    ·exact .inl (if_neg hb)
   ·by_cases hb:b=a
    ·have z':=(if_pos hb).symm.trans z;cases z';subst hb;exact⟨ha,by rw[zwo];exact hl,vs,_,rv,ha⟩
    ·have z':=(if_neg hb).symm.trans z;cases z'
   ·by_cases hb:b=a
    ·exact hb
    ·exact absurd (if_neg hb) z
theorem zi0{l:PySem.W.OpenLaw}{n k:Nat}{q:Program}{loose:List Str}{XP:#[R]->Heap->Prop}{YP:World->Heap->Prop}{d:DefRec}{K:Params->Frag}{CX:World->CXT}{sp:World->Sp}{x:Str}
  (hn:l.most=some n) (hn2:n<=sizeLine) (hdf:d.params.defaults=[]) (hr:Vq k callerA)
  (hY:∀ (w:World) (h:Heap),YP w h->(K w.params).In h)
  (F:∀ (w:World) (mg:#[R]) (fa:Addr) (h:Heap),(K w.params).In h->h.Ns mainGlobals mg->mg d.name=#[c,fa] ->
   ∃ fd:FuncData,(∀ (s:Shared) (u:Value),BindsTo s fd ⟨[u],[]⟩ [(x,u)]) /\
     ∀ base:Heap,(K w.params).In base->base.Ns mainGlobals mg->FnOk l.prog w (K w.params) mg base (CX w) k fa fd [x] (sp w))
  (hsp:∀ (w:World) (H:Hp) (a:Addr) (ns:#[o]),ns.length<=n->zku H->SqL (K w.params) H a (ns.map V.int)->sp w [.ref a] H (fun v _=>v=.bl true) fun _ _ _=>False)
  (hCX:∀ (w:World) (H:Hp) (s:Shared) (e:Value) (s':Shared),CX w [] H s (fun _ _ _=>False) e s'->False) :
  PySem.W.WalkO q loose XP YP l.row.toRowW d [] (fun f vs=>PySem.call f vs):=by
 refine Att.attach_call hn hdf fun w s₀ s₁ mg mb fa o pm cd doc a vs ns G Y ho hd hcd hmg hobj hints hlen hg=>?_;have KX:=hY w _ Y;obtain⟨fd,hb,hF⟩:=F w mg fa _ KX G.T.g hmg;exact zgs KX G.T.g G.T.b G.T.builtins G.T.nolimit hg hobj hints (zw4 hlen hn2) hr hF hb (fun H hO hS=>hsp w H a ns hlen hO hS) fun H e s'=>hCX w H s₁ e s'
def Z5(s:Stmt)(j:Nat):Stmt:=match s with
 | .ClassDef _ _ _ body _ _ _ _ _ _ _=>body.getD j (.Pass ⟨0,0,0,0⟩)
 | _=>.Pass ⟨0,0,0,0⟩
def Sz(s:Stmt):Arguments:=match s with
 | .FunctionDef _ a _ _ _ _ _ _ _ _=>a
 | _=>{ posonlyargs:=[],args:=[],vararg:=none,kwonlyargs:=[],kw_defaults:=[],kwarg:=none,defaults:=[] }
def Zv(s:Stmt):List Stmt:=match s with
 | .FunctionDef _ _ b _ _ _ _ _ _ _=>b
 | _=>[]
def Zi(s:Stmt):Scope:=match s with
 | .FunctionDef _ _ _ _ _ _ sc _ _ _=>sc
 | _=>{ kind:=.function,names:=[],isGenerator:=false,isCoroutine:=false }
abbrev E0:XK:=fun _ _ _=>False
structure Fun(K:Frag)(x qual:Str)(st:Stmt)(f:Addr)(fd:FuncData):Prop where
 ex:∃ (oc:Value) (od:Option Addr) (kV doc pm:Value) (an:Option Addr) (cdv ct:Value) (osl:Array (Option Value)),
  fd=PySem.W.fnOf x qual (Sz st) (Zv st) (Zi st) .none kV doc pm an cdv ct/\K.lookup f=some ⟨oc,od,.func fd,osl⟩/\PySem.W.codeIn K cdv qual=true
 kp:PySem.W.keepIn K (.ref f)=true
section
variable{P:Program}{w:World}{K:Frag}{mg:#[R]}{base:Heap}
theorem Fun.binds{x qual:Str}{st:Stmt}{f:Addr}{fd:FuncData}{ps:List Str}(F:#[i,x,qual,st])
  (h:∀ (kV doc pm:Value) (an:Option Addr) (cdv ct:Value) (us:List Value),us.length=ps.length->bindArgs (PySem.W.fnOf x qual (Sz st) (Zv st) (Zi st) .none kV doc pm an cdv ct) ⟨us,[]⟩=pure (ps.zip us)):Ru K fd ps []:=by
 obtain⟨oc,od,kV,doc,pm,an,cdv,ct,osl,rfl,lk,hcd⟩:=F.ex;exact .all (h kV doc pm an cdv ct)
theorem Nv{x qual:Str}{st:Stmt}{f:Addr}{oc:Value}{od an:Option Addr}{osl:Array (Option Value)}{kV doc pm cdv ct:Value}(l:K.lookup f=some ⟨oc,od,.func (PySem.W.fnOf x qual (Sz st) (Zv st) (Zi st) .none kV doc pm an cdv ct),osl⟩)
  (c:PySem.W.codeIn K cdv qual=true) (k:PySem.W.keepIn K (.ref f)=true):Fun K x qual st f (PySem.W.fnOf x qual (Sz st) (Zv st) (Zi st) .none kV doc pm an cdv ct):=⟨⟨oc,od,kV,doc,pm,an,cdv,ct,osl,rfl,l,c⟩,k⟩
end
theorem Xy(hr:Vq k A):A.units+1<cLine:=zye (Nat.add_le_add_left (by decide:1<=64) _) hr.units
theorem X4(h:n<=1000):n<sizeLine:=zye h ⋯
section
variable{X:Cx}
theorem pv(i:Nat)(hN:X.N[i]?=some x:=by rfl)(hv:Vis X.env.scope x:=by first|exact Or.inl rfl|exact Or.inr (Or.inl rfl)|exact Or.inr (Or.inr rfl))(hd:(x == ("__debug__":Str))=false:=by decide)
  (hcd:(x == ("__classdict__":Str))=false:=by decide):PE X (.Name x pos) (tVar i):=zj5 hN hv hd hcd
theorem zew:V5 X (.builtin "len") (fun xs H Q=>∃ a kvs,xs=[V.ref a]/\H a=#[b,.dK,kvs]/\Q (.int kvs.length) H):=by
 intro pins s σ H xs us Q I r h;obtain⟨a,kvs,rfl,ha,q⟩:=h;obtain⟨u,rfl,ru⟩:=T3 r;cases ru;exact zl9 I (.inl ha) fun t s' I'=>⟨.int kvs.length,H,I',#[w,t],q⟩
end
theorem iteF{A B:Prop}(h:B):if false=true then A else B:=by
 rw[#[h,zxe]];exact h
theorem iteT{A B:Prop}(h:A):if true=true then A else B:=by
 rw[#[P]];exact h
theorem Bj{c A B:Prop}[Decidable c](h1:c->A)(h2:¬ c->B):if c then A else B:=by
 by_cases h:c
 ·rw[if_pos h];exact h1 h
 ·rw[#[h,h]];exact h2 h
def Same(H H':Hp):Prop:=∀ b o,H b=#[d]->H' b=#[d]
theorem Same.refl(H:Hp):Same H H:=fun _ _ h=>h
theorem Same.trans(a:Same H H1)(b:Same H1 H2):Same H H2:=fun c o h=>b c o (a c o h)
theorem Same.free(e:#[j])(h:H' l=Option.none):H l=Option.none:=by
 cases q:H l with
 | none=>rfl
 | some o =>
   rw[e l o q] at h;cases h
theorem Same.seq{K:Frag}{H H':Hp}{a:Addr}{xs:#[a]}(e:#[j])(h:SqL K H a xs):SqL K H' a xs:=by
 rcases h with (h|⟨o,h⟩)|h
 ·exact .inl (.inl (e _ _ h))
 ·exact .inl (.inr ⟨o,e _ _ h⟩)
 ·exact .inr h
section
variable{κ:Type}[DecidableEq κ]
theorem Hf:∀ {l:List κ} {k:κ},l.Nodup->¬ k∈l->(l++[k]).Nodup
 | [],k,_,_=>by simp
 | a :: r,k,h,hk=>by
   obtain⟨h1,h2⟩:=zxi.mp h;show (a :: (r++[k])).Nodup;refine zxi.mpr ⟨fun m=>?_,Hf h2 fun m=>hk (zwy.mpr (Or.inr m))⟩;rcases zw0.mp m with q|q
   ·exact h1 q
   ·exact hk (zwy.mpr (Or.inl (zwt.mp q).symm))
theorem zex{p:κ×V}{r:List (κ×V)}{k:κ}(e:p.1=k):Wo (p :: r) k=Wo r k:=by
 unfold Wo;rw[zx5,#[h,(by simp[e])]]
theorem zey{p:κ×V}{r:List (κ×V)}{k:κ}(e:¬ p.1=k):Wo (p :: r) k=p :: Wo r k:=by
 unfold Wo;rw[zx5,if_pos (by simp[e])]
end
section
variable{P:Program}{w:World}{H H':Hp}{h h' g:Heap}{a:Addr}{o:HO}
theorem Xi.there(x:Xi P w H h a o):∃ ob,h.get? a=some ob:=by
 cases o with
 | lst xs=>obtain⟨_,_,_,_,e⟩:=x;exact⟨_,e⟩
 | tup xs=>obtain⟨_,_,_,ob,e,_⟩:=x;exact⟨_,e⟩
 | dK kvs=>obtain⟨_,_,_,_,o,_,_,e,_⟩:=x;exact⟨_,e⟩
 | dT kvs=>obtain⟨_,_,_,_,o,_,_,e,_⟩:=x;exact⟨_,e⟩
 | set S n=>obtain⟨o,_,_,_,e,_⟩:=x;exact⟨_,e⟩
 | ins C dx fs=>obtain⟨_,_,_,e,_⟩:=x;exact⟨_,e⟩
 | own y=>obtain⟨_,e⟩:=x;exact⟨_,e⟩
 | xd fs=>obtain⟨_,⟨_,_,_,e,_⟩,_⟩:=x;exact⟨_,e⟩
 | rng lo hi=>obtain⟨_,_,_,e⟩:=x;exact⟨_,e⟩
 | frz ob u=>obtain⟨e,_⟩:=x;exact⟨_,e⟩
 | tbl ps=>exact⟨_,show h.get? a=some _ from x⟩
 | met f y=>exact⟨_,show h.get? a=some _ from x⟩
 | ext φ=>obtain⟨_,⟨_,e⟩,_⟩:=x;exact⟨_,e⟩
theorem HOk.none_of(x:HOk P w H h)(e:h.get? a=none):H a=none:=by
 cases q:H a with
 | none=>rfl
 | some u =>
   obtain⟨_,z⟩:=(x a u q).there;rw[e] at z;cases z
theorem A9(e:(PySem.W.hideAll h as).get? a=none):h.get? a=none\/a∈as:=by
 by_cases m:a∈as
 ·exact .inr m
 ·cases q:h.get? a with
  | none=>exact .inl rfl
  | some o=>rw[PySem.W.hideAll_get as q m] at e;cases e
end
structure Fly(g:Heap)(H:Hp)(h:Heap)(e T:Addr)(cls:Value):Prop where
 ex:∃ oe vs oT ts,h.get? e=some oe/\oe.cls=cls/\oe.data=.fields vs/\vs[1]?=#[c,T]/\T≠e/\h.get? T=some oT/\oT.data=.fields ts/\ts[3]?=some .none
 newE:g.get? e=none
 newT:g.get? T=none
 freeE:H e=none
 freeT:H T=none
def CX1(P:Program)(w:World):CXT:=fun outer H s E e s'=>∃ a T cls H',e=.ref a/\s'.os=s.os/\AllBare s'.gens/\Un (frs outer) [] H H' s.heap s'.heap/\HOk P w H' s'.heap/\Fly s.heap H' s'.heap a T cls/\E cls none H'
section
variable{X:Cx}{pins:#[C]}{σ:St}{H H':Hp}{s s':Shared}{h':Heap}{e T:Addr}{cls:Value}
structure Nw(X:Cx)(ch:#[x])(h h':Heap):Prop where
 keep:∀ b o,h.get? b=#[d]->b∉ch->b∉frs X.stack->h'.get? b=#[d]
 slot:∀ b o,h.get? b=#[d]->b∉ch->b∈frs X.stack->∃ sl,h'.get? b=some { o with slots:=sl }
theorem Nw.of(I:#[l])(st:(PySem.W.hideAll s.heap (as++frs X.stack)).StaysIn h')(up:s.heap.UpToSlots h'):Nw X as s.heap h' where
 keep:=fun b o q n1 n2=>st b o (PySem.W.hideAll_get _ q (by simp[n1,n2]))
 slot:=fun b o q _ m=>by
  obtain⟨_,o',ho,nf⟩:=I.stack.mem m;rw[q] at ho;cases ho;exact up b o q nf
theorem Nw.hok(I:#[l])(t:Nw X ch s.heap h')(hch:∀ b∈ch,H b=none):HOk X.prog X.w H h':=fun b u q=>by
 have tr:∀ c v,H c=some v->c∉ch/\c∉frs X.stack:=fun c v z=>⟨(fun m=>by rw[hch c m] at z;cases z),(fun m=>by rw[I.stkFree c m] at z;cases z)⟩
 refine(I.hok b u q).stay (fun c v hc r=>?_) (fun _ z=>z) fun _ _ z=>z;rcases hc with z|z
 ·subst z;exact t.keep c v r (tr c u q).1 (tr c u q).2
 ·exact t.keep c v r (tr c _ z).1 (tr c _ z).2
theorem Inv.raised(I:#[l])(ho:s'.os=s.os)(hg:AllBare s'.gens)(u:Un (frs X.stack) [] H H' s.heap s'.heap)(hok:HOk X.prog X.w H' s'.heap):#[H,H',s'] :=
 I.call' ho u hok hg (fun _ z=>nomatch z)
theorem Fly.flying(J:#[l])(hl:s.heap.FunFrames X.base l)(hsub:∀ b∈frs l,b∈frs X.stack)(F:Fly g H s.heap e T cls) :
  ∃ a0,Heap.FlyingW (PySem.W.hideAll s.heap ([e,T]++frs X.stack)) l e cls a0 s.heap:=by
 obtain⟨oe,vs,oT,ts,e1,e2,e3,e4,e5,e6,e7,e8⟩:=F.ex;have sz:0<vs.size:=zye (zxj _) (Array.getElem?_eq_some_iff.mp e4).1;refine⟨vs[0],fun b o q=>PySem.W.of_hideAll _ q,PySem.W.hideAll_none _ (by simp),PySem.W.funFrames_hide hl fun env he a ha=>?_,oe,vs,T,oT,ts,e1,⟨e2,?_⟩,e3,e4,PySem.W.hideAll_none _ (by simp),e5,e6,e7,e8⟩
 ·have:a∈frs l:=zyl.mpr ⟨env,he,ha⟩;simp[hsub a this]
 ·exact Array.getElem?_eq_getElem sz
theorem Fly.again(J:#[l])(F:Fly g H s.heap e T cls)(hg:∀ b,#[ab]=none->g.get? b=none)
  (up:s.heap.UpToSlots h') (st:(PySem.W.hideAll s.heap ([e,T]++frs X.stack)).StaysIn h') (tr:h'.TracedW (PySem.W.hideAll s.heap ([e,T]++frs X.stack)) e cls a0):∃ T',Fly g H h' e T' cls:=by
 obtain⟨oe,vs,T',oT,ts,f1,⟨f2,_⟩,f3,f4,f5,f6,f7,f8,f9⟩:=tr;refine⟨T',⟨oe,vs,oT,ts,f1,f2,f3,f4,f6,f7,f8,f9⟩,F.newE,?_,F.freeE,?_⟩
 all_goals
  rcases A9 f5 with z|z
  ·first
    | exact hg _ z
    | exact J.hok.none_of z
  ·simp only[zw0,zwy,zx2,or_false] at z;rcases z with (z|z)|z
   ·exact absurd z f6
   ·subst z
    first
     | exact F.newT
     | exact F.freeT
   ·obtain⟨_,o,ho,nf⟩:=J.stack.mem z;obtain⟨sl,q⟩:=up T' o ho nf;rw[f7] at q;cases q;exact absurd f8 (nf _)
end
section
variable{P:Program}{w:World}{K:Frag}{mg:#[R]}{base:Heap}{N:List Str}{qual:Str}{scope:Scope}{f:Addr}{cd:Value}{A:Around}{outer:List Env}{s0:Shared}{H0:Hp}{E:XK}
 {pins:#[C]} {σ:St} {H H':Hp} {s s':Shared} {h':Heap} {e T:Addr} {cls:Value}
theorem zaa(hx:X.ex=[])(J:#[l])(hst:X.stack=X.env :: X.outer)(hf:X.env.frame=some X.env.locals)(t:Nw X ch s.heap h')(hch:∀ b∈ch,X.s₀.heap.get? b=none) :
  Un X.fs [] X.H₀ H X.s₀.heap h':=by
 have nb:∀ b o,X.s₀.heap.get? b=#[d]->b∉ch:=fun b o q m=>by rw[hch b m] at q;cases q
 have mem:∀ b,b∈frs X.stack↔b=X.env.locals\/b∈X.fs:=fun b=>by
  unfold Cx.fs frs;rw[hst,zyq,hf];exact zwy
 have neL:∀ b o,X.s₀.heap.get? b=#[d]->b≠X.env.locals:=fun b o q=>zxh (zxf (Heap.lt_size q) J.ok.above);have nx:∀ b:Addr,b∉X.ex:=fun b=>by rw[hx];simp
 refine⟨fun b o q n hb _=>?_,fun b o q n hb _=>?_,fun b o q n _=>J.base.free b o q n (nx b),fun b o q _=>?_,J.base.tups,J.base.frzs,J.base.tbls⟩
 ·refine t.keep b o (J.base.keep b o q n hb (nx b)) (nb b o q) fun m=>?_;exact((mem b).mp m).elim (neL b o q) hb
 ·obtain⟨sl,z⟩:=J.base.slot b o q n hb (nx b);obtain⟨sl',z'⟩:=t.slot b _ z (nb b o q) ((mem b).mpr (.inr hb));exact⟨sl',z'⟩
 ·obtain⟨o',z⟩:=J.base.there b o q (nx b);by_cases m:b∈frs X.stack
  ·obtain⟨_,z'⟩:=t.slot b o' z (nb b o q) m;exact⟨_,z'⟩
  ·exact⟨o',t.keep b o' z (nb b o q) m⟩
theorem Zn:Vv #[f] (cxOf #[f] P w K mg base N qual scope f cd A outer s0 H0 E) E:=by
 intro pins σ H s ev s' I h;obtain⟨a,T,cls,H',q0,ho,hg,u,hok,F,hE⟩:=h;subst q0;have J:=I.raised ho hg u hok;obtain⟨a0,hfl⟩:=F.flying J J.stack fun _ z=>z;refine wpAny_leaves_onW (base:=PySem.W.hideAll s'.heap ([a,T]++frs _)) J.ok.frames rfl hfl fun h2 hfl2 up=>?_;have old:∀ b,#[ab]=none->s0.heap.get? b=none:=fun b n=>by
  cases q:s0.heap.get? b with
  | none=>rfl
  | some o =>
    obtain⟨_,z⟩:=I.base.there b o q (by show b∉([]:List Addr);simp);rw[n] at z;cases z
 have old2:∀ b,s'.heap.get? b=none->s0.heap.get? b=none:=fun b n=>by
  cases q:s0.heap.get? b with
  | none=>rfl
  | some o =>
    obtain⟨_,z⟩:=J.base.there b o q (by show b∉([]:List Addr);simp);rw[n] at z;cases z
 have t:=Nw.of (as:=[a,T]) J hfl2.1 up;have F0:Fly s0.heap H' s'.heap a T cls:=⟨F.ex,old _ F.newE,old _ F.newT,F.freeE,F.freeT⟩;obtain⟨T',F'⟩:=F0.again J old2 up hfl2.1 hfl2.2.2.2;refine⟨a,T',cls,H',rfl,J.os,J.bare,zaa rfl J rfl rfl t ?_,t.hok J ?_,F',hE⟩
 ·intro b hb;rcases zwy.mp hb with rfl|hb
  ·exact F0.newE
  ·rcases zwy.mp hb with rfl|hb
   ·exact F0.newT
   ·cases hb
 ·intro b hb;rcases zwy.mp hb with rfl|hb
  ·exact F.freeE
  ·rcases zwy.mp hb with rfl|hb
   ·exact F.freeT
   ·cases hb
def zjw(X:Cx)(E:XK):Prop:=∀ (pins:List (Addr×Obj)) (σ:St) (H:Hp) (s:Shared) (h':Heap) (e C:Addr) (args:List Value),#[l]->Heap.MadeExcOf s.heap h' e (.ref C) args->#[K,C]->X.xe (.ref e) { s with heap:=h' }
theorem Xn:zjw (cxOf #[f] P w K mg base N qual scope f cd A outer s0 H0 E) E:=by
 intro pins σ H s h1 e C args I hm hE;refine wpAny_leaves_madeW (base:=PySem.W.hideAll s.heap ([]++frs _)) (h:=s.heap) I.ok.frames rfl (fun b o q=>PySem.W.of_hideAll _ q)
  (PySem.W.funFrames_hide I.stack fun env he a ha=>by
   have:a∈frs _:=zyl.mpr ⟨env,he,ha⟩
   simpa using this) hm fun h2 t hfl _ _ up=>?_
 have up2:s.heap.UpToSlots h2:=(Heap.UpToSlots.of_keeps hm.keeps).trans up;have tt:=Nw.of (as:=[]) I hfl.1 up2;have old2:∀ b,#[ab]=none->s0.heap.get? b=none:=fun b n=>by
  cases q:s0.heap.get? b with
  | none=>rfl
  | some o =>
    obtain⟨_,z⟩:=I.base.there b o q (by show b∉([]:List Addr);simp);rw[n] at z;cases z
 obtain⟨oe,vs,T',oT,ts,f1,⟨f2,_⟩,f3,f4,f5,f6,f7,f8,f9⟩:=hfl.2.2.2;have nT:s.heap.get? T'=none:=by
  rcases A9 f5 with z|z
  ·exact z
  ·have z':T'∈frs (cxOf (CX1 P w) P w K mg base N qual scope f cd A outer s0 H0 E).stack:=(zw0.mp z).resolve_left (by simp);obtain⟨_,o,ho,nf⟩:=I.stack.mem z';obtain⟨sl,q⟩:=up2 T' o ho nf;rw[f7] at q;cases q;exact absurd f8 (nf _)
 refine⟨e,T',.ref C,H,rfl,I.os,I.bare,zaa rfl I rfl rfl tt (fun _ z=>nomatch z),tt.hok I (fun _ z=>nomatch z),⟨⟨oe,vs,oT,ts,f1,f2,f3,f4,f6,f7,f8,f9⟩,old2 _ hm.new,old2 _ nT,I.hok.none_of hm.new,I.hok.none_of nT⟩,hE⟩
end
structure Pq(K:Frag)(mg:#[R])(x:Str)(C:Addr):Prop where
 nm:mg x=#[b,.ref,C]
 ex:PySem.W.excIn K C [.type "ValueError",.type "Exception",.type "BaseException",.type "object"] "ValueError.__new__"=true
theorem Pq.own{K:Frag}{mg:#[R]}{x:Str}{C:Addr}{h:Heap}(c:Pq K mg x C)(X:K.In h):OwnCls x C [.type "ValueError",.type "Exception",.type "BaseException",.type "object"] "ValueError.__new__" mg h:=by
 refine⟨c.nm,?_⟩;have q:=c.ex;unfold PySem.W.excIn at q;split at q
 ·rename_i dd cd sl ho;split at q
  ·rename_i C' bm k0 k1 k2 k3 n k5 hm hs;simp only[zx6,beq_iff_eq,Bool.not_eq_true'] at q;obtain⟨⟨⟨⟨⟨rfl,rfl⟩,hdel⟩,ht⟩,hok⟩,hni⟩:=q;obtain⟨nm,bs,mro,ns,qn,hd,sn,sub,ab,col,del⟩:=cd;dsimp only at hm hdel hok hni;subst hm hdel;have hsl:sl=#[k0,k1,k2,k3,#[b,.builtin,"ValueError.__new__"],k5]:=by
    obtain⟨l⟩:=sl;simp only at hs;rw[hs]
   subst hsl;exact⟨bm,ns,nm,qn,bs,hd,sn,sub,ab,col,dd,k0,k1,k2,k3,k5,_,X _ _ ho,.of_isNs (PySem.W.isNs_of_in X hok),PySem.W.nsMap_none_of_in X hok hni,PySem.W.tail_of_in X ht⟩
  ·cases q
 ·cases q
inductive zi1(C:Addr)(E:XK)(vs:#[a])(H1:Hp):Prop where
 | mk(_:vs.length<=sizeLine)(_:E (.ref C) none H1)
def zkv(C:Addr)(E:XK)(t:TA):TS:=fun _ σ H=>t σ H fun vs H1=>zi1 C E vs H1
theorem Xo{X:Cx}{x:Str}{C:Addr}{E:XK}{e₀:Expr}{rest:List Expr}{t:TA}{np cpos pos:Pos}(hl:zjw X E)(hc:X.calm=true)(c:Pq X.K X.mg x C)(hg:Gl X x)(ha:PA X (e₀ :: rest) t)
  (he:starEach (e₀ :: rest) X.env=(false,#[G,e₀]) :: starEach rest X.env:=by rfl) (hplain:(backTo cpos (starEach rest X.env)).any (·.1)=false:=by rfl) (hd:(x == ("__debug__":Str))=false:=by decide) :
  PS X (.Raise (some (.Call (.Name x np) (e₀ :: rest) [] cpos)) none pos) (zkv C E t):=by
 intro pins s σ H D I h;have O:=c.own I.mod.kin;obtain⟨tl,N,nm,q,bs,hdct,sn,sub,ab,col,dd,k0,k1,k2,k3,k5,mN,hC,hN,hni,T⟩:=O.obj;refine wpAny_Raise_call_subT (C:=C) (nm:=nm) (q:=q) (N:=N) (bs:=bs) (bm:=tl) (hdct:=hdct) (sn:=sn) (sub:=sub) (ab:=ab) (col:=col) (dd:=dd) (k0:=k0) (k1:=k1) (k2:=k2) (k3:=k3) (k5:=k5)
  PySem.F.excBase_ValueError (mN:=mN) (T.hasType (by rfl)) (I.ok.hd hc) (by rw[he];show (false||(backTo cpos (starEach rest X.env)).any (·.1))=false;rw[hplain];rfl) hni (My I hg c.nm ⟨rfl,?_⟩ hd)
 have hp:=ha cpos pins s σ H _ I h;rw[he] at hp ⊢;refine Calls.evalArgs_plain (wpAny_mono hp (fun us s2 h2=>?_) fun _ _ y=>y);obtain⟨vs,H1,I1,r,hlen,hE⟩:=h2;exact⟨rfl,by rw[<- r.length];exact hlen,I1.bk _ _ hC,hN.keeps I1.bk,T.keeps I1.bk,fun h' e hm=>hl _ _ _ _ _ _ _ _ I1 hm hE⟩
structure zno(K:Frag)(CB:Addr):Prop where
 ty:PySem.W.typeIn K (.ref CB)=#[b,.type,"type"]
 cl:(PySem.W.clsIn K CB).isSome=true
 bx:PySem.W.mroIn K CB (.type "BaseException")=some true
end L2
namespace L2
open PySem PySem.Spec PyProof.Rows PySem.W PySem.Calls PySem.Builtin PySem.Builtin.ObjectAttr PySem.Builtin.Getset_descriptor
def zmf(a:Addr)(cls:Value):HO:=.ext fun h=>∃ o vs,h.get? a=#[d]/\o.cls=cls/\o.data=.fields vs
structure zez(K:Frag)(D:Addr):Prop where
 ga:findIn K (.ref D) "__getattribute__"=some #[b,.builtin,"BaseException.__getattribute__"]
 gk:#[ao,K,D,"__getattr__"]
 cl:(clsIn K D).isSome=true
 at_:findIn K (.ref D) "__class__"=some #[b,.builtin,"object.__class__"]
 gt:specialIn K (.builtin "object.__class__") "__get__"=some #[b,.builtin,"getset_descriptor.__get__"]
 tk:takesIn K (.builtin "object.__class__")=some true
 mo:mroIn K D (.type "object")=some true
 mx:mroIn K D (.type "BaseException")=some true
section
variable{prog:Program}{w:World}{A:Around}{E:Value->Shared->Prop}{s:Shared}{K:Frag}{x D:Addr}
theorem zgt(X:K.In h)(c:zez K D):Looks M h (find (.ref x) (.ref D) "__class__") (.bind (.builtin "getset_descriptor.__get__") (.builtin "object.__class__")):=by
 have L1:=looks_findIn (M:=M) X c.at_;have L2:Looks M h (getOf #[b,.builtin,"object.__class__"]) #[b,.builtin,"getset_descriptor.__get__"]:=looks_specialIn X c.gt;have L3:=looks_takesIn (M:=M) X c.tk;exact L1.andThen (L2.andThen ((show Looks M h (dataDescriptor? (some (.builtin "object.__class__")) (some (.builtin "getset_descriptor.__get__"))) (some (.builtin "getset_descriptor.__get__",.builtin "object.__class__")) from L3.andThen .now).andThen (Looks.tag .now)))
theorem zcf(X:K.In s.heap)(hx:s.heap.get? x=some o)(hc:o.cls=.ref D)(c:zez K D)(q:R (.ok (.ret (.ref D))) s) :
  codeAny (model prog w) A (.call (.builtin "getset_descriptor.__get__") ⟨[.builtin "object.__class__",.ref x,.ref D],[]⟩) R s:=by
 obtain⟨hh,g,d,t,os⟩:=s;have L0:Looks (model prog w) hh (typeOf (.ref x)) (.ref D):=hc▸(Looks.ld hx).andThen .now;have Lm:=looks_mroIn (M:=model prog w) X c.mo;refine codeAny_call_builtin KF.slot_gs.plain KF.entry_gs (KF.slot_gs.check _ _ _ _ _ _ _ _ KF.type_class (KF.args_gs _ _ _) ?_);unfold Builtin.«getset_descriptor.__get__» descrGet;rw[dga_obj];refine wpAny_bind (wpAny_pure ?_);unfold descrGetter descrCheckInstance descrNameAndClass isInstance;simp only[KF.owner_class]
 repeat lk
 refine⟨Code.quiet_builtin _ ⋯,codeAny_builtin KF.entry_class ?_⟩;unfold Builtin.«object.__class__» shownTypeOf
 repeat lk
 exact q
theorem zkw(X:K.In s.heap)(hx:s.heap.get? x=some o)(hc:o.cls=.ref D)(c:zez K D)(q:Q (.done (.ret (.ref D))) s) :
  wpAny (model prog w) A (Builtin.«object.__getattribute__» ⟨[.ref x,.str "__class__" tk],[]⟩) Q E s:=by
 have L0:Looks (model prog w) s.heap (typeOf (.ref x)) (.ref D):=hc▸(Looks.ld hx).andThen .now;have Lf:=zgt (x:=x) (M:=model prog w) X c;have e1:slotArgs "__getattribute__" 1 ⟨[.ref x,.str "__class__" tk],[]⟩=pure (.ref x,[.str "__class__" tk]):=rfl;unfold Builtin.«object.__getattribute__»;rw[e1];refine wpAny_bind (wpAny_pure ?_);refine wpAny_bind (show wpAny _ _ (attrName (.str "__class__" tk)) _ _ _ from wpAny_pure ?_);obtain⟨hh,g,d,t,os⟩:=s;refine wpAny_bind (L0.at (wpAny_bind (Lf.at ?_)));show wpAny _ _ (bindTo _ _ _ _) _ _ _;unfold bindTo;dsimp only;refine wpAny_bind (wpAny_holding (wpAny_call (zcf X hx hc c ?_)));exact wpAny_pure q
theorem Ex(X:K.In s.heap)(hx:s.heap.get? x=some o)(hc:o.cls=.ref D)(c:zez K D)(q:Q #[c,D] { s with toks:=s.toks+1 }) :
  wpAny (model prog w) A (getAttr? (.ref x) "__class__") Q E s:=by
 obtain⟨hh,g,d,t,os⟩:=s;have L0:Looks (model prog w) hh (typeOf (.ref x)) (.ref D):=hc▸(Looks.ld hx).andThen .now;have La:=looks_findIn (M:=model prog w) X c.ga;have Lk:=looks_findIn (M:=model prog w) X c.gk;have Lx:=looks_mroIn (M:=model prog w) X c.mx;have hb:=PySem.F.attr_ValueError.ga.bind (.ref x);have hne0:(Value.builtin "BaseException.__getattribute__" == Value.builtin "object.__getattribute__")=false:=by decide +kernel
 have hne:(onTheHeap (Value.ref D)&&Value.builtin "BaseException.__getattribute__" == Value.builtin "object.__getattribute__")=false:=by rw[hne0];rfl
 unfold getAttr? getAttrBy? getAttrBy;refine wpAny_bind (wpAny_mkText (wpAny_bind (wpAny_attempt (wpAny_holding (wpAny_bind (L0.at (wpAny_bind (La.at ?_))))))));dsimp only;rw[#[h,(by rw[hne];decide)]];unfold getAttrByItsOwn;refine wpAny_bind (show wpAny _ _ (typeLookup (.ref D) "__getattr__") _ _ _ from Lk.at ?_);refine wpAny_bind (wpAny_attempt (wpAny_holding ?_));show wpAny _ _ (boundAndCalled _ _ _) _ _ _;unfold boundAndCalled;rw[hb];refine wpAny_bind (wpAny_pure (wpAny_call ?_));refine codeAny_call_builtin PySem.F.attr_ValueError.ga.plain PySem.F.entry_bexc_ga ?_;have hk:builtinKind "BaseException.__getattribute__"=some .slot:=by decide +kernel
 have hsplit:splitId "BaseException.__getattribute__"=some ("BaseException","__getattribute__"):=by decide +kernel
 have ha:=PySem.F.args_bexc_ga (.ref x) (.str "__class__" t);simp only[checkBuiltinCall,hk,hsplit,List.cons_append,List.nil_append];unfold isInstance
 repeat (first|with_reducible refine zkw X hx hc c ?_|lk)
 exact q
theorem zgu(c:zez K D):KitX K (.ref x) (.ref D) (fun h=>∃ o,h.get? x=#[d]/\o.cls=.ref D) where
 ty:=fun M h _ p=>by obtain⟨o,hx,hc⟩:=p;exact hc▸(Looks.ld hx).andThen .now
 it:=fun _ _ X _=>by
  have z:=c.cl;unfold clsIn at z;split at z
  ·rename_i ho;intro A' Q' E' s' k q;unfold isType loadHead;exact wpAny_bind (wpAny_loadPart (k _ _ (X _ _ ho)) (wpAny_pure q))
  ·cases z
 ne:=fun h tp dd its n sl X htp=>by
  refine Bool.eq_false_iff.mpr fun q=>?_;have e:D=tp:=Value.ref.inj (beq_iff_eq.mp q);subst e;have z:=c.cl;unfold clsIn at z;split at z
  ·rename_i ho;have z:=(X _ _ ho).symm.trans htp;cases z
  ·cases z
 ca:=fun X p q=>by obtain⟨o,hx,hc⟩:=p;exact Ex X hx hc c q
end
inductive TyX(K:Frag)(H:Hp)(x:V)(t:Value):Prop where
 | of (h:Kb K H x t):TyX K H x t
 | exc {a D:Addr} (ex:x=.ref a) (et:t=.ref D) (h:H a=some (zmf a (.ref D))) (c:zez K D):TyX K H x t
def zmg:V->Value
 | .ty n=>.type n
 | .ref a=>.ref a
 | _=>.none
inductive zmh(K:Frag)(xs:#[a])(H:Hp)(Q:VK):Prop where
 | mk(x)(c)(t)(b)(_:xs=[x,c])(_:TyX K H x t)(_:((∃ n,c=.ty n)\/∃ a,c=.ref a))(_:kitOne K t (zmg c)=some b)(_:Q (.bl b) H)
theorem zgv:V5 X (.builtin "isinstance") (zmh X.K):=by
 intro pins s σ H xs us Q I r h;obtain⟨x,c,t,b,rfl,ty,hc,hk,q⟩:=h;obtain⟨u,w',rfl,r1,r2⟩:=zgd r;have e:w'=zmg c:=by
  rcases hc with ⟨n,rfl⟩|⟨a,rfl⟩
  ·exact r2
  ·exact r2
 subst e;cases ty with
 | of ty=>exact zem I r1 ty hk fun tk=>⟨.bl b,H,I.tok tk,rfl,q⟩
 | @exc a D ex et ha cl =>
   subst ex et;cases (show u=Value.ref a from r1);obtain⟨⟨o,vs,ho,hcl,_⟩,_⟩:=(show Xi X.prog X.w H s.heap a (zmf a (.ref D)) from I.hok a _ ha);exact kia_one (zgu cl) I.kIn ⟨o,ho,hcl⟩ hk (fun z=>nomatch z) fun tk=>⟨.bl b,H,I.tok tk,rfl,q⟩
structure znt(X:Cx):Prop where
 ex:X.ex=[]
 lk:X.lk=[]
 st:X.stack=X.env :: X.outer
 fr:X.env.frame=some X.env.locals
section
variable{P:Program}{w:World}{K:Frag}{mg:#[R]}{base:Heap}
theorem Fun.okX{x qual:Str}{st:Stmt}{f:Addr}{fd:FuncData}{N ps:List Str}{k:Nat}{sp:Sp}(F:#[i,x,qual,st])(S:#[p,N,ps,st])(len:∀ vs H Q E,sp vs H Q E->vs.length=ps.length)
  (hbody:∀ (cdv:Value) (A:Around) (outer:List Env) (s:Shared) (H:Hp) (vs:#[a]) (Q:VK) (E:XK),Vq k (A.deeper (envOfC qual (Zi st) s.heap.objs.size f cdv))->sp vs H Q E ->
   ∃ t,PSs (cxOf #[f] P w K mg base N qual (Zi st) f cdv A outer s H E) (Zv st) t/\t { nx:=fun _ H'=>Q .non H',rt:=Q } (M0 N vs) H):FnOk P w K mg base #[f] (k+1) f fd ps sp:=by
 obtain⟨oc,od,kV,doc,pm,an,cdv,ct,osl,rfl,lk,hcd⟩:=F.ex;exact zl7 lk hcd S len fun A outer s H vs Q E hr hsp=>hbody cdv A outer s H vs Q E hr hsp
end
def Ey{α:Type}(p:α->Prop):List α->Prop
 | []=>True
 | a :: r=>p a/\Ey p r
theorem Ey.get:∀ {l:List α} {a:α},Ey p l->a∈l->p a
 | _ :: _,_,h,.head _=>h.1
 | _ :: _,_,h,.tail _ m=>Ey.get h.2 m
def Y8(X:Cx)(pn:#[C])(Nc:List Str)(scope:Scope)(cl:List (Str×Addr))(s₀:Shared)(H₀:Hp)(fp:#[x])(C:Addr):Cx :=
 { X with N:=Nc,s₀:=s₀,H₀:=H₀,env:=compEnvC scope cl C X.env,outer:=X.stack,stack:=X.stack,ex:=fp,fn:=fun _=>false,pn:=pn,xe:=fun _ _=>False,lk:=[] }
def cs(js:#[B])(σ:St)(x:V):St:=some x :: js.map fun j=>(σ[j]?).getD none
def PTs(X:Cx)(ifs:List Expr)(t:TT):Prop :=
 ∀ (pins:#[C]) (s:Shared) (σ:St) (H:Hp) (Q:Bool->Hp->Prop),#[l]->t σ H Q ->
   wpAny (model X.prog X.w) X.A (forIn ifs true fun c r=>if r=true then do let ok <- isTrue c X.env #[G,c];pure (ForInStep.yield ok) else pure (ForInStep.yield r)) (TP X pins σ Q) X.xe s
def tYes:TT:=fun _ H Q=>Q true H
theorem Vg:PTs X [] tYes:=fun _ _ _ H _ I h=>wpAny_tests_nil ⟨H,I,h⟩
theorem Qi(h:PT X c t):PTs X [c] t:=fun pins s σ H Q I q=>wpAny_tests_one (h pins s σ H Q I q)
def zab(J:It)(js:#[B])(tt:TT)(te:TE)(σ:St)(H:Hp)(Q:VK):Prop:=∃ W:Nat->Nat->#[a]->Hp->Prop,(∃ m,W 0 m [] H)/\∀ i m ys H,W i m ys H ->
 (J.stop i H/\ys.length<=sizeLine/\∀ p,H p=none->Q (.ref p) (upd H p (.lst ys))) \/
 (J.go i H/\ys.length<sizeLine/\∃ N:#[a]->Hp->Prop,(∀ ys' H',N ys' H'->∃ m',m' < m/\W (i+1) m' ys' H')/\∀ x H',J.yld i H x H'->tt (cs js σ x) H' fun b H2=>if b=true then te (cs js σ x) H2 fun y H3=>N (ys++[y]) H3 else N ys H2)
def zdh(wi:TI)(js:#[B])(tt:TT)(te:TE):TE:=fun σ H Q=>wi σ H fun J H1=>zab J js tt te σ H1 Q
section
variable{X:Cx}{elt iter:Expr}{x:Str}{px pos:Pos}{ifs:List Expr}{scope:Scope}{cl:List (Str×Addr)}{ys:List Str}{js:#[B]}
structure zdi(X:Cx)(x:Str)(scope:Scope)(cl:List (Str×Addr))(ys:List Str)(js:#[B]):Prop where
 clos:closureFor scope X.env=pure cl
 kind:scope.kind=.function
 names:∀ y∈scope.names,y.2=.local->scope.names.lookup y.1=some .local
 nocell:∀ y∈scope.names,y.2≠.cell
 own:scope.names.lookup x=some .local
 nd:(x :: ys).Nodup
 at_:js.map (X.N[·]?)=ys.map some
 free:Ey (fun y=>X.env.kindOf y=some .cell/\(relabel scope X.env).names.lookup y=some .cell/\cl.lookup y=#[ah,y]) ys
 only:Ey (fun p=>#[ah,p.1]=some p.2) cl
 vis:∀ y∈scope.names,y.2=.free->y.1∈ys
theorem M4{env:Env}:∀ {names:List (Str×NameKind)} {y:Str},(names.map fun (n,k)=>if (k == NameKind.free&&env.scope.kind == .function&&env.kindOf n == some .cell) then (n,NameKind.cell) else (n,k)).lookup y=some .cell \/
  (names.map fun (n,k)=>if (k == NameKind.free&&env.scope.kind == .function&&env.kindOf n == some .cell) then (n,NameKind.cell) else (n,k)).lookup y=some .free->∃ k,(y,k)∈names/\(k=.cell\/k=.free)
 | [],_,h=>by rcases h with h|h<;>simp at h
 | (n,k) :: r,y,h=>by
   by_cases hx:y=n
   ·subst hx;refine⟨k,zxk,?_⟩;rw[zw2] at h;dsimp only at h;by_cases hc:(k == NameKind.free&&env.scope.kind == .function&&env.kindOf y == some .cell)=true
    ·simp only[zx6,beq_iff_eq] at hc;exact .inr hc.1.1
    ·rw[#[h,hc]] at h;simp only[zxs,beq_self_eq_true] at h;rcases h with h|h
     ·exact .inl (Option.some.inj h)
     ·exact .inr (Option.some.inj h)
   ·have hb:(y == n)=false:=zxg.mpr hx;have ih:=@M4 env r y;rw[zw2] at h;have key:∀ z:Str×NameKind,z.1=n->List.lookup y (z :: (r.map fun (n,k)=>if (k == NameKind.free&&env.scope.kind == .function&&env.kindOf n == some .cell) then (n,NameKind.cell) else (n,k))) =
      List.lookup y (r.map fun (n,k)=>if (k == NameKind.free&&env.scope.kind == .function&&env.kindOf n == some .cell) then (n,NameKind.cell) else (n,k)):=fun z hz=>by
     obtain⟨z1,z2⟩:=z;cases hz;simp only[zxs,hb]
    rw[key _ (by dsimp only;split<;>rfl)] at h;obtain⟨k',m,q⟩:=ih h;exact⟨k',zxc _ m,q⟩
variable{wi:TI}{tt:TT}{te:TE}
end
theorem X5{K:Frag}{js:#[B]}{tt:TT}{te:TE}{a:Addr}{xs:#[a]}{σ:St}{H:Hp}{Q:VK}(Pv:Nat->#[a]->Hp->Prop)(h0:Pv 0 [] H)(hl:∀ i ys H,i<=xs.length->Pv i ys H->SqL K H a xs)(hz:xs.length<=sizeLine)
  (hy:∀ i ys H,Pv i ys H->ys.length<=i)
  (hs:∀ i x ys H,xs[i]?=some x->Pv i ys H->tt (cs js σ x) H fun b H2=>if b=true then te (cs js σ x) H2 fun y H3=>Pv (i+1) (ys++[y]) H3 else Pv (i+1) ys H2)
  (hd:∀ ys H,Pv xs.length ys H->∀ p,H p=none->Q (.ref p) (upd H p (.lst ys))):zab (Itl K a) js tt te σ H Q:=by
 refine⟨fun i m ys H=>m=xs.length-i/\i<=xs.length/\Pv i ys H,⟨xs.length,by simp,zxj _,h0⟩,?_⟩;rintro i m ys H ⟨rfl,hi,p⟩;have q:=hl i ys H hi p;have ly:=hy i ys H p;by_cases hlt:i<xs.length
 ·refine .inr ⟨⟨xs,xs[i],q,by simp[hlt]⟩,by omega,Pv (i+1),fun ys' H' p'=>⟨xs.length-(i+1),by omega,rfl,hlt,p'⟩,fun x H' y=>?_⟩;obtain⟨e,y⟩:=y;subst e;exact hs i x ys _ (y xs q) p
 ·have e:i=xs.length:=by omega
  subst e;exact .inl ⟨⟨xs,q,zw1 _⟩,by omega,hd ys H p⟩
theorem Ny{js:#[B]}{tt:TT}{te:TE}{lo:Int}{n:Nat}{σ:St}{H:Hp}{Q:VK}(Pv:Nat->#[a]->Hp->Prop)(h0:Pv 0 [] H)(hz:n<=sizeLine)(hy:∀ i ys H,Pv i ys H->ys.length<=i)
  (hs:∀ i ys H,i<n->Pv i ys H->tt (cs js σ (.int (lo+i))) H fun b H2=>if b=true then te (cs js σ (.int (lo+i))) H2 fun y H3=>Pv (i+1) (ys++[y]) H3 else Pv (i+1) ys H2)
  (hd:∀ ys H,Pv n ys H->∀ p,H p=none->Q (.ref p) (upd H p (.lst ys))):zab (Itr lo n) js tt te σ H Q:=by
 refine⟨fun i m ys H=>m=n-i/\i<=n/\Pv i ys H,⟨n,by simp,zxj _,h0⟩,?_⟩;rintro i m ys H ⟨rfl,hi,p⟩;have ly:=hy i ys H p;by_cases hlt:i<n
 ·refine .inr ⟨hlt,by omega,Pv (i+1),fun ys' H' p'=>⟨n-(i+1),by omega,rfl,hlt,p'⟩,fun x H' y=>?_⟩;obtain⟨e,y⟩:=y;subst e y;exact hs i ys _ hlt p
 ·have e:i=n:=by omega
  subst e;exact .inl ⟨zw1 _,by omega,hd ys H p⟩
theorem Ce{js:#[B]}{te:TE}{lo:Int}{n:Nat}{σ:St}{H:Hp}{Q:VK}(f:Nat->V)(hz:n<=sizeLine)
  (hs:∀ i (R:VK),i<n->R (f i) H->te (cs js σ (.int (lo+i))) H R) (hd:∀ p,H p=none->Q (.ref p) (upd H p (.lst ((List.range n).map f)))):zab (Itr lo n) js tYes te σ H Q:=by
 refine Ny (fun i ys H'=>H'=H/\ys=(List.range i).map f) #[w,rfl] hz (fun i ys H' ⟨_,e⟩=>by rw[e,zwo,zxo];exact zw1 _) (fun i ys H' hi ⟨e1,e2⟩=>?_) fun ys H' ⟨e1,e2⟩ p hp=>?_
 ·subst e1;unfold tYes;dsimp only;rw[#[P]];refine hs i _ hi ⟨rfl,?_⟩;rw[e2,List.range_succ,zwv];rfl
 ·subst e1;rw[e2];exact hd p hp
theorem zac{K:Frag}{js:#[B]}{tt:TT}{te:TE}{a:Addr}{xs:#[a]}{σ:St}{H:Hp}{Q:VK}(p:V->Bool)(f:V->V)(hl:SqL K H a xs)(hz:xs.length<=sizeLine)
  (ht:∀ (i:Nat) (x:V) (R:Bool->Hp->Prop),xs[i]?=some x->R (p x) H->tt (cs js σ x) H R) (hs:∀ (i:Nat) (x:V) (R:VK),xs[i]?=some x->p x=true->R (f x) H->te (cs js σ x) H R)
  (hd:∀ q,H q=none->Q (.ref q) (upd H q (.lst ((xs.filter p).map f)))):zab (Itl K a) js tt te σ H Q:=by
 refine X5 (fun i ys H'=>H'=H/\ys=((xs.take i).filter p).map f) #[w,rfl] (fun i ys H' _ ⟨e,_⟩=>e▸hl) hz
  (fun i ys H' ⟨_,e⟩=>by rw[e,zwo];exact zw4 (zxn _ _) (zx1 _ _)) (fun i x ys H' hx ⟨e1,e2⟩=>?_) fun ys H' ⟨e1,e2⟩ q hq=>?_
 ·subst e1;refine ht i x _ hx ?_;have e3:((xs.take (i+1)).filter p).map f=ys++(if p x then [f x] else []):=by
   rw[e2,zx3,hx,zyf,zwv];cases hp:p x<;>simp[hp]
  cases hp:p x with
  | true =>
    rw[#[P]];refine hs i x _ hx hp ⟨rfl,?_⟩;rw[e3,hp];rfl
  | false =>
    rw[if_neg ⋯];refine⟨rfl,?_⟩;rw[e3,hp];simp
 ·subst e1;rw[e2,zw6];exact hd q hq
theorem Je:∀ {xs:List V} {us:List Value},xs.length=us.length->(∀ (j:Nat) x u,xs[j]?=some x->us[j]?=some u->RelV x u)->Vals xs us
 | [],[],_,_=>.nil
 | x :: xs,u :: us,hl,h=>.cons (h 0 x u rfl rfl) (Je (by simpa using hl) fun j x' u' h1 h2=>h (j+1) x' u' (by simpa using h1) (by simpa using h2))
abbrev TF:=St->Hp->(Hp->Prop)->Prop
def PF(X:Cx)(e:Expr)(t:TF):Prop :=
 ∀ (pins:#[C]) (s:Shared) (σ:St) (H:Hp) (k:Hp->Prop),#[l]->t σ H k ->
   wpAny (model X.prog X.w) X.A (eval e X.env) (fun u s'=>∃ y tk H',u=.str y tk/\y.length<=10000/\#[H,H',s']/\k H') X.xe s
def PFs(X:Cx)(es:List Expr)(t:TF):Prop :=
 ∀ (pins:#[C]) (s:Shared) (σ:St) (H:Hp) (k:Hp->Prop) (acc:Str),#[l]->acc.length+10000*es.length<=sizeLine->t σ H k ->
   Joins (model X.prog X.w) X.A X.xe (evalEach es X.env) acc (fun out s'=>out.length<=sizeLine/\∃ H',#[H,H',s']/\k H') s
def zmi:TF:=fun _ H k=>k H
def zmj(t u:TF):TF:=fun σ H k=>t σ H fun H1=>u σ H1 k
def okF(v:V):Prop:=(∃ i,v=.int i/\i.natAbs.log2<1920)\/∃ y,v=.str y/\y.length<=10000
def znc(te:TE):TF:=fun σ H k=>te σ H fun v H1=>okF v/\k H1
def zmk(t:TF):TE:=fun σ H Q=>t σ H fun H1=>∀ z,Q (.str z) H1
section
variable{X:Cx}{e:Expr}{es:List Expr}{te:TE}{t u:TF}{pos:Pos}
theorem Xz{j}(h:x.length<=10000):PF X (.Constant (.str x) j pos) zmi:=fun _ _ _ H _ I hk=>Calls.Constant_str ⟨x,_,H,rfl,h,I.tok _,hk⟩
theorem W7(he:PE X e te):PF X (.FormattedValue e (-1) none pos) (znc te):=by
 intro pins s σ H k I h;refine FormattedValue_plain (thn (he pins s σ H _ I h) fun v s1 ⟨x,H1,I1,r1,ok,hk⟩=>?_);rcases ok with ⟨i,rfl,hi⟩|⟨y,rfl,hy⟩
 ·obtain⟨t,rfl⟩:=r1;refine formatField_int_small hi ⟨_,_,H1,rfl,?_,I1.tok _,hk⟩;have:=int_text_length_le (k:=1920) ⋯ hi;show (Str.ofString (toString i)).length<=10000;rw[PySem.ofString_length];omega
 ·obtain⟨t,rfl⟩:=r1;exact formatField_str (fun t' tk=>⟨y,t',H1,rfl,hy,I1.tok tk,hk⟩) (by rw[sizeLine_eq];omega)
theorem Vh:PFs X [] zmi:=fun _ _ _ H _ _ I hz hk=>⟨by simpa using hz,H,I,hk⟩
theorem Z3(h1:PF X e t)(h2:PFs X es u)(hs:evalEach (e :: es) X.env=#[G,e] :: evalEach es X.env:=by rfl):PFs X (e :: es) (zmj t u):=by
 intro pins s σ H k acc I hz h;rw[hs];refine thn (h1 pins s σ H _ I h) fun v s1 ⟨y,tk,H1,e1,hy,I1,hk⟩=>⟨y,tk,e1,?_,?_⟩
 ·rw[strLen_append];rw[zw9] at hz;omega
 ·exact h2 pins s1 σ H1 k _ I1 (by rw[strLen_append];rw[zw9] at hz;omega) hk
theorem Vi(h:PFs X (e :: e' :: es) t)(hl:es.length<=100):PE X (.JoinedStr (e :: e' :: es) pos) (zmk t):=by
 intro pins s σ H Q I h';refine wpAny_JoinedStr ?_;have q:=h pins s σ H _ Str.empty I (by rw[sizeLine_eq];simp only[zw9];have:Str.empty.length=0:=rfl;omega) h';have mono:∀ (ps:List (Sem Value)) (acc:Str) (Q1 Q2:Str->Shared->Prop) (s:Shared),(∀ o s,Q1 o s->Q2 o s)->Joins (model X.prog X.w) X.A X.xe ps acc Q1 s->Joins (model X.prog X.w) X.A X.xe ps acc Q2 s:=by
  intro ps
  induction ps with
  | nil=>intro acc Q1 Q2 s m z;exact m _ _ z
  | cons p r ih=>intro acc Q1 Q2 s m z;exact thn z fun v s1 ⟨y,tk,e1,hz,z1⟩=>⟨y,tk,e1,hz,ih _ _ _ _ m z1⟩
 refine mono _ _ _ _ _ (fun out s1 ⟨hz,H1,I1,hk⟩=>⟨hz,.str out,H1,I1.tok _,#[w,_],hk out⟩) q
end
section
variable{X:Cx}
theorem Nz(hc:X.calm=true):V5 X (.type "list") (fun xs H Q=>∃ a kvs,xs=[.ref a]/\Rd H a (.dK kvs)/\∀ l,H l=none->Q (.ref l) (upd H l (.lst (kvs.map fun kv=>kV kv.1)))):=by
 intro pins s σ H xs us Q I r h;obtain⟨a,kvs,rfl,ha,q⟩:=h;obtain⟨u,rfl,ru⟩:=T3 r;cases (show u=Value.ref a from ru);obtain⟨hz,lo,vs,kv,o,es,ep,e1,e2⟩:=Pj I.hok ha;have hl:kvs.length=vs.length:=KV.length kv;refine PySem.W.kdl_call (PySem.W.kdl_dict (knd:=Ys X.prog X.w) (kvs:=vs) (ep:=ep) lo) (I.ok.hd hc) ⟨o,es,e1,e2⟩ (by rw[<- hl];exact hz) fun h' tk acc c hk hS hacc=>?_;have hf:H s.heap.objs.size=none:=I.hok.fresh (zw1 _);refine⟨.ref s.heap.objs.size,upd H s.heap.objs.size (.lst (kvs.map fun kv=>kV kv.1)),I.laid (t':=tk) hk (zw1 _) ?_,rfl,q _ hf⟩;obtain⟨accl⟩:=acc;refine⟨by rw[zwo];exact hz,accl,c,?_,hS⟩;have hlen:accl.length=vs.length:=by have:=hacc.1;simpa using this
 refine Je (by rw[zwo,hl,hlen]) fun j x u hx hu=>?_;obtain⟨k,y,hk1,hk2⟩:=hacc.2 j u (by simpa using hu);have ek:=congrArg (·[j]?) (KV.keys kv);simp only[zws,hk1,zxv] at ek;rw[zws] at hx;cases hkv:kvs[j]? with
 | none=>rw[hkv] at hx;cases hx
 | some p =>
   rw[hkv] at hx ek;have e1:kV p.1=x:=Option.some.inj hx;have e2:p.1=k:=Option.some.inj ek;rw[<- e1,e2];rcases Y3 hk2 with ⟨i,t,rfl,rfl⟩|⟨z,t,rfl,rfl⟩
   ·exact#[w,t]
   ·exact#[w,t]
end
inductive Dt where
 | non|bl (b:Bool)|int (i:Int)|str (x:Str)|lst (xs:List Dt)|tup (xs:List Dt)
mutual
inductive Is(K:Frag)(H:Hp):V->Dt->Prop where
 | non:Is K H .non .non
 | bl (b:Bool):Is K H (.bl b) (.bl b)
 | int (i:Int):Is K H (.int i) (.int i)
 | str (x:Str):Is K H (.str x) (.str x)
 | lst {a:Addr} {xs:#[a]} {ds:List Dt} (h:SqL K H a xs) (hs:T5 K H xs ds):Is K H (.ref a) (.lst ds)
 | tup {a:Addr} {xs:#[a]} {ds:List Dt} (h:SqT K H a xs) (hs:T5 K H xs ds):Is K H (.ref a) (.tup ds)
inductive T5(K:Frag)(H:Hp):#[a]->List Dt->Prop where
 | nil:T5 K H [] []
 | cons {x:V} {xs:#[a]} {d:Dt} {ds:List Dt} (h:Is K H x d) (t:T5 K H xs ds):T5 K H (x :: xs) (d :: ds)
end
mutual
def eqD:Dt->Dt->Bool
 | .non,.non=>true
 | .bl a,.bl b=>a == b
 | .bl a,.int b=>(if a then 1 else 0) == b
 | .int a,.bl b=>a == (if b then 1 else 0)
 | .int a,.int b=>a == b
 | .str a,.str b=>a == b
 | .lst xs,.lst ys=>O8 xs ys
 | .tup xs,.tup ys=>O8 xs ys
 | _,_=>false
def O8:List Dt->List Dt->Bool
 | [],[]=>true
 | x :: xs,y :: ys=>eqD x y&&O8 xs ys
 | _,_=>false
end
mutual
theorem M5:∀ d:Dt,eqD d d=true
 | .non=>by simp[eqD]
 | .bl _=>by simp[eqD]
 | .int _=>by simp[eqD]
 | .str _=>by simp[eqD]
 | .lst xs=>by rw[eqD];exact Kd xs
 | .tup xs=>by rw[eqD];exact Kd xs
theorem Kd:∀ ds:List Dt,O8 ds ds=true
 | []=>by simp[O8]
 | d :: ds=>by rw[O8,M5 d,Kd ds];rfl
end
section
variable{X:Cx}{pins:#[C]}{σ:St}{H:Hp}{s:Shared}
mutual
def toPy:Dt->PyData
 | .non=>.none
 | .bl b=>.bool b
 | .int i=>.int i
 | .str x=>.str x
 | .lst xs=>.list (Xq xs)
 | .tup xs=>.tuple (Xq xs)
def Xq:List Dt->List PyData
 | []=>[]
 | d :: ds=>toPy d :: Xq ds
end
mutual
theorem M6:∀ d e:Dt,PyData.eqv (toPy d) (toPy e)=eqD d e
 | .non,e=>by cases e<;>simp[toPy,eqD,PyData.eqv]
 | .bl _,e=>by cases e<;>simp[toPy,eqD,PyData.eqv]
 | .int _,e=>by cases e<;>simp[toPy,eqD,PyData.eqv]
 | .str _,e=>by cases e<;>simp[toPy,eqD,PyData.eqv]
 | .lst xs,.lst ys=>by rw[toPy,toPy,PyData.eqv,eqD];exact Ke xs ys
 | .tup xs,.tup ys=>by rw[toPy,toPy,PyData.eqv,eqD];exact Ke xs ys
 | .lst _,.non=>by simp[toPy,eqD,PyData.eqv]
 | .lst _,.bl _=>by simp[toPy,eqD,PyData.eqv]
 | .lst _,.int _=>by simp[toPy,eqD,PyData.eqv]
 | .lst _,.str _=>by simp[toPy,eqD,PyData.eqv]
 | .lst _,.tup _=>by simp[toPy,eqD,PyData.eqv]
 | .tup _,.non=>by simp[toPy,eqD,PyData.eqv]
 | .tup _,.bl _=>by simp[toPy,eqD,PyData.eqv]
 | .tup _,.int _=>by simp[toPy,eqD,PyData.eqv]
 | .tup _,.str _=>by simp[toPy,eqD,PyData.eqv]
 | .tup _,.lst _=>by simp[toPy,eqD,PyData.eqv]
theorem Ke:∀ ds es:List Dt,PyData.eqvAll (Xq ds) (Xq es)=O8 ds es
 | [],[]=>by simp[Xq,O8,PyData.eqvAll]
 | [],_ :: _=>by simp[Xq,O8,PyData.eqvAll]
 | _ :: _,[]=>by simp[Xq,O8,PyData.eqvAll]
 | d :: ds,e :: es=>by rw[Xq,Xq,PyData.eqvAll,O8,M6 d e,Ke ds es]
end
mutual
theorem Is.reads(I:#[l]):∀ {d:Dt} {x:V} {u:Value},Is X.K H x d->RelV x u->∃ as,Reads s.heap u (toPy d) as
 | _,_,_,.non,r=>by cases r;exact⟨_,.none⟩
 | _,_,_,.bl b,r=>by cases r;exact⟨_,.bool b⟩
 | _,_,_,.int i,r=>by obtain⟨t,rfl⟩:=r;exact⟨_,.int i t⟩
 | _,_,_,.str i,r=>by obtain⟨t,rfl⟩:=r;exact⟨_,.str i t⟩
 | _,_,_,.lst h hs,r=>by
   cases r;obtain⟨its,r1,⟨o,n',e1,e2,e3,e4⟩,_⟩:=I.list h;obtain⟨as,q⟩:=T5.reads I hs r1;rw[toPy];exact⟨_,.list e1 e2 e4 (by simpa using q)⟩
 | _,_,_,.tup h hs,r=>by
   cases r;obtain⟨its,r1,⟨o,e1,e2,n',e4⟩,_⟩:=I.tuple h;obtain⟨as,q⟩:=T5.reads I hs r1;rw[toPy];exact⟨_,.tuple e1 e2 e4 (by simpa using q)⟩
theorem T5.reads(I:#[l]):∀ {ds:List Dt} {xs:List V} {us:List Value},T5 X.K H xs ds->Vals xs us->∃ as,ReadsAll s.heap us (Xq ds) as
 | _,_,_,.nil,r=>by cases r;exact⟨_,.nil⟩
 | _,_,_,.cons h t,r=>by
   cases r with
   | cons r1 r2 =>
     obtain⟨as,q1⟩:=Is.reads I h r1;obtain⟨bs,q2⟩:=T5.reads I t r2;exact⟨_,.cons q1 q2⟩
end
def shD(d:Dt):Prop:=SeqAt.shaped (toPy d)=true
inductive rEqD(K:Frag)(neg:Bool)(x:V)(y:V)(H:Hp)(Q:VK):Prop where
 | mk(d)(e)(_:Is K H x d)(_:Is K H y e)(_:shD d)(_:shD e)(_:Q (.bl (if neg then !eqD d e else eqD d e)) H)
theorem zkx(hu:X.A.units+64<cLine):OpR X (compareOp .Eq) (rEqD X.K false):=by
 intro pins s σ H x y v u Q I rx ry h;obtain⟨d,e,h1,h2,s1,s2,q⟩:=h;obtain⟨as,r1⟩:=h1.reads I rx;obtain⟨bs,r2⟩:=h2.reads I ry;exact eq_dataH r1 r2 s1 s2 hu (by rw[M6];exact⟨.bl _,H,I,rfl,q⟩)
theorem zky(hu:X.A.units+64<cLine):OpR X (compareOp .NotEq) (rEqD X.K true):=by
 intro pins s σ H x y v u Q I rx ry h;obtain⟨d,e,h1,h2,s1,s2,q⟩:=h;obtain⟨as,r1⟩:=h1.reads I rx;obtain⟨bs,r2⟩:=h2.reads I ry;exact ne_dataH r1 r2 s1 s2 hu (by rw[M6];exact⟨.bl _,H,I,rfl,q⟩)
end
section
variable{P:Program}{w:World}{K:Frag}{mg:#[R]}{base:Heap}{x m:Str}{k j:Nat}{ps:List Str}{sp:Sp}{C:Addr}
def Z2(P:Program)(w:World)(K:Frag)(mg:#[R])(base:Heap)(x:Str)(k:Nat)(ps:List Str)(sp:Sp):Prop :=
 ∃ (f:Addr) (fd:FuncData),FnOk P w K mg base #[f] k f fd ps sp/\mg x=#[c,f]/\PySem.W.keepIn K (.ref f)=true/\Ru K fd ps []
def Zx(P:Program)(w:World)(K:Frag)(mg:#[R])(base:Heap)(C:Addr)(m:Str)(k:Nat)(ps:List Str)(sp:Sp):Prop :=
 ∃ (f:Addr) (fd:FuncData),FnOk P w K mg base #[f] k f fd ps sp/\zgg K C m f/\Ru K fd ps []
def T6(P:Program)(w:World)(K:Frag)(mg:#[R])(base:Heap)(x:Str)(C:Addr)(k:Nat)(ps:List Str)(sp:Sp):Prop :=
 ∃ (f:Addr) (fd:FuncData),FnOk P w K mg base #[f] k f fd ps sp/\Mk K C f/\mg x=#[c,C]/\Ru K fd ps []
theorem zad:Vv #[f] X E0:=fun _ _ _ _ _ _ _ h=>by obtain⟨_,_,_,_,_,_,_,_,_,_,z⟩:=h;exact z.elim
structure znp(K:Frag)(mg:#[R])(x:Str)(st:Stmt)(f:Addr)(fd:FuncData):Prop where
 fn:#[i,x,x,st]
 nm:mg x=#[b,.ref,f]
end
section
variable{X:Cx}{k:Nat}{C:Addr}{ps:List Str}{sp:Sp}{E:XK}{x m:Str}{p pos apos:Pos}{e o:Expr}{es:List Expr}{ta:TE}{t:TA}
theorem zdj(D:Z2 X.prog X.w X.K X.mg X.base x k ps sp)(hr:Vq k X.A)(hx:Vv (CX1 X.prog X.w) X E)(hg:Gl X x)(ha:PA X (e :: es) t)(hdb:(x == ("__debug__":Str))=false:=by decide)
  (he:starEach (e :: es) X.env=(false,#[G,e]) :: starEach es X.env:=by rfl) (hpl:#[aA]=false:=by rfl):PE X (.Call (.Name x p) (e :: es) [] pos) (Hv sp [] E t):=by
 obtain⟨f,fd,F,hm,kp,b⟩:=D;exact zik F hr hg hm kp b .nil hx ha hdb he hpl
theorem Xs(he:PE X o ta)(c:Cls X.K C)(M:Zx X.prog X.w X.K X.mg X.base C m k ps sp)(hr:Vq k X.A)(hx:Vv (CX1 X.prog X.w) X E)(ha:PA X (e :: es) t)
  (hst:starEach (e :: es) X.env=(false,#[G,e]) :: starEach es X.env:=by rfl) (hpl:#[aA]=false:=by rfl)
  (ht:#[G,.Call (.Attribute o m apos) (e :: es) [] pos]=(do
   let ov <- #[G,o]
   standAt apos.atName
   let (f,first) <- holding [ov] (getMethod ov m pl)
   callWith pos f first (backTo pos (starEach (e :: es) X.env)) (backToKw pos (keywordEach [] X.env))):=by rfl):PE X (.Call (.Attribute o m apos) (e :: es) [] pos) (Hw C m sp [] E ta t):=by
 obtain⟨f,fd,F,hm,b⟩:=M;exact zil he c hm F hr b .nil hx ha hst hpl ht
theorem Yp(he:PE X o ta)(c:Cls X.K C)(M:Zx X.prog X.w X.K X.mg X.base C m k ps sp)(hr:Vq k X.A)(hx:Vv (CX1 X.prog X.w) X E)
  (ht:#[G,.Call (.Attribute o m apos) [] [] pos]=(do
   let ov <- #[G,o]
   standAt apos.atName
   let (f,first) <- holding [ov] (getMethod ov m pl)
   callWith pos f first (backTo pos (starEach [] X.env)) (backToKw pos (keywordEach [] X.env))):=by rfl):PE X (.Call (.Attribute o m apos) [] [] pos) (Hw C m sp [] E ta tNil):=by
 obtain⟨f,fd,F,hm,b⟩:=M;exact zgh he c hm F hr b .nil hx ht
theorem Bl(M:T6 X.prog X.w X.K X.mg X.base x C k ps sp)(hr:Vq (k+1) X.A)(hx:Vv (CX1 X.prog X.w) X E)(hg:Gl X x)(ha:PA X (e :: es) t)(hdb:(x == ("__debug__":Str))=false:=by decide)
  (he:starEach (e :: es) X.env=(false,#[G,e]) :: starEach es X.env:=by rfl) (hpl:#[aA]=false:=by rfl):PE X (.Call (.Name x p) (e :: es) [] pos) (zdc C sp [] E t):=by
 obtain⟨f,fd,F,mk,hm,b⟩:=M;exact zim mk F hr hg hm b .nil hx ha hdb he hpl
theorem zdk(M:T6 X.prog X.w X.K X.mg X.base x C k ps sp)(hr:Vq (k+1) X.A)(hx:Vv (CX1 X.prog X.w) X E)(hg:Gl X x)(hdb:(x == ("__debug__":Str))=false:=by decide):PE X (.Call (.Name x p) [] [] pos) (zdc C sp [] E tNil):=by
 obtain⟨f,fd,F,mk,hm,b⟩:=M;exact zgi mk F hr hg hm b .nil hx hdb
theorem W4(hg:Gl X x)(hm:∃ t,X.mg x=some (.int i t))(hd:(x == ("__debug__":Str))=false:=by decide):PE X (.Name x pos) (tC (.int i)):=by
 obtain⟨t,hm⟩:=hm;exact zic hg hm #[w,t] hd
end
inductive zml(te:TE)(D:Pp)(σ:L2.St)(x:V)(H1:Hp):Prop where
 | mk(l)(xs)(_:x=.ref l)(_:#[y,H1,l,xs])(_:te σ H1 fun y H2=>∃ ys,H2 l=#[r,ys]/\ys.length<sizeLine/\D.nx σ (upd H2 l (.lst (ys++[y]))))
def zmm(to te:TE):TS:=fun D σ H=>to σ H fun x H1=>zml te D σ x H1
theorem Yu(ho:PE X o to)(he:PE X e te)(hbase:attributeBase o "append" X.env #[G,o]=eval o X.env:=by rfl)
  (hst:starEach [e] X.env=[(false,#[G,e])]:=by rfl)
  (hline:(apos.endLine == cpos.line)=true:=by rfl) (hs:swapsWith (.Call (.Attribute o "append" apos) [e] [] cpos) none pos.line X.env=pure false:=by rfl):PS X (.Expr (.Call (.Attribute o "append" apos) [e] [] cpos) pos) (zmm to te):=by
 intro pins s σ H D I h;refine wpAny_Expr ?_ I.quiet;refine wpAny_Call_method_late hbase (by rw[hst];rfl) hline rfl (thn (ho pins s σ H _ I h) fun v s1 ⟨x,H1,I1,r1,l,xs,e1,hl,q1⟩=>?_);subst e1;obtain⟨h1,h2⟩:=zcc (T:="list") I1 r1 (.inl ⟨rfl,_,SqL.of hl⟩);refine⟨"list","list.append",PySem.F.plainAttrs_list,PySem.F.slot_list_append,PySem.F.type_list_append,h1,h2,?_⟩;rw[hst];refine Calls.callWith_builtin rfl (Calls.evalArgs_plain ?_);refine Calls.spliced_cons (thn (he pins s1 σ H1 _ I1 q1) fun u s2 ⟨y,H2,I2,r2,ys,hl2,hz,q2⟩=>Calls.spliced_nil ?_);refine thn (zes pins s2 σ H2 (.ref l) [y] v [u] (fun v H3=>v=.non/\D.nx σ H3) I2 r1 (.cons r2 .nil) ⟨l,ys,y,rfl,rfl,hl2,hz,rfl,q2⟩) fun z s3 ⟨zv,H3,I3,rz,ez,q3⟩=>?_;subst ez;cases rz;exact⟨σ,H3,I3,q3⟩
section
variable{X:Cx}{K:Frag}
theorem zgw(hK:X.K=K):IxR X (Et K):=hK▸ziw
theorem zi2(hK:X.K=K):IxR X (zeq K):=hK▸zkr
theorem Ez(hK:X.K=K):V5 X (.builtin "len") (fun xs H Q=>∃ p ys,xs=[.ref p]/\(SqL K H p ys\/SqT K H p ys)/\Q (.int ys.length) H):=hK▸Bh
theorem Y0(hK:X.K=K):V5 X (.type "list") (fun xs H Q=>∃ p ys,xs=[.ref p]/\(SqL K H p ys\/SqT K H p ys)/\∀ l,H l=none->Q (.ref l) (upd H l (.lst ys))):=hK▸Bi
theorem Xr(hK:X.K=K):V5 X (.builtin "isinstance") (zmh K):=hK▸zgv
theorem N1(hK:X.K=K):OpR X (compareOp .In) (rIn K false):=hK▸zer
theorem Wg(hK:X.K=K):OpR X (compareOp .NotIn) (rIn K true):=hK▸Bg
theorem Hg(hK:X.K=K)(hu:X.A.units+64<cLine):OpR X (compareOp .Eq) (rEqD K false):=hK▸zkx hu
theorem Hh(hK:X.K=K)(hu:X.A.units+64<cLine):OpR X (compareOp .NotEq) (rEqD K true):=hK▸zky hu
theorem Gi(hK:X.K=K):SlR X (zix K):=hK▸ziy
variable{o e l tg value a:Expr}{f:Str}{pos pos':Pos}{ta tv tl:TE}{es:List Expr}{k n:Nat}{t:TGs}
theorem Zs(hK:X.K=K)(he:PE X e ta)(hb:attributeBase e f X.env #[G,e]=#[G,e]):PE X (.Attribute e f pos) (zl2 K ta f):=hK▸zke he hb
theorem Xk(hK:X.K=K)(ha:PE X o ta)(hv:PE X value tv)(hs:swapsWith value (some (.Attribute o f pos')) pos.line X.env=pure false):PS X (.Assign [.Attribute o f pos'] value pos) (zl4 K ta tv f):=hK▸zkf ha hv hs
theorem Z8(hK:X.K=K)(hl:PE X l tl):PI X tg l (zc7 K tl):=hK▸zif hl
theorem Wb(hK:X.K=K)(hc:X.calm=true)(h:PGs X es t)(hn:(assignEach es X.env).length=n:=by rfl)(hst:(assignEach es X.env).findIdx? (·.1)=none:=by rfl):PG X (.Tuple es k pos) (zlw K n t):=hK▸zka hc h hn hst
theorem Cf(hK:X.K=K)(ha:PE X a ta)(he:∀ whole,isTrue a X.env whole=(do let v <- whole;standAt a.pos;holding [v] (truthy v))):PT X a (fun σ H Q=>ta σ H fun x H'=>∃ k,TruV K x H' k/\Q k H'):=hK▸zgc ha he
end
section
variable{X:Cx}{K:Frag}
theorem Gj(hK:X.K=K):V5 X (.type "tuple") (fun xs H Q=>∃ p ys,xs=[.ref p]/\((SqL K H p ys/\∀ l,H l=none->Q (.ref l) (upd H l (.tup ys)))\/(SqT K H p ys/\Q (.ref p) H))):=hK▸Ew
end
end L2
namespace G
open PySem PySem.Spec PyProof.Rows L2
theorem sz1:1<=sizeLine:=by decide
theorem sz2:2<=sizeLine:=by decide
theorem sz3:3<=sizeLine:=by decide
theorem sz4:4<=sizeLine:=by decide
theorem szN(h:n<=1000):n<=sizeLine:=zy6 (X4 h)
theorem itD{p:Prop}[Decidable p]{A B:Prop}(h1:p->A)(h2:¬ p->B):if decide p=true then A else B:=by
 by_cases h:p
 ·rw[zwu h,#[P]];exact h1 h
 ·rw[zwz h,if_neg ⋯];exact h2 h
theorem itN{p:Prop}[Decidable p]{A B:Prop}(h1:¬ p->A)(h2:p->B):if (!decide p)=true then A else B:=by
 by_cases h:p
 ·rw[zwu h];exact iteF (h2 h)
 ·rw[zwz h];exact iteT (h1 h)
theorem itB{b:Bool}{A B:Prop}(h1:b=true->A)(h2:b=false->B):if b=true then A else B:=by
 cases b
 ·exact iteF (h2 rfl)
 ·exact iteT (h1 rfl)
theorem Ry:#[g,V.int i=V.int j]=#[g,i=j]:=by
 by_cases h:i=j
 ·subst h;simp
 ·rw[zwz h,zwz fun z=>h (V.int.inj z)]
theorem itV{i j:Int}{A B:Prop}(h1:i=j->A)(h2:¬ i=j->B):if decide (V.int i=V.int j)=true then A else B:=by
 rw[Ry];exact itD h1 h2
theorem Zj(h:H p=none):Same H (upd H p o):=fun b u e=>by rw[Zh (Zg e h)];exact e
def Yq(i:Int):Prop:=i.natAbs.log2<1920
theorem Yl(h:i.natAbs<=10 ^ 60):Yq i:=by
 unfold Yq;by_cases h0:i.natAbs=0
 ·rw[h0];decide
 ·exact(Nat.log2_lt h0).mpr (zye h ⋯)
theorem Yv(h:-1000<=i)(h':i<=1000):Yq i:=Yl (zw4 (show i.natAbs<=1000 by omega) ⋯)
theorem Wy{xs:#[o]}{i:Int}(h0:0<=i)(h1:i<xs.length):atI (xs.map V.int) i=#[b,.int,xs.getD i.toNat 0]:=by
 obtain⟨k,rfl⟩:∃ k:Nat,i=k:=⟨i.toNat,by omega⟩;refine Zz ?_;have hk:k<xs.length:=by omega
 rw[zws,zwp hk,zxv,zw3,zxb,zwp hk];rfl
theorem Wc(h1:∀ Q:Bool->Hp->Prop,Q b H->t σ H Q)(h2:∀ Q:Bool->Hp->Prop,Q c H->u σ H Q)(Q:Bool->Hp->Prop)(h:Q (b||c) H):tOr t u σ H Q:=by
 refine h1 _ ?_;cases b with
 | true=>exact h
 | false=>exact h2 _ h
theorem Y9(h1:∀ Q:Bool->Hp->Prop,Q b H->t σ H Q)(h:if b=true then A D σ H else B D σ H):L8 t A B D σ H:=h1 _ h
theorem Yk(h:A { D with nx:=B D } σ H):Zw A B D σ H:=h
theorem zae(J:L2.St->Hp->Prop)(hc:∀ Q:Bool->Hp->Prop,Q b H->c σ H Q)(h1:b=true->∀ N:L2.St->Hp->Prop,(∀ σ' H',J σ' H'->N σ' H')->t { D with nx:=N } σ H)
  (h2:b=false->∀ N:L2.St->Hp->Prop,(∀ σ' H',J σ' H'->N σ' H')->e { D with nx:=N } σ H) (h3:∀ σ' H',J σ' H'->u D σ' H'):Zw (L8 c t e) u D σ H:=by
 refine hc _ ?_;cases b with
 | true=>rw[#[P]];exact h1 rfl _ h3
 | false=>rw[if_neg ⋯];exact h2 rfl _ h3
theorem Zu(h:D.nx σ H):Ho D σ H:=h
theorem zkz(K:Frag):PySem.W.kitOne K (.type "int") (.type "int")=some true:=rfl
theorem zk0(K:Frag):PySem.W.kitOne K (.type "int") (.type "bool")=some false:=by with_unfolding_all rfl
theorem N2(K:Frag):PySem.W.kitOne K (.type "list") (.type "list")=some true:=rfl
theorem Bm(K:Frag):PySem.W.kitOne K (.type "tuple") (.type "tuple")=some true:=rfl
theorem zk1(K:Frag):PySem.W.kitOne K (.type "str") (.type "str")=some true:=rfl
inductive Z7(H:Hp):#[a]->List (List V)->Prop where
 | nil:Z7 H [] []
 | cons {t:Addr} {r:#[a]} {ts:#[a]} {R:List (List V)} (h:#[N,H,t,r]) (q:Z7 H ts R):Z7 H (.ref t :: ts) (r :: R)
theorem Z7.mono(k:#[al]):∀ {ts:List V} {R:List (List V)},Z7 H ts R->Z7 H' ts R
 | _,_,.nil=>.nil
 | _,_,.cons h r=>.cons (k _ _ h) (Z7.mono k r)
theorem Z7.same(e:#[j])(h:Z7 H ts R):Z7 H' ts R:=h.mono fun t xs q=>e _ _ q
theorem Z7.length:∀ {ts:List V} {R:List (List V)},Z7 H ts R->ts.length=R.length
 | _,_,.nil=>rfl
 | _,_,.cons _ r=>by simp[Z7.length r]
theorem Z7.snoc(h:#[N,H,t,x]):∀ {ts:List V} {R:List (List V)},Z7 H ts R->Z7 H (ts++[.ref t]) (R++[x])
 | _,_,.nil=>.cons h .nil
 | _,_,.cons h' r=>.cons h' (Z7.snoc h r)
theorem Z7.get:∀ {ts:List V} {R:List (List V)} {i:Nat} {x:V},Z7 H ts R->ts[i]?=some x->∃ t r,x=.ref t/\R[i]?=some r/\H t=#[J,r]
 | _,_,_,_,.nil,e=>by simp at e
 | _,_,0,_,.cons h _,e=>by simp at e;subst e;exact⟨_,_,rfl,rfl,h⟩
 | _,_,i+1,x,.cons _ r,e=>by
   obtain⟨t,n,h1,h2,h3⟩:=Z7.get (i:=i) (x:=x) r (by simpa using e);exact⟨t,n,h1,by simpa using h2,h3⟩
theorem Z7.getR:∀ {ts:List V} {R:List (List V)} {i:Nat} {r:List V},Z7 H ts R->R[i]?=some r->∃ t,ts[i]?=#[c,t]/\H t=#[J,r]
 | _,_,_,_,.nil,e=>by simp at e
 | _,_,0,_,.cons h _,e=>by simp at e;subst e;exact#[q,_,h]
 | _,_,i+1,x,.cons _ r,e=>by
   obtain⟨t,h1,h2⟩:=Z7.getR (i:=i) (r:=x) r (by simpa using e);exact⟨t,by simpa using h1,h2⟩
inductive M7(vs:#[a])(H:Hp)(Q:VK)(_:XK):Prop where
 | mk(i)(_:vs=[.int i])(_:Q (.bl true) H)
def Xe(ns:#[o])(k:Nat):Int:=(ns[k]?).getD 0
inductive zcg(K:Frag)(vs:#[a])(H:Hp)(Q:VK)(_:XK):Prop where
 | mk(b:Addr)(ns:#[o])(k:Nat)(_:vs=[.ref b,.int k])(_:SqL K H b (ns.map V.int))(_:Q (.int (Xe ns k)) H)
def zk2(c k:Int):Int:=(c*48271+k)%2147483647
def zmn(c k:Int):Int:=(zk2 c k*69621+7*k)%2147483629
def znd(c k:Int):Int:=(zmn c k*39373+zk2 c k)%2147483587
def zi3(c k:Int):Int:=(zk2 c k*2147483647+zmn c k)*2147483647+znd c k
inductive zdl(vs:#[a])(H:Hp)(Q:VK)(_:XK):Prop where
 | mk(c)(k)(_:vs=[.int c,.int k])(_:Q (.int (zi3 c k)) H)
def stp(c:Int):Int:=([1,2,5,10,100,500,998]:List Int).getD (c%7).toNat 0
def ze0(c:Int)(j:Nat):Int:=1+(c/7+stp c*(j:Int))%999
def Jf(c:Int)(many:Nat):#[o]:=(List.range many).map (ze0 c)
inductive Gk(vs:#[a])(H:Hp)(Q:VK)(_:XK):Prop where
 | mk(c:Int)(many:Nat)(_:vs=[.int c,.int many])(_:many<=1000)(_:∀ l H',H' l=#[I,(Jf c many).map,V.int]->#[j]->H l=none->Q (.ref l) H')
def Bn(c:Int):Int:=([1,2,5,10,50,97,98]:List Int).getD (c%7).toNat 0
def Cg(c:Int)(j:Nat):Int:=1+(c/7+Bn c*(j:Int))%99
def P6(c:Int)(many:Nat):#[o]:=(List.range many).map (Cg c)
inductive zdm(vs:#[a])(H:Hp)(Q:VK)(_:XK):Prop where
 | mk(c:Int)(many:Nat)(_:vs=[.int c,.int many])(_:many<=1000)(_:∀ l H',H' l=#[I,(P6 c many).map,V.int]->#[j]->H l=none->Q (.ref l) H')
def oneV(x:V):Prop:=x=.non\/∃ i,x=.int i
inductive M8(vs:#[a])(H:Hp)(Q:VK)(_:XK):Prop where
 | mk(x)(_:vs=[x,x])(_:oneV x)(_:Q (.bl true) H)
inductive Gm(K:Frag)(vs:#[a])(H:Hp)(Q:VK)(_:XK):Prop where
 | mk(b c:Addr)(xs:#[a])(_:vs=[.ref b,.ref c])(_:#[y,H,b,xs])(_:SqL K H c xs)(_:(∀ x∈xs,oneV x))(_:xs.length<=1000)(_:Q (.bl true) H)
inductive Ci(K:Frag)(vs:#[a])(H:Hp)(Q:VK)(_:XK):Prop where
 | mk(b c:Addr)(xs:#[a])(_:vs=[.ref b,.ref c])(_:#[N,H,b,xs])(_:SqT K H c xs)(_:(∀ x∈xs,oneV x))(_:xs.length<=1000)(_:Q (.bl true) H)
inductive Cj(K:Frag)(vs:#[a])(H:Hp)(Q:VK)(_:XK):Prop where
 | mk(b c:Addr)(ts us:#[a])(R:List (List V))(_:vs=[.ref b,.ref c])(_:#[y,H,b,ts])(_:SqL K H c us)(_:Z7 H ts R)(_:Z7 H us R)(_:(∀ r∈R,r.length<=1000/\∀ x∈r,oneV x))(_:R.length<=1000)(_:Q (.bl true) H)
inductive zdn(K:Frag)(vs:#[a])(H:Hp)(Q:VK)(_:XK):Prop where
 | mk(b:Addr)(ns:#[o])(_:vs=[.ref b])(_:SqL K H b (ns.map V.int))(_:ns.length<=63)(_:∀ H',Q (.bl true) H')
structure Row where
 h:Int
 g:Int
 d:Int
 w:#[D]
def oV:#[D]->V
 | none=>.non
 | some n=>.int n
def row4(r:Row):#[a]:=[.int r.h,.int r.g,.int r.d,oV r.w]
theorem zk3(o:#[D]):oneV (oV o):=by
 cases o with
 | none=>exact .inl rfl
 | some n=>exact .inr ⟨n,rfl⟩
theorem zk4{H:Hp}{ts:#[a]}{rs:List Row}{i:Nat}{x:V}(h:Z7 H ts (rs.map row4))(e:ts[i]?=some x):∃ t r,x=.ref t/\rs[i]?=some r/\H t=some (.tup (row4 r)):=by
 obtain⟨t,r,h1,h2,h3⟩:=h.get e;rw[zws] at h2;cases q:rs[i]? with
 | none=>rw[q] at h2;cases h2
 | some m=>rw[q] at h2;cases h2;exact⟨t,m,h1,rfl,h3⟩
def hit(n c:Int)(r:Row):Bool:=#[g,r.w=some n]&&(#[g,r.h=c]||#[g,r.g=c])
def Bo(n c:Int)(Rs:#[Z]):Nat×Nat:=Rs.foldl (fun p rs=>(p.1+1,if rs.any (hit n c) then p.1+1 else p.2)) (0,0)
def metS(Rs:#[Z])(n c:Int):Nat:=(Bo n c Rs).2
theorem zgx(n c:Int)(Rs:#[Z]):(Bo n c Rs).1=Rs.length:=by
 have h:∀ (Rs:List (List Row)) (p:Nat×Nat),(Rs.foldl (fun p rs=>(p.1+1,if rs.any (hit n c) then p.1+1 else p.2)) p).1=p.1+Rs.length:=fun Rs=>by
  induction Rs with
  | nil=>intro p;rfl
  | cons r Rs ih=>intro p;rw[List.foldl_cons,ih,zw9];simp only;omega
 have:=h Rs (0,0);unfold Bo;rw[this];simp
theorem ze1(Rs:#[Z])(rs:List Row)(n c:Int):metS (Rs++[rs]) n c=if rs.any (hit n c) then Rs.length+1 else metS Rs n c:=by
 unfold metS;have e:Bo n c (Rs++[rs])=((Bo n c Rs).1+1,if rs.any (hit n c) then (Bo n c Rs).1+1 else (Bo n c Rs).2):=by
  unfold Bo;rw[List.foldl_append];rfl
 rw[e,zgx]
def zaf(kvs:List (List Key×V))(f:Int->Int->Nat):Prop:=∀ n c:Int,valV kvs [inl n,inl c]=if f n c=0 then none else some (.int (f n c))
inductive Qj(H:Hp):#[a]->#[Z]->Prop where
 | nil:Qj H [] []
 | cons {t:Addr} {ts rs:#[a]} {r:List Row} {R:#[Z]} (h:#[N,H,t,ts]) (q:Z7 H ts (r.map row4)) (n:Qj H rs R):Qj H (.ref t :: rs) (r :: R)
theorem Qj.mono(k:#[al]):∀ {ts:List V} {R:List (List Row)},Qj H ts R->Qj H' ts R
 | _,_,.nil=>.nil
 | _,_,.cons h q r=>.cons (k _ _ h) (q.mono k) (Qj.mono k r)
theorem Qj.length:∀ {ts:List V} {R:List (List Row)},Qj H ts R->ts.length=R.length
 | _,_,.nil=>rfl
 | _,_,.cons _ _ r=>by simp[Qj.length r]
theorem Qj.snoc(h:#[N,H,t,xs])(q:Z7 H xs (x.map row4)):∀ {ts:List V} {R:List (List Row)},Qj H ts R->Qj H (ts++[.ref t]) (R++[x])
 | _,_,.nil=>.cons h q .nil
 | _,_,.cons h' q' r=>.cons h' q' (Qj.snoc h q r)
theorem Qj.getR:∀ {ts:List V} {R:List (List Row)} {i:Nat} {r:List Row},Qj H ts R->R[i]?=some r->∃ t xs,ts[i]?=#[c,t]/\H t=#[J,xs]/\Z7 H xs (r.map row4)
 | _,_,_,_,.nil,e=>by simp at e
 | _,_,0,_,.cons h q _,e=>by simp at e;subst e;exact⟨_,_,rfl,h,q⟩
 | _,_,i+1,x,.cons _ _ r,e=>by
   obtain⟨t,xs,h1,h2,h3⟩:=Qj.getR (i:=i) (r:=x) r (by simpa using e);exact⟨t,xs,by simpa using h1,h2,h3⟩
def tot(Rs:#[Z]):Nat:=(Rs.map List.length).sum
theorem zgy(Rs:#[Z])(rs:List Row):tot (Rs++[rs])=tot Rs+rs.length:=by unfold tot;rw[zwv,List.sum_append];simp
structure Uu(C:Addr)(H:Hp)(p lr ld:Addr)(Rs:#[Z]):Prop where
 at_:∃ dx,H p=some (.ins C dx [("rounds",.ref lr),("meetings",.ref ld)])
 rd:∃ rs,H lr=#[r,rs]/\Qj H rs Rs
 mt:∃ kvs,H ld=#[b,.dT,kvs]/\zaf kvs (metS Rs)/\kvs.length<=2*tot Rs
theorem Uu.same{C:Addr}{H H':Hp}{p lr ld:Addr}{Rs:#[Z]}(h:Uu C H p lr ld Rs)(e:#[j]):Uu C H' p lr ld Rs:=by
 obtain⟨⟨dx,h1⟩,⟨rs,h2,h3⟩,⟨kvs,h4,h5⟩⟩:=h;exact⟨⟨dx,e _ _ h1⟩,⟨rs,e _ _ h2,h3.mono fun t xs q=>e _ _ q⟩,⟨kvs,e _ _ h4,h5⟩⟩
theorem Uu.keep{C:Addr}{H H':Hp}{p lr ld:Addr}{Rs:#[Z]}(h:Uu C H p lr ld Rs)(ep:∀ o,H p=#[d]->H' p=#[d])(er:∀ o,H lr=#[d]->H' lr=#[d])(ed:∀ o,H ld=#[d]->H' ld=#[d])(et:#[al]):Uu C H' p lr ld Rs:=by
 obtain⟨⟨dx,h1⟩,⟨rs,h2,h3⟩,⟨kvs,h4,h5⟩⟩:=h;exact⟨⟨dx,ep _ h1⟩,⟨rs,er _ h2,h3.mono et⟩,⟨kvs,ed _ h4,h5⟩⟩
theorem Rz:List.lookup ("rounds":Str) ([("rounds",V.ref x),("meetings",V.ref y)]:List (Str×V))=#[b,.ref,x]:=by simp only[zxs,beq_self_eq_true]
theorem P8:List.lookup ("meetings":Str) ([("rounds",V.ref x),("meetings",V.ref y)]:List (Str×V))=#[b,.ref,y]:=by
 have e:(("meetings":Str) == "rounds")=false:=by decide +kernel
 simp only[zxs,e,beq_self_eq_true]
theorem Jg{x y:Addr}{m:Str}(h:¬ m="rounds")(h':¬ m="meetings"):List.lookup m ([("rounds",V.ref x),("meetings",V.ref y)]:#[aa])=none:=by
 have e:(m == "rounds")=false:=zxg.mpr h;have e':(m == "meetings")=false:=zxg.mpr h';simp only[zxs,e,e',List.lookup_nil]
inductive zdo(C:Addr)(vs:#[a])(H:Hp)(Q:VK)(_:XK):Prop where
 | mk(p)(dx)(_:vs=[.ref p])(_:H p=some (.ins C dx []))(_:∀ lr ld H',Uu C H' p lr ld []->(∀ b o,H b=some o->b≠p->H' b=some o)->H lr=none->H ld=none->lr≠ld->Q .non H')
inductive Kf(C:Addr)(vs:#[a])(H:Hp)(Q:VK)(_:XK):Prop where
 | mk(p)(lr)(ld)(Rs)(_:vs=[.ref p])(_:Uu C H p lr ld Rs)(_:Q (.int (Rs.length:Nat)) H)
inductive zdp(C N:Addr)(vs:#[a])(H:Hp)(Q:VK)(E:XK):Prop where
 | mk(p)(lr)(ld)(Rs)(i)(_:vs=[.ref p,.int i])(_:Uu C H p lr ld Rs)(_:Yq i)(_:(i<1\/(Rs.length:Int)<i->#[K,N]))(_:∀ (k:Nat) r,i=(k:Int)+1->Rs[k]?=some r->∀ l ts,H l=none->Z7 H ts (r.map row4)->Q (.ref l) (upd H l (.lst ts)))
inductive zjx(C:Addr)(vs:#[a])(H:Hp)(Q:VK)(_:XK):Prop where
 | mk(p)(lr)(ld)(Rs)(n)(c)(_:vs=[.ref p,.int n,.int c])(_:Uu C H p lr ld Rs)(_:∀ H',Same H H'->Q (.int (metS Rs n c:Nat)) H')
theorem O3:([inl n,inl c]:List Key)=[inl n',inl c']↔n=n'/\c=c':=by
 constructor
 ·intro h;injection h with h1 h2;injection h2 with h2 _;exact⟨inl.inj h1,inl.inj h2⟩
 ·rintro⟨rfl,rfl⟩;rfl
theorem zaf.put(h:zaf kvs f)(n c:Int)(t:Nat)(ht:0<t):zaf (putK kvs [inl n,inl c] (.int t)) fun n' c'=>if n'=n/\c'=c then t else f n' c':=fun n' c'=>by
 rw[Vr];show _=if (if n'=n/\c'=c then t else f n' c')=0 then none else #[b,V.int,((if n'=n/\c'=c then t else f n' c':Nat):Int)]
 by_cases e:n'=n/\c'=c
 ·rw[if_pos e,if_pos (O3.mpr e),if_neg ⋯]
 ·rw[#[h,fun z=>e (O3.mp z)],#[h,e]];exact h n' c'
def Kg(Rs:#[Z])(rs:List Row)(i:Nat)(n c:Int):Nat:=if (rs.take i).any (hit n c) then Rs.length+1 else metS Rs n c
theorem ze2(Rs:#[Z])(rs:List Row):Kg Rs rs 0=metS Rs:=by funext n c;unfold Kg;simp
theorem zgz(Rs:#[Z])(rs:List Row):Kg Rs rs rs.length=metS (Rs++[rs]):=by funext n c;unfold Kg;rw[zw6,ze1]
theorem Ck(e:rs[i]?=some r)(n c:Int):Kg Rs rs (i+1) n c=if hit n c r then Rs.length+1 else Kg Rs rs i n c:=by
 unfold Kg;rw[zx3,e,List.any_append];cases h1:(rs.take i).any (hit n c)<;>cases h2:hit n c r<;>simp[h2]
theorem ze3(e:rs[i]?=some r)(h:r.w=none):Kg Rs rs (i+1)=Kg Rs rs i:=by
 funext n c
 rw[Ck e];have:hit n c r=false:=by unfold hit;rw[h];simp
 rw[this];simp
theorem ze4(e:rs[i]?=some r)(h:r.w=some w) :
  (fun n c=>if n=w/\c=r.g then Rs.length+1 else (fun n c=>if n=w/\c=r.h then Rs.length+1 else Kg Rs rs i n c) n c)=Kg Rs rs (i+1):=by
 funext n c
 rw[Ck e];unfold hit;rw[h];show (if n=w/\c=r.g then Rs.length+1 else if n=w/\c=r.h then Rs.length+1 else Kg Rs rs i n c)=_;by_cases h1:n=w
 ·subst h1;by_cases h2:r.g=c
  ·rw[if_pos ⟨rfl,h2.symm⟩,if_pos (by simp[h2])]
  ·rw[#[h,fun z=>h2 z.2.symm]];by_cases h3:r.h=c
   ·rw[if_pos ⟨rfl,h3.symm⟩,if_pos (by simp[h3])]
   ·rw[#[h,fun z=>h3 z.2.symm],#[h,(by simp[h2,h3])]]
 ·rw[#[h,fun z=>h1 z.1],#[h,fun z=>h1 z.1],#[h,(by simp;intro z;exact absurd z.symm h1)]]
theorem zg0{C:Addr}{H1 H':Hp}{x dx lr ld:Addr}(hx:H1 x=none)(hdx:H1 dx=none)(ne:dx≠x)(k:∀ b o,upd (upd H1 dx (.own x)) x (.ins C dx []) b=#[d]->b≠x->H' b=#[d])
  (h1:upd (upd H1 dx (.own x)) x (.ins C dx []) lr=none) (h2:upd (upd H1 dx (.own x)) x (.ins C dx []) ld=none):Same H1 H'/\H1 lr=none/\H1 ld=none:=by
 have fr:∀ {l:Addr},upd (upd H1 dx (.own x)) x (.ins C dx []) l=none->H1 l=none:=fun {l} q=>by
  have n1:l≠x:=fun z=>by rw[z,Ze] at q;cases q
  have n2:l≠dx:=fun z=>by rw[z,Zh ne,Ze] at q;cases q
  rw[Zh n1,Zh n2] at q;exact q
 refine⟨fun b o e=>k b o ?_ (Zg e hx),fr h1,fr h2⟩;rw[Zh (Zg e hx),Zh (Zg e hdx)];exact e
theorem zmo{lr ld:Addr}:putF "meetings" (V.ref ld) [(("rounds":Str),V.ref lr)]=[(("rounds":Str),V.ref lr),(("meetings":Str),V.ref ld)]:=by
 show (if ("rounds":Str)="meetings" then _ else _)=_;rw[if_neg ⋯];rfl
theorem Yb(h:H l=none)(s:#[j]):Same H (upd H' l o):=fun b u e=>by
 rw[Zh (Zg e h)];exact s b u e
theorem M9(h:oneV x):Tb x=true:=by rcases h with rfl|⟨i,rfl⟩<;>rfl
inductive RLs(H:Hp):#[x]->#[Z]->Prop where
 | nil:RLs H [] []
 | cons {l:Addr} {ts:#[a]} {ls:#[x]} {r:List Row} {R:#[Z]} (h:#[y,H,l,ts]) (q:Z7 H ts (r.map row4)) (n:RLs H ls R):RLs H (l :: ls) (r :: R)
theorem E1(c:Int)(m:Nat):(P6 c m).length=m:=by unfold P6;rw[zwo,zxo]
theorem Lb(c:Int)(m:Nat):(Jf c m).length=m:=by unfold Jf;rw[zwo,zxo]
structure L1(C:Addr)(H0:Hp)(p lr ld kR:Addr)(ls:#[x])(R S:#[Z])(H:Hp):Prop where
 base:Same H0 H
 led:Uu C H p lr ld R
 krs:#[ap,kR]
 rls:RLs H ls S
 sep:∀ l∈ls,l≠lr/\l≠kR
structure C1(H0:Hp)(lr ld kR:Addr):Prop where
 fr:H0 lr=none
 fd:H0 ld=none
 fk:H0 kR=none
 rk:lr≠kR
theorem Kh(h1:∀ Q:Bool->Hp->Prop,Q b H->t σ H Q)(h2:∀ Q:Bool->Hp->Prop,Q c H->u σ H Q)(Q:Bool->Hp->Prop)(h:Q (b&&c) H):zid t u σ H Q:=by
 refine h1 _ ?_;cases b with
 | true=>exact h2 _ h
 | false=>exact h
def Pk(Rs:#[Z])(n c rest:Int):Bool:=#[g,(if (0:Int)>(Rs.length:Nat)-rest then 0 else ((Rs.length:Nat):Int)-rest)<(metS Rs n c:Nat)]
inductive zag(C:Addr)(vs:#[a])(H:Hp)(Q:VK)(_:XK):Prop where
 | mk(p)(lr)(ld)(Rs)(n)(c)(rest)(_:vs=[.int n,.int c,.ref p,.int rest])(_:Uu C H p lr ld Rs)(_:∀ H',Same H H'->Q (.bl (Pk Rs n c rest)) H')
def bw(b:Bool)(w:Str):List Str:=if b then [w] else []
def whyS(Rs:#[Z])(n g c h gu d:Int)(o:Bool)(rest:Int):List Str :=
 bw o "away"++(bw (decide (g<d)) "grade"++(bw (decide (c=h)||decide (c=gu)) "club"++bw (Pk Rs n h rest||Pk Rs n gu rest) "met"))
inductive Cm(K:Frag)(C:Addr)(vs:#[a])(H:Hp)(Q:VK)(_:XK):Prop where
 | mk(t1 t2 p lr ld:Addr)(Rs:#[Z])(n g c h gu d rest:Int)(o:Bool)(_:vs=[.ref t1,.ref t2,.bl o,.ref p,.int rest])(_:#[N,H,t1,[.int n,.int g,.int c]])(_:#[N,H,t2,[.int h,.int gu,.int d]])(_:Uu C H p lr ld Rs)(_:∀ l H',H' l=#[I,(whyS Rs n g c h gu d o rest).map,V.str]->#[j]->H l=none->Q (.ref l) H')
def Gr(c:TT)(σ:L2.St)(H:Hp)(b:Bool):Prop:=∀ Q:Bool->Hp->Prop,(∀ H1,Same H H1->Q b H1)->c σ H Q
theorem zah(h1:Gr t σ H b)(h2:∀ H1,Same H H1->Gr u σ H1 c):Gr (tOr t u) σ H (b||c):=fun Q h=>by
 refine h1 _ fun H1 s1=>?_;cases b with
 | true=>exact h H1 s1
 | false=>exact h2 H1 s1 _ fun H2 s2=>h H2 (s1.trans s2)
theorem Qk(h:∀ Q:Bool->Hp->Prop,Q b H->c σ H Q):Gr c σ H b:=fun Q q=>h Q (q H (Same.refl H))
theorem S4(hc:Gr c σ H b)(h0:H0 l=none)(s:Same H0 H)(hl:H l=some (.lst (xs.map V.str)))(hx:xs.length<=100)(hv:σ[i]?=some #[c,l])
  (h3:∀ H',Same H0 H'->H' l=#[I,(xs++bw b w).map,V.str]->(∀ b o,H b=some o->b≠l->H' b=some o)->u D σ H'):Zw (L8 c (zmm (tVar i) (tC (.str w))) Ho) u D σ H:=by
 refine hc _ fun H1 s1=>?_;have hl1:=s1 _ _ hl;cases b with
 | true =>
   rw[#[P]];refine⟨_,hv,l,_,rfl,hl1,_,hl1,X4 (by rw[zwo];omega),?_⟩;refine h3 _ (Yb h0 (s.trans s1)) ?_ fun b o e n=>by rw[Zh n];exact s1 _ _ e
   rw[Ze,zwv];rfl
 | false =>
   rw[if_neg ⋯];exact h3 _ (s.trans s1) (by rw[show bw false w=[] from rfl,zx4];exact hl1) fun b o e _=>s1 _ _ e
theorem Ki(b:Bool)(w:Str):(bw b w).length<=1:=by cases b<;>simp[bw]
theorem zi4:x<metS Rs n c↔∃ (j:Nat) (r:List Row),Rs[j]?=some r/\r.any (hit n c)=true/\x<j+1:=by
 have gen:∀ (Rs:List (List Row)) (p:Nat×Nat),p.2<=p.1->(x<(Rs.foldl (fun p rs=>(p.1+1,if rs.any (hit n c) then p.1+1 else p.2)) p).2↔(∃ (j:Nat) (r:List Row),Rs[j]?=some r/\r.any (hit n c)=true/\x<p.1+j+1)\/x<p.2):=fun Rs=>by
  induction Rs with
  | nil=>intro p hp;simp
  | cons r Rs ih =>
    intro p hp;rw[List.foldl_cons,ih _ (by show (if r.any (hit n c) then p.1+1 else p.2)<=p.1+1;split<;>omega)];show ((∃ (j:Nat) (r':List Row),Rs[j]?=some r'/\r'.any (hit n c)=true/\x<p.1+1+j+1)\/x<(if r.any (hit n c) then p.1+1 else p.2))↔_;constructor
    ·rintro(⟨j,r',h1,h2,h3⟩|h)
     ·exact .inl ⟨j+1,r',by simpa using h1,h2,by omega⟩
     ·by_cases hr:r.any (hit n c)=true
      ·rw[if_pos hr] at h;exact .inl ⟨0,r,rfl,hr,by omega⟩
      ·rw[#[h,hr]] at h;exact .inr h
    ·rintro(⟨j,r',h1,h2,h3⟩|h)
     ·cases j with
      | zero =>
        have e:r=r':=by simpa using h1
        subst e;exact .inr (by rw[if_pos h2];omega)
      | succ j=>exact .inl ⟨j,r',by simpa using h1,h2,by omega⟩
     ·right
      split<;>omega
 have:=gen Rs (0,0) (zw1 _);unfold metS Bo;rw[this];simp
theorem ze5{Rs:#[Z]}{n c rest:Int}:Pk Rs n c rest=true↔∃ (j:Nat) (r:List Row),Rs[j]?=some r/\r.any (hit n c)=true/\(Rs.length:Int)-rest<=j:=by
 unfold Pk;rw[decide_eq_true_eq];have e:(if (0:Int)>(Rs.length:Nat)-rest then 0 else ((Rs.length:Nat):Int)-rest)<(metS Rs n c:Nat)↔(((Rs.length:Nat):Int)-rest).toNat<metS Rs n c:=by
  split<;>omega
 rw[e,zi4];constructor
 ·rintro⟨j,r,h1,h2,h3⟩;exact⟨j,r,h1,h2,by omega⟩
 ·rintro⟨j,r,h1,h2,h3⟩;exact⟨j,r,h1,h2,by omega⟩
theorem zg1(c:Int)(hi:i<40)(hj:j<40)(h:ze0 c i=ze0 c j):i=j:=by
 unfold ze0 at h;have hs:stp c=1\/stp c=2\/stp c=5\/stp c=10\/stp c=100\/stp c=500\/stp c=998:=by
  unfold stp;have h0:0<=c%7:=by omega
  have h1:c%7<7:=by omega
  generalize c%7=r at h0 h1;obtain⟨k,rfl⟩:∃ k:Nat,r=k:=⟨r.toNat,by omega⟩;rw[zw3];have hk:k<7:=by omega
  match k,hk with
  | 0,_=>simp
  | 1,_=>simp
  | 2,_=>simp
  | 3,_=>simp
  | 4,_=>simp
  | 5,_=>simp
  | 6,_=>simp
 generalize c/7=x at h;rcases hs with e|e|e|e|e|e|e<;>rw[e] at h<;>omega +splitMinMax
end G
namespace G
open PySem PySem.Spec PyProof.Rows L2
abbrev P3:=Int×Int×Int
def pV(m:P3):#[a]:=[.int m.1,.int m.2.1,.int m.2.2]
theorem Jz{H:Hp}{ts:#[a]}{Ms:List P3}{i:Nat}{x:V}(h:Z7 H ts (Ms.map pV))(e:ts[i]?=some x):∃ t m,x=.ref t/\Ms[i]?=some m/\H t=some (.tup (pV m)):=by
 obtain⟨t,r,h1,h2,h3⟩:=h.get e;rw[zws] at h2;cases q:Ms[i]? with
 | none=>rw[q] at h2;cases h2
 | some m=>rw[q] at h2;cases h2;exact⟨t,m,h1,rfl,h3⟩
theorem Z7.reverse:∀ {ts:List V} {R:List (List V)},Z7 H ts R->Z7 H ts.reverse R.reverse
 | _,_,.nil=>.nil
 | _,_,.cons h q=>by rw[zyy,zyy];exact(Z7.reverse q).snoc h
def P9(Rs:#[Z])(h gu d:Int)(os:#[a])(rest:Int)(m:P3):Bool:=(whyS Rs m.1 m.2.1 m.2.2 h gu d (inV (.int m.1) os) rest).isEmpty
inductive zai(K:Frag)(C:Addr)(vs:#[a])(H:Hp)(Q:VK)(_:XK):Prop where
 | mk(lp lo tm p lr ld:Addr)(Rs:#[Z])(ts:#[a])(Ms:List P3)(os:#[a])(h gu d rest:Int)(_:vs=[.ref lp,.ref tm,.ref lo,.ref p,.int rest])(_:#[y,H,lp,ts])(_:Z7 H ts (Ms.map pV))(_:#[y,H,lo,os])(_:(∀ x∈os,oneV x))(_:#[N,H,tm,[.int h,.int gu,.int d]])(_:Uu C H p lr ld Rs)(_:Ms.length<=1000)(_:∀ l H',H' l=#[I,(Ms.filter (P9 Rs h gu d os rest)).map,fun m=>V.int m.1]->#[j]->H l=none->Q (.ref l) H')
theorem ze6{Rs:#[Z]}{n c rest:Int}(hr:0<=rest):Pk Rs n c rest=true↔∃ rs∈Rs.drop ((Rs.length:Int)-rest).toNat,∃ r∈rs,hit n c r=true:=by
 rw[ze5];constructor
 ·rintro⟨j,rs,h1,h2,h3⟩;obtain⟨r,hr1,hr2⟩:=zy1.mp h2;refine⟨rs,?_,r,hr1,hr2⟩;have hk:((Rs.length:Int)-rest).toNat<=j:=by omega
  refine zww (i:=j-((Rs.length:Int)-rest).toNat) ?_;rw[zy5,Nat.add_sub_cancel' hk];exact h1
 ·rintro⟨rs,h1,r,h2,h3⟩;obtain⟨i,hi,e⟩:=zxq h1;refine⟨((Rs.length:Int)-rest).toNat+i,rs,?_,zy1.mpr ⟨r,h2,h3⟩,by omega⟩;rw[<- zy5,zwp hi,e]
def W8(xs:#[a]):#[B]:=(List.range xs.length).filter fun i=>#[g,xs[i]?=some .non]
inductive zg2(K:Frag)(vs:#[a])(H:Hp)(Q:VK)(_:XK):Prop where
 | mk(b:Addr)(xs:#[a])(_:vs=[.ref b])(_:#[y,H,b,xs])(_:(∀ x∈xs,oneV x))(_:xs.length<=100)(_:∀ l H',H' l=#[I,(W8 xs).map,fun i=>V.int (i:Nat)]->#[j]->H l=none->Q (.ref l) H')
def Wh(xs:#[a])(n:Int):Option Nat:=(List.range xs.length).find? fun i=>#[g,xs[i]?=#[e,n]]
def oN:Option Nat->V
 | none=>.non
 | some i=>.int i
inductive Cn(K:Frag)(vs:#[a])(H:Hp)(Q:VK)(_:XK):Prop where
 | mk(b:Addr)(xs:#[a])(n:Int)(_:vs=[.ref b,.int n])(_:#[y,H,b,xs])(_:(∀ x∈xs,oneV x))(_:xs.length<=100)(_:∀ H',Same H H'->Q (oN (Wh xs n)) H')
def Yj:#[E]->#[a]->#[a]
 | [],xs=>xs
 | (p,w) :: r,xs=>Yj r (xs.set p (oV w))
def Wz(s:Nat×Option Int):#[a]:=[.int (s.1:Nat),oV s.2]
inductive R1(K:Frag)(vs:#[a])(H:Hp)(Q:VK)(_:XK):Prop where
 | mk(b c:Addr)(xs ts:#[a])(st:#[E])(_:vs=[.ref b,.ref c])(_:#[y,H,b,xs])(_:#[y,H,c,ts])(_:Z7 H ts (st.map Wz))(_:(∀ s∈st,s.1<xs.length))(_:(∀ x∈xs,oneV x))(_:xs.length<=100)(_:st.length<=100)(_:∀ l H',H' l=#[r,Yj st xs]->#[j]->H l=none->Q (.ref l) H')
theorem Wd:∀ (st:List (Nat×Option Int)) (xs:List V),(Yj st xs).length=xs.length
 | [],_=>rfl
 | (p,w) :: r,xs=>by rw[Yj,Wd r,zyj]
theorem Jh(xs:#[a])(n:Int):(Wh xs n=none/\∀ i:Nat,xs[i]?≠#[b,V.int,n])\/∃ i:Nat,Wh xs n=some i/\xs[i]?=some (V.int n):=by
 unfold Wh;cases h:(List.range xs.length).find? (fun i=>#[g,xs[i]?=#[e,n]]) with
 | none =>
   refine #[M,rfl,fun i e=>?_];have hi:i<xs.length:=(zwq.mp e).1;have:=List.find?_eq_none.mp h i (zxr.mpr hi);exact this (zwu e)
 | some i =>
   have:=List.find?_some h;exact .inr #[q,i,of_decide_eq_true this]
theorem ze7(xs:#[a])(k:Nat):Jx xs (some (k:Int)) none=xs.drop k:=by
 unfold Jx;rw[HT.sIx_nat,HT.sIx_none];by_cases h:k<=xs.length
 ·rw[Nat.min_eq_left h,<- zyt,zw6]
 ·rw[Nat.min_eq_right ⋯,List.drop_length,List.take_nil,List.drop_eq_nil_of_le ⋯]
inductive ILs(H:Hp):#[x]->#[A]->Prop where
 | nil:ILs H [] []
 | cons {l:Addr} {ls:#[x]} {r:#[o]} {R:#[A]} (h:H l=some (.lst (r.map V.int))) (n:ILs H ls R):ILs H (l :: ls) (r :: R)
theorem ILs.keep:∀ {ls:List Addr} {R:List (List Int)},(∀ l∈ls,∀ o,H l=some o->H' l=some o)->ILs H ls R->ILs H' ls R
 | _,_,_,.nil=>.nil
 | _,_,k,.cons h r=>.cons (k _ zxk _ h) (ILs.keep (fun l hl=>k l (zxc _ hl)) r)
theorem ILs.same(e:#[j])(h:ILs H ls R):ILs H' ls R:=h.keep fun l _ o q=>e _ _ q
theorem ILs.length:∀ {ls:List Addr} {R:List (List Int)},ILs H ls R->ls.length=R.length
 | _,_,.nil=>rfl
 | _,_,.cons _ r=>by simp[ILs.length r]
theorem ILs.snoc(h:H l=some (.lst (x.map V.int))):∀ {ls:List Addr} {R:List (List Int)},ILs H ls R->ILs H (ls++[l]) (R++[x])
 | _,_,.nil=>.cons h .nil
 | _,_,.cons h' r=>.cons h' (ILs.snoc h r)
theorem ILs.has:∀ {ls:List Addr} {R:List (List Int)} {l:Addr},ILs H ls R->l∈ls->∃ xs,H l=#[r,xs]
 | _,_,_,.nil,e=>by simp at e
 | _,_,_,.cons h r,e=>by
   rcases zwy.mp e with rfl|e
   ·exact⟨_,h⟩
   ·exact ILs.has r e
theorem ILs.getR:∀ {ls:List Addr} {R:List (List Int)} {i:Nat} {r:List Int},ILs H ls R->R[i]?=some r->∃ l,ls[i]?=some l/\H l=#[I,r.map,V.int]
 | _,_,_,_,.nil,e=>by simp at e
 | _,_,0,_,.cons h _,e=>by simp at e;subst e;exact#[q,_,h]
 | _,_,i+1,x,.cons _ r,e=>by
   obtain⟨t,h1,h2⟩:=ILs.getR (i:=i) (r:=x) r (by simpa using e);exact⟨t,by simpa using h1,h2⟩
theorem ILs.getL:∀ {ls:List Addr} {R:List (List Int)} {i:Nat} {l:Addr},ILs H ls R->ls[i]?=some l->∃ r,R[i]?=some r/\H l=#[I,r.map,V.int]
 | _,_,_,_,.nil,e=>by simp at e
 | _,_,0,_,.cons h _,e=>by simp at e;subst e;exact#[q,_,h]
 | _,_,i+1,x,.cons _ r,e=>by
   obtain⟨t,h1,h2⟩:=ILs.getL (i:=i) (l:=x) r (by simpa using e);exact⟨t,by simpa using h1,h2⟩
structure Uv(rows:#[A])(nu:#[o]):Prop where
 few:rows.length<=20
 crowd:nu.length<=30
 inj:nu.Nodup
 rng:∀ n∈nu,1<=n/\n<=999
 sub:∀ r∈rows,r.Nodup/\∀ n∈r,n∈nu
theorem Uv.len(h:Uv rows nu)(hr:r∈rows):r.length<=30 :=
 zw4 ((h.sub r hr).1.length_le_of_subset (fun x hx=>(h.sub r hr).2 x hx)) h.crowd
structure Ye(rows:#[A])(gs:#[a]):Prop where
 len:gs.length=rows.length
 one:∀ x∈gs,oneV x
 may:∀ (k:Nat) (n:Int),gs[k]?=#[e,n]->∃ r,rows[k]?=some r/\n∈r
 inj:∀ (j k:Nat) (n:Int),gs[j]?=#[e,n]->gs[k]?=#[e,n]->j=k
def Ql(rows:#[A])(gs:#[a])(p:Nat):Prop:=∃ S:Nat->Prop,S p/\∀ q,S q->q<rows.length/\∀ r,rows[q]?=some r->∀ n∈r,∃ q',q' < p/\gs[q']?=#[e,n]/\S q'
def Vw(rows:#[A])(gs:#[a]):Prop:=∀ p,gs[p]?=some .non->Ql rows gs p
inductive zg3(K:Frag)(vs:#[a])(H:Hp)(Q:VK)(_:XK):Prop where
 | mk(l:Addr)(ls:#[x])(rows:#[A])(nu:#[o])(_:vs=[.ref l])(_:#[ap,l])(_:ILs H ls rows)(_:Uv rows nu)(_:∀ l' gs H',H' l'=#[r,gs]->Ye rows gs->Vw rows gs->#[j]->H l'=none->#[S,l'])
inductive Ji(K:Frag)(vs:#[a])(H:Hp)(Q:VK)(_:XK):Prop where
 | mk(l lg:Addr)(ls:#[x])(rows:#[A])(gs:#[a])(_:vs=[.ref l,.ref lg])(_:#[ap,l])(_:ILs H ls rows)(_:rows.length<=100)(_:#[y,H,lg,gs])(_:Ye rows gs)(_:∀ H',Same H H'->Q (.bl true) H')
theorem Qm{n:Int}{r:#[o]}:inV (.int n) (r.map V.int)=#[g,n∈r]:=by
 induction r with
 | nil=>rfl
 | cons x r ih =>
   unfold inV at ih ⊢;rw[zw2,zyx,ih];have e:eqV (.int x) (.int n)=#[g,n=x]:=by
    show (x == n)=_;by_cases h:n=x
    ·subst h;simp
    ·rw[zwz h];exact zxg.mpr (Ne.symm h)
   rw[e];by_cases h:n=x
   ·subst h;simp
   ·by_cases h2:n∈r<;>simp[h,h2]
theorem Kj(r:#[o]):(r.map V.int).all Tb=true:=by
 rw[List.all_map];exact zyb.mpr fun _ _=>rfl
theorem zg4{r:#[o]}:∀ x∈r.map V.int,oneV x:=fun x hx=>by
 obtain⟨n,_,rfl⟩:=zwx.mp hx;exact .inr ⟨n,rfl⟩
end G
namespace G
open PySem PySem.Spec PyProof.Rows L2
def newS(st:#[E])(k:Nat):#[a]:=(st.filter fun s=>decide (s.1=k)).map fun s=>oV s.2
theorem Co:∀ (st:List (Nat×Option Int)) (xs:List V) (k:Nat),(st.map (·.1)).Nodup->k<xs.length->(Yj st xs)[k]?=some ((newS st k++[xs.getD k .non]).getD 0 .non)
 | [],xs,k,_,hk=>by
   rw[Yj,zwp hk];show _=some (xs.getD k .non);rw[zxb,zwp hk];rfl
 | (p,w) :: r,xs,k,nd,hk=>by
   rw[zw2,zxi] at nd;rw[Yj,Co r _ k nd.2 (by rw[zyj];exact hk)];by_cases h:p=k
   ·subst h;have e:newS r p=[]:=by
     unfold newS;rw[List.map_eq_nil_iff,List.filter_eq_nil_iff];intro s hs z;exact nd.1 (zwx.mpr ⟨s,hs,of_decide_eq_true z⟩)
    have e2:newS ((p,w) :: r) p=oV w :: newS r p:=by
     unfold newS;rw[zx5,if_pos (zwu rfl),zw2]
    rw[e2,e];show some ((xs.set p (oV w)).getD p .non)=#[b,oV,w];rw[zxb,zx0 hk];rfl
   ·have e2:newS ((p,w) :: r) k=newS r k:=by
     unfold newS;rw[zx5,#[h,(by rw[zwz h];decide)]]
    rw[e2];have e3:(xs.set p (oV w)).getD k .non=xs.getD k .non:=by
     rw[zxb,zxb,zxy h]
    rw[e3]
section
variable{rows:#[A]}{gs:#[a]}
def adjN(rows:#[A])(gs:#[a])(q:Nat)(n:Int)(q':Nat):Prop:=(∃ r,rows[q]?=some r/\n∈r)/\gs[q']?=#[e,n]
def Oa(rows:#[A])(gs:#[a])(q:Nat)(n:Int):Prop:=(∃ r,rows[q]?=some r/\n∈r)/\∀ j:Nat,gs[j]?≠some (V.int n)
def X2(rows:#[A])(gs:#[a])(q:Nat):Prop:=∃ n,Oa rows gs q n
inductive Walk(rows:#[A])(gs:#[a])(p:Nat):Nat->Nat->Prop where
 | nil:#[W,p,p,0]
 | snoc {q q' k:Nat} {n:Int} (h:#[W,p,q,k]) (a:adjN rows gs q n q'):#[W,p,q',k+1]
theorem Walk.cons(a:adjN rows gs p n p')(h:#[W,p',q,k]):#[W,p,q,k+1]:=by
 induction h with
 | nil=>exact .snoc .nil a
 | snoc _ a' ih=>exact .snoc ih a'
inductive Ch(rows:#[A])(gs:#[a]):Nat->#[E]->Nat->#[D]->Prop where
 | one (q:Nat) (w:#[D]):Ch rows gs q [(q,w)] q w
 | step {q q' e:Nat} {n:Int} {st:#[E]} {w:#[D]} (a:adjN rows gs q n q') (h:Ch rows gs q' st e w):Ch rows gs q ((q,some n) :: st) e w
theorem Ch.pos{q e:Nat}{st:#[E]}{w:#[D]}(h:#[aj]):0<st.length:=by cases h<;>simp
theorem Ch.walk{q e:Nat}{st:#[E]}{w:#[D]}(h:#[aj]):#[W,q,e,st.length-1]:=by
 induction h with
 | one q w=>exact .nil
 | step a h ih =>
   have:=h.pos;have e:=Walk.cons a ih;rw[zw9,Nat.add_sub_cancel];rw[Nat.sub_add_cancel this] at e;exact e
theorem Ch.drop{q e:Nat}{st:#[E]}{w:#[D]}(h:#[aj]):∀ x∈st.map (·.1),∃ st',Ch rows gs x st' e w/\st'.length<=st.length:=by
 induction h with
 | one q w=>intro x hx;simp at hx;subst hx;exact⟨_,.one _ _,zw1 _⟩
 | @step q q' e n st w a h ih =>
   intro x hx;rw[zw2] at hx;rcases zwy.mp hx with z|z
   ·subst z;exact⟨_,.step a h,zw1 _⟩
   ·obtain⟨st',h1,h2⟩:=ih x z;exact⟨st',h1,by rw[zw9];omega⟩
theorem Ch.hd{q e:Nat}{st:#[E]}{w:#[D]}(h:#[aj]):∃ x r,st=(q,x) :: r:=by cases h<;>exact#[L,_,_]
theorem Ch.last{q e:Nat}{st:#[E]}{w:#[D]}(h:#[aj]):e∈st.map (·.1):=by
 induction h with
 | one q w=>simp
 | step a h ih=>rw[zw2];exact zxc _ ih
theorem Ch.nodup{q e:Nat}{st:#[E]}{w:#[D]}(h:#[aj])(hm:∀ k,#[W,q,e,k]->st.length<=k+1):(st.map (·.1)).Nodup:=by
 induction h with
 | one q w=>simp
 | @step q q' e n st w a h ih =>
   rw[zw2,zxi];refine⟨fun hq=>?_,ih fun k hk=>?_⟩
   ·obtain⟨st',h1,h2⟩:=h.drop q hq;have:=hm _ h1.walk;have:=h1.pos;rw[zw9] at *;omega
   ·have:=hm _ (Walk.cons a hk);rw[zw9] at this;omega
theorem Ch.mem{q e:Nat}{st:#[E]}{w:#[D]}(h:#[aj]):∀ (k:Nat) (n:Int),(k,some n)∈st->(adjN rows gs k n k\/True)/\(((∃ r,rows[k]?=some r/\n∈r)/\∃ k',gs[k']?=some (V.int n)/\k'∈st.tail.map (·.1))\/(w=some n/\k=e)):=by
 induction h with
 | one q w =>
   intro k n hk;simp at hk;exact⟨.inr trivial,.inr ⟨hk.2.symm,hk.1⟩⟩
 | @step q q' e n' st w a h ih =>
   intro k n hk;refine⟨.inr trivial,?_⟩;rcases zwy.mp hk with z|z
   ·cases z;refine .inl ⟨a.1,q',a.2,?_⟩;obtain⟨x,r,e⟩:=h.hd;rw[e];simp
   ·rcases(ih k n z).2 with ⟨h1,k',h2,h3⟩|h1
    ·refine .inl ⟨h1,k',h2,?_⟩;show k'∈st.map (·.1);obtain⟨x,r,e⟩:=h.hd;rw[e] at h3 ⊢;exact zxc _ h3
    ·exact .inr h1
theorem Ch.inj{q e:Nat}{st:#[E]}{w:#[D]}(FP:Ye rows gs)(h:#[aj])(hw:∀ n,w=some n->∀ j:Nat,gs[j]?≠#[b,V.int,n])(nd:(st.map (·.1)).Nodup):∀ (j k:Nat) (n:Int),(j,some n)∈st->(k,some n)∈st->j=k:=by
 induction h with
 | one q w=>intro j k n h1 h2;simp at h1 h2;rw[h1.1,h2.1]
 | @step q q' e n' st w a h ih =>
   intro j k n h1 h2;rw[zw2,zxi] at nd;have key:∀ k,(k,some n')∈st->False:=fun k hk=>by
    rcases(h.mem k n' hk).2 with ⟨_,k',h2,h3⟩|⟨h1,_⟩
    ·have e:k'=q':=FP.inj k' q' n' h2 a.2;subst e;obtain⟨x,r,e⟩:=h.hd;have nd2:=nd.2;rw[e] at nd2 h3;rw[zw2,zxi] at nd2;exact nd2.1 h3
    ·exact hw n' h1 q' a.2
   rcases zwy.mp h1 with z1|z1<;>rcases zwy.mp h2 with z2|z2
   ·cases z1;cases z2;rfl
   ·cases z1;exact(key k z2).elim
   ·cases z2;exact(key j z1).elim
   ·exact ih hw nd.2 j k n z1 z2
theorem zg5{st:#[E]}{k:Nat}(nd:(st.map (·.1)).Nodup):(k∉st.map (·.1)/\newS st k=[])\/∃ w,(k,w)∈st/\newS st k=[oV w]:=by
 induction st with
 | nil=>exact #[M,by simp,rfl]
 | cons s r ih =>
   obtain⟨p,w⟩:=s;rw[zw2,zxi] at nd;by_cases h:p=k
   ·subst h;refine .inr ⟨w,zxk,?_⟩;rcases ih nd.2 with ⟨_,e⟩|⟨w',h1,_⟩
    ·have e2:newS ((p,w) :: r) p=oV w :: newS r p:=by
      unfold newS;rw[zx5,if_pos (zwu rfl),zw2]
     rw[e2,e]
    ·exact absurd (zwx.mpr #[L,_,h1]) nd.1
   ·have e2:newS ((p,w) :: r) k=newS r k:=by
     unfold newS;rw[zx5,#[h,(by rw[zwz h];decide)]]
    rw[e2];rcases ih nd.2 with ⟨h1,e⟩|⟨w',h1,e⟩
    ·exact .inl ⟨fun z=>by rcases zwy.mp z with q|q;exact h q.symm;exact h1 q,e⟩
    ·exact .inr ⟨w',zxc _ h1,e⟩
theorem W9{st:#[E]}{xs:#[a]}{k:Nat}(nd:(st.map (·.1)).Nodup)(hk:k<xs.length):(k∉st.map (·.1)/\(Yj st xs)[k]?=xs[k]?)\/∃ w,(k,w)∈st/\(Yj st xs)[k]?=#[b,oV,w]:=by
 rw[Co st xs k nd hk];rcases zg5 (k:=k) nd with ⟨h,e⟩|⟨w,h,e⟩
 ·refine #[M,h,?_];rw[e];show some (xs.getD k .non)=_;rw[zxb,zwp hk];rfl
 ·exact .inr ⟨w,h,by rw[e];rfl⟩
theorem Ch.lt{q e:Nat}{st:#[E]}{w:#[D]}(FP:Ye rows gs)(h:#[aj])(hq:q<rows.length):∀ s∈st,s.1<rows.length:=by
 induction h with
 | one q w=>intro s hs;simp at hs;subst hs;exact hq
 | @step q q' e n st w a h ih =>
   intro s hs;rcases zwy.mp hs with z|z
   ·subst z;exact hq
   ·refine ih ?_ s z;have:=(zwq.mp a.2).1;rw[FP.len] at this;exact this
theorem Ch.fill{q e:Nat}{st:#[E]}{w:#[D]}(FP:Ye rows gs)(h:#[aj])(hq:q<rows.length)(hw:∀ n,w=some n->Oa rows gs e n)(nd:(st.map (·.1)).Nodup):Ye rows (Yj st gs):=by
 have hlt:=h.lt FP hq;have hinj:=h.inj FP (fun n hn=>(hw n hn).2) nd;have src:∀ (k:Nat) (n:Int),(k,some n)∈st->(∃ r,rows[k]?=some r/\n∈r)/\∀ j:Nat,gs[j]?=#[b,V.int,n]->j∈st.map (·.1):=fun k n hk=>by
  rcases(h.mem k n hk).2 with ⟨h1,k',h2,h3⟩|⟨h1,rfl⟩
  ·refine⟨h1,fun j hj=>?_⟩;rw[FP.inj j k' n hj h2];obtain⟨x,r,e⟩:=h.hd;rw[e] at h3 ⊢;exact zxc _ h3
  ·exact⟨(hw n h1).1,fun j hj=>absurd hj ((hw n h1).2 j)⟩
 have cs:∀ k,k<gs.length->(k∉st.map (·.1)/\(Yj st gs)[k]?=gs[k]?)\/∃ w,(k,w)∈st/\(Yj st gs)[k]?=#[b,oV,w]:=fun k hk=>W9 nd hk;have at_:∀ (k:Nat) (n:Int),(Yj st gs)[k]?=#[b,V.int,n]->(k∉st.map (·.1)/\gs[k]?=#[b,V.int,n])\/(k,some n)∈st:=fun k n hk=>by
  have hkl:k<gs.length:=by
   have:=(zwq.mp hk).1;rw[Wd] at this;exact this
  rcases cs k hkl with ⟨h1,e⟩|⟨w',h1,e⟩
  ·exact #[M,h1,by rw[<- e];exact hk]
  ·rw[e] at hk;cases w' with
   | none=>cases hk
   | some m=>cases hk;exact .inr h1
 refine⟨by rw[Wd];exact FP.len,fun x hx=>?_,fun k n hk=>?_,fun j k n hj hk=>?_⟩
 ·obtain⟨k,hk,rfl⟩:=zxq hx;have hkl:k<gs.length:=by rw[Wd] at hk;exact hk
  have e0:=zwp hk;rcases cs k hkl with ⟨_,e⟩|⟨w',_,e⟩
  ·rw[e,zwp hkl] at e0;rw[<- Option.some.inj e0];exact FP.one _ (zxd hkl)
  ·rw[e] at e0;rw[<- Option.some.inj e0];exact zk3 w'
 ·rcases at_ k n hk with ⟨_,h1⟩|h1
  ·exact FP.may k n h1
  ·exact(src k n h1).1
 ·rcases at_ j n hj with ⟨a1,a2⟩|a1<;>rcases at_ k n hk with ⟨b1,b2⟩|b1
  ·exact FP.inj j k n a2 b2
  ·exact absurd ((src k n b1).2 j a2) a1
  ·exact absurd ((src j n a1).2 k b2) b1
  ·exact hinj j k n a1 b1
theorem Ch.out{p0 q e:Nat}{n0:Int}{w:#[D]}{st:#[E]}{S:Nat->Prop}(FP:Ye rows gs)(hS:∀ q,S q->q<rows.length/\∀ r,rows[q]?=some r->∀ n∈r,∃ q',q' < p0/\gs[q']?=#[e,n]/\S q')(h:#[aj]):w=some n0->Oa rows gs e n0->¬ S q:=by
 induction h with
 | one q w =>
   intro hw hf hs;obtain⟨r,h1,h2⟩:=hf.1;obtain⟨q',_,h3,_⟩:=(hS _ hs).2 r h1 n0 h2;exact hf.2 q' h3
 | @step q q' e n st w a h ih =>
   intro hw hf hs;obtain⟨r,h1,h2⟩:=a.1;obtain⟨q'',_,h3,h4⟩:=(hS q hs).2 r h1 n h2;have:q''=q':=FP.inj q'' q' n h3 a.2;subst this;exact ih hw hf h4
theorem Ql.behind{p0 q e:Nat}{n0:Int}{st:#[E]}(FP:Ye rows gs)(S0:Ql rows gs p0)(h:Ch rows gs q st e (some n0))(hf:Oa rows gs e n0)(hq:q<rows.length)(nd:(st.map (·.1)).Nodup):Ql rows (Yj st gs) p0:=by
 obtain⟨S,hp,hS⟩:=S0;have outAll:∀ x∈st.map (·.1),¬ S x:=fun x hx=>by
  obtain⟨st',h1,_⟩:=h.drop x hx;exact h1.out FP hS rfl hf
 refine⟨S,hp,fun q1 h1=>⟨(hS q1 h1).1,fun r hr n hn=>?_⟩⟩;obtain⟨q',h2,h3,h4⟩:=(hS q1 h1).2 r hr n hn;refine⟨q',h2,?_,h4⟩;have hkl:q' < gs.length:=(zwq.mp h3).1;rcases W9 nd hkl with ⟨_,e⟩|⟨w,h5,_⟩
 ·rw[e];exact h3
 ·exact absurd h4 (outAll q' (zwx.mpr #[L,_,h5]))
structure Y4(rows:#[A])(gs:#[a])(p:Nat)(st:#[E])(e:Nat)(w:#[D]):Prop where
 ch:Ch rows gs p st e w
 free:∀ n,w=some n->Oa rows gs e n/\∀ q k,#[W,p,q,k]->X2 rows gs q->st.length<=k+1
 none:w=none->(∀ q k,Walk rows gs p q k->¬ X2 rows gs q)/\(∀ q k,Walk rows gs p q k->q<=e)/\∀ k,#[W,p,e,k]->st.length<=k+1
theorem Y4.nodup{p e:Nat}{st:#[E]}{w:#[D]}(c:Y4 rows gs p st e w):(st.map (·.1)).Nodup:=by
 refine c.ch.nodup fun k hk=>?_;cases h:w with
 | none=>exact(c.none h).2.2 k hk
 | some n=>exact(c.free n h).2 e k hk ⟨n,(c.free n h).1⟩
theorem Y4.fill{p e:Nat}{st:#[E]}{w:#[D]}(FP:Ye rows gs)(c:Y4 rows gs p st e w)(hp:p<rows.length):Ye rows (Yj st gs):=c.ch.fill FP hp (fun n hn=>(c.free n hn).1) c.nodup
theorem zg6(FP:Ye rows gs)(hp:p<rows.length)(ha:∀ q n,gs[q]?=#[b,V.int,n]->q<p)(hn:∀ q k,#[W,p,q,k]->¬ X2 rows gs q):Ql rows gs p:=by
 refine⟨fun q=>∃ k,#[W,p,q,k],⟨0,.nil⟩,fun q ⟨k,hk⟩=>⟨?_,fun r hr n hnr=>?_⟩⟩
 ·cases hk with
  | nil=>exact hp
  | snoc _ a =>
    have:=(zwq.mp a.2).1;rw[FP.len] at this;exact this
 ·by_cases hx:∃ j:Nat,gs[j]?=some (V.int n)
  ·obtain⟨j,hj⟩:=hx;exact⟨j,ha j n hj,hj,k+1,.snoc hk ⟨⟨r,hr,hnr⟩,hj⟩⟩
  ·exact absurd ⟨n,⟨r,hr,hnr⟩,fun j hj=>hx ⟨j,hj⟩⟩ (hn q k hk)
end
section
variable{rows:#[A]}{gs:#[a]}{p:Nat}
structure Bfs(rows:#[A])(gs:#[a])(p:Nat)(line:#[B])(dep:Nat->Nat):Prop where
 nodup:line.Nodup
 memp:p∈line
 d0:dep p=0
 walk:∀ q∈line,#[W,p,q,dep q]
 sorted:∀ (i j q q':Nat),i<=j->line[i]?=some q->line[j]?=some q'->dep q<=dep q'
def Done(rows:#[A])(gs:#[a])(line:#[B])(dep:Nat->Nat)(dn:Nat):Prop:=∀ (i q:Nat),i<dn->line[i]?=some q->∀ n q',adjN rows gs q n q'->q'∈line/\dep q'<=dep q+1
theorem Cp(rows:#[A])(gs:#[a])(p:Nat):Bfs rows gs p [p] fun _=>0:=by
 refine⟨by simp,by simp,rfl,fun q hq=>?_,fun i j q q' _ _ _=>zw1 _⟩;simp at hq;subst hq;exact .nil
variable{line:#[B]}{dep:Nat->Nat}{dn:Nat}
theorem Bfs.reach(B:#[ar])(D:Done rows gs line dep dn)(h:#[W,p,q,k]):(q∈line/\dep q<=k)\/∃ j q',dn<=j/\line[j]?=some q'/\dep q' < k:=by
 induction h with
 | nil=>exact #[M,B.memp,by rw[B.d0];exact zw1 _]
 | @snoc q q' k n h a ih =>
   rcases ih with ⟨h1,h2⟩|⟨j,x,h1,h2,h3⟩
   ·obtain⟨i,hi,e⟩:=zxq h1;have e':line[i]?=some q:=by rw[zwp hi,e]
    by_cases hd:i<dn
    ·obtain⟨a1,a2⟩:=D i q hd e' n q' a;exact #[M,a1,by omega]
    ·exact .inr ⟨i,q,by omega,e',by omega⟩
   ·exact .inr ⟨j,x,h1,h2,by omega⟩
theorem Bfs.full(B:#[ar])(D:Done rows gs line dep line.length)(h:#[W,p,q,k]):q∈line/\dep q<=k:=by
 rcases B.reach D h with z|⟨j,x,h1,h2,_⟩
 ·exact z
 ·have:=(zwq.mp h2).1;omega
theorem Bfs.early(B:#[ar])(D:Done rows gs line dep dn)(hh:line[dn]?=some here)(h:#[W,p,q,k])(hk:k<dep here):∃ i,i<dn/\line[i]?=some q:=by
 rcases B.reach D h with ⟨h1,h2⟩|⟨j,x,h1,h2,h3⟩
 ·obtain⟨i,hi,e⟩:=zxq h1;have e':line[i]?=some q:=by rw[zwp hi,e]
  refine⟨i,?_,e'⟩;by_cases hd:i<dn
  ·exact hd
  ·have:=B.sorted dn i here q ⋯ hh e';omega
 ·have:=B.sorted dn j here x h1 hh h2;omega
theorem Bfs.fewest(B:#[ar])(D:Done rows gs line dep dn)(hh:line[dn]?=some here)(hno:∀ (i q:Nat),i<dn->line[i]?=some q->¬ X2 rows gs q)(h:#[W,p,q,k])(hf:X2 rows gs q):dep here+1<=k+1:=by
 by_cases hk:k<dep here
 ·obtain⟨i,hi,e⟩:=B.early D hh h hk;exact absurd hf (hno i q hi e)
 ·omega
def Wi(dep:Nat->Nat)(q d:Nat):Nat->Nat:=fun x=>if x=q then d else dep x
theorem Bfs.app(B:#[ar])(hh:line[dn]?=some here)(near:∀ x∈line,dep x<=dep here+1)(a:adjN rows gs here n q')(hn:q'∉line) :
  Bfs rows gs p (line++[q']) (Wi dep q' (dep here+1))/\(∀ x∈line,Wi dep q' (dep here+1) x=dep x)/\∀ x∈line++[q'],Wi dep q' (dep here+1) x<=dep here+1:=by
 have old:∀ x∈line,Wi dep q' (dep here+1) x=dep x:=fun x hx=>by
  unfold Wi;rw[#[h,fun (z:x=q')=>hn (by rw[<- z];exact hx)]]
 have new:Wi dep q' (dep here+1) q'=dep here+1:=by unfold Wi;rw[#[P]]
 have hhm:=zww hh;have all:∀ x∈line++[q'],Wi dep q' (dep here+1) x<=dep here+1:=fun x hx=>by
  rcases zw0.mp hx with z|z
  ·rw[old x z];exact near x z
  ·rw[zwt.mp z,new];exact zw1 _
 refine⟨⟨Hf B.nodup hn,zxa _ B.memp,by rw[old p B.memp];exact B.d0,fun q hq=>?_,fun i j x y hij hx hy=>?_⟩,old,all⟩
 ·rcases zw0.mp hq with z|z
  ·rw[old q z];exact B.walk q z
  ·rw[zwt.mp z,new];exact .snoc (B.walk here hhm) a
 ·by_cases hj:j<line.length
  ·rw[zxm hj] at hy;rw[zxm ⋯] at hx;rw[old x (zww hx),old y (zww hy)];exact B.sorted i j x y hij hx hy
  ·rw[zxl ⋯] at hy;have:y=q':=by
    cases e:j-line.length with
    | zero=>rw[e] at hy;simpa using hy.symm
    | succ m=>rw[e] at hy;simp at hy
   subst this;rw[new];exact all x (zww hx)
theorem Done.app(D:Done rows gs line dep dn)(hd:dn<=line.length)(hl:∃ r,line'=line++r)(he:∀ x∈line,dep' x=dep x):Done rows gs line' dep' dn:=fun i q hi e n q' a=>by
 obtain⟨r,rfl⟩:=hl;rw[zxm ⋯] at e;obtain⟨h1,h2⟩:=D i q hi e n q' a;exact⟨zxa _ h1,by rw[he q' h1,he q (zww e)];exact h2⟩
def T7(rows:#[A])(gs:#[a])(p:Nat)(line:#[B])(dep:Nat->Nat)(fr:Nat->Option (Nat×Int)):Prop:=fr p=none/\∀ q∈line,q≠p->∃ par n,fr q=some (par,n)/\par∈line/\adjN rows gs par n q/\dep q=dep par+1
theorem T7.back(d0:dep p=0)(F:T7 rows gs p line dep fr):∀ (d q e:Nat) (w:Option Int) (st:List (Nat×Option Int)),dep q=d->q∈line->#[aj]->∃ pre,Ch rows gs p (pre++st) e w/\pre.length=d:=fun d=>by
 induction d with
 | zero =>
   intro q e w st hd hq h;by_cases hp:q=p
   ·subst hp;exact#[L,[],h]
   ·obtain⟨par,n,_,_,_,h4⟩:=F.2 q hq hp;omega
 | succ d ih =>
   intro q e w st hd hq h;by_cases hp:q=p
   ·subst hp;rw[d0] at hd;cases hd
   ·obtain⟨par,n,h1,h2,h3,h4⟩:=F.2 q hq hp;obtain⟨pre,h5,h6⟩:=ih par e w _ ⋯ h2 (.step h3 h);exact⟨pre++[(par,some n)],by rw[zxw];exact h5,by rw[zwr,h6];rfl⟩
theorem zch{here:Nat}{n:Int}{st:#[E]}(B:#[ar])(D:Done rows gs line dep dn)(hh:line[dn]?=some here)(hno:∀ (i q:Nat),i<dn->line[i]?=some q->¬ X2 rows gs q)(hf:Oa rows gs here n)(c:Ch rows gs p st here (some n))(hl:st.length=dep here+1):Y4 rows gs p st here (some n) :=
 ⟨c,fun m e=>by cases e;exact⟨hf,fun q k hk hq=>by rw[hl];exact B.fewest D hh hno hk hq⟩,(fun z=>nomatch z)⟩
theorem zci{e:Nat}{st:#[E]}(B:#[ar])(D:Done rows gs line dep line.length)(hno:∀ q∈line,¬ X2 rows gs q)(he:∀ q∈line,q<=e)(c:Ch rows gs p st e none)(hl:st.length=dep e+1):Y4 rows gs p st e none :=
 ⟨c,(fun m z=>nomatch z),fun _=>⟨fun q k hk=>hno q (B.full D hk).1,fun q k hk=>he q (B.full D hk).1,fun k hk=>by rw[hl];have:=(B.full D hk).2;omega⟩⟩
end
end G
namespace L2
open PySem PySem.Spec PyProof.Rows
inductive zk5(x:V)(vs:#[a])(H:Hp)(Q:VK):Prop where
 | mk(l:Addr)(xs:#[a])(y:V)(j:Nat)(_:x=.ref l)(_:vs=[y])(_:#[y,H,l,xs])(_:Tb y=true)(_:xs.all Tb=true)(_:(∃ z,xs[j]?=some z/\eqV z y=true))(_:(∀ m z,m<j->xs[m]?=some z->eqV z y=false))(_:Q (.int (j:Nat)) H)
theorem Gn:MtM X "list.index" zk5:=by
 intro pins s σ H x vs v us Q I rx rv h;obtain⟨l,xs,y,j,rfl,rfl,hH,fy,fs,⟨zj,hzj,hej⟩,hno,q⟩:=h;cases rx;obtain⟨u,rfl,ru⟩:=rv.one;obtain⟨z,its,n,r,hl,e⟩:=I.lstM hH;have hjx:j<xs.length:=(zwq.mp hzj).1;have hj:j<its.toArray.size:=by rw[zw5];omega
 have hline:=Nr;have ev:∀ (m:Nat) (hm:m<its.toArray.size) (w:V),xs[m]?=some w->eqU y (its.toArray[m]'hm)=eqV w y:=fun m hm w hw=>by
  obtain⟨uu,hu,ruu⟩:=r.get hw;have:its.toArray[m]'hm=uu:=by
   have h1:its[m]?=some (its.toArray[m]'hm):=by simp
   rw[h1] at hu;exact Option.some.inj hu
  rw[this];refine zcb ruu ?_;exact zyb.mp fs w (zww hw)
 refine call_meets PySem.F.slot_list_index #[L,_,e] PySem.F.entry_list_index (PySem.F.args_list_index_2 _ _) (SeqAt.list_indexAt l its.toArray n none #[] u (eqU y) j hj ⋯ (by rw[ev j hj zj hzj];exact hej) fun m hm hmj=>?_) ⟨e,fun w hw=>Rx ru fy r fs w (by simpa using hw),?_⟩
 ·have hmx:m<xs.length:=by rw[zw5] at hm;omega
  have hw:xs[m]?=some (xs[m]'hmx):=zwp hmx;rw[ev m hm _ hw];exact hno m _ hmj hw
 ·exact⟨.int (j:Nat),H,I.tok _,#[w,_],q⟩
end L2
namespace G
open PySem PySem.Spec PyProof.Rows L2
inductive Cq(K:Frag)(vs:#[a])(H:Hp)(Q:VK)(_:XK):Prop where
 | mk(l lg lt:Addr)(ls:#[x])(rows:#[A])(gs ts:#[a])(p e:Nat)(st:#[E])(w:#[D])(_:vs=[.ref l,.ref lg,.int p,.ref lt])(_:#[ap,l])(_:ILs H ls rows)(_:rows.length<=100)(_:#[y,H,lg,gs])(_:Ye rows gs)(_:p<rows.length)(_:#[y,H,lt,ts])(_:Z7 H ts (st.map Wz))(_:st.length<=100)(_:Ch rows gs p st e w)(_:(∀ n,w=some n->Oa rows gs e n))(_:Q (.bl true) H)
theorem zdq{H:Hp}{ts:#[a]}{st:#[E]}{i:Nat}{s:Nat×Option Int}(h:Z7 H ts (st.map Wz))(e:st[i]?=some s):∃ t,ts[i]?=#[c,t]/\H t=some (.tup (Wz s)):=by
 have e':(st.map Wz)[i]?=#[b,Wz,s]:=by rw[zws,e];rfl
 exact h.getR e'
theorem Qn(ho:oneV z):eqV z (.int n)=true↔z=.int n:=by
 rcases ho with rfl|⟨i,rfl⟩
 ·constructor
  ·intro h;cases h
  ·intro h;cases h
 ·show (i == n)=true↔_;constructor
  ·intro h;rw[beq_iff_eq.mp h]
  ·intro h;cases h;simp
theorem R4(ho:∀ x∈gs,oneV x):inV (.int n) gs=true↔∃ j:Nat,gs[j]?=some (V.int n):=by
 unfold inV;rw[zy1];constructor
 ·rintro⟨z,hz,e⟩;obtain⟨j,hj,rfl⟩:=zxq hz;exact⟨j,by rw[zwp hj,(Qn (ho _ hz)).mp e]⟩
 ·rintro⟨j,hj⟩;have:=zww hj;exact⟨_,this,(Qn (ho _ this)).mpr rfl⟩
theorem zi5(r:#[o]):PyData.canLayAll0 (Xq (r.map Dt.int))=true/\PyData.depthAll (Xq (r.map Dt.int))<=1:=by
 induction r with
 | nil=>exact⟨rfl,by decide⟩
 | cons x r ih =>
   obtain⟨h1,h2⟩:=ih;refine⟨by rw[zw2,Xq,PyData.canLayAll0,h1];rfl,?_⟩;rw[zw2,Xq,PyData.depthAll];have:PyData.depth (toPy (Dt.int x))<=1:=by simp[toPy,PyData.depth]
   omega
theorem Hi(r:#[o]):shD (.lst (r.map Dt.int)):=by
 obtain⟨a1,a2⟩:=zi5 r;unfold shD SeqAt.shaped;rw[toPy,PyData.canLay0,a1,Bool.true_and];refine zwu ?_;rw[PyData.depth];omega
theorem Tt:shD (.lst []):=Hi []
theorem Lc(f:α->Dt)(xs:List α):eqD (.lst (xs.map f)) (.lst [])=xs.isEmpty:=by
 cases xs with
 | nil=>simp[eqD,O8]
 | cons x xs=>simp[eqD,O8]
structure znu(rows:#[A])(gs:#[a])(i:Nat):Prop where
 len:gs.length=i
 one:∀ x∈gs,oneV x
 may:∀ (k:Nat) (n:Int),gs[k]?=#[e,n]->∃ r,rows[k]?=some r/\n∈r
 inj:∀ (j k:Nat) (n:Int),gs[j]?=#[e,n]->gs[k]?=#[e,n]->j=k
theorem Ye.drop(F:Ye rows gs)(p:Nat):Ye rows (gs.set p .non):=by
 have cs:∀ (k:Nat) (n:Int),(gs.set p .non)[k]?=#[e,n]->k≠p/\gs[k]?=#[e,n]:=fun k n h=>by
  by_cases e:k=p
  ·subst e;by_cases hk:k<gs.length
   ·rw[zx0 hk] at h;cases h
   ·rw[zym (by rw[zyj];omega)] at h;cases h
  ·rw[zxy (Ne.symm e)] at h;exact⟨e,h⟩
 refine⟨by rw[zyj];exact F.len,fun x hx=>?_,fun k n h=>F.may k n (cs k n h).2,fun j k n h1 h2=>F.inj j k n (cs j n h1).2 (cs k n h2).2⟩;rcases List.mem_or_eq_of_mem_set hx with z|z
 ·exact F.one x z
 ·exact .inl z
theorem Ye.without(F:Ye rows gs)(hx:gs[p]?=some x)(f:Int->Bool)(hf:∀ n,f n=false->x=.int n):Ye (rows.map fun r=>r.filter f) (gs.set p .non):=by
 have D:=F.drop p;refine⟨by rw[zwo];exact D.len,D.one,fun k n h=>?_,D.inj⟩;obtain⟨r,h1,h2⟩:=D.may k n h;refine⟨r.filter f,by rw[zws,h1];rfl,zxu.mpr ⟨h2,?_⟩⟩;cases e:f n with
 | true=>rfl
 | false =>
   have hx':=hf n e;subst hx';have hk:k≠p:=fun z=>by
    subst z;rw[zx0 (zwq.mp hx).1] at h;cases h
   rw[zxy (Ne.symm hk)] at h;exact absurd (F.inj k p n h hx) hk
theorem Bp(J:L2.St->Hp->Prop)(hc:Gr c σ H b)(h1:b=true->∀ H1,Same H H1->∀ N:L2.St->Hp->Prop,(∀ σ' H',J σ' H'->N σ' H')->t { D with nx:=N } σ H1)
  (h2:b=false->∀ H1,Same H H1->∀ N:L2.St->Hp->Prop,(∀ σ' H',J σ' H'->N σ' H')->e { D with nx:=N } σ H1) (h3:∀ σ' H',J σ' H'->u D σ' H'):Zw (L8 c t e) u D σ H:=by
 refine hc _ fun H1 s1=>?_;cases b with
 | true=>rw[#[P]];exact h1 rfl H1 s1 _ h3
 | false=>rw[if_neg ⋯];exact h2 rfl H1 s1 _ h3
theorem zaj(h1:Gr t σ H b)(h:∀ H1,Same H H1->if b=true then A D σ H1 else B D σ H1):L8 t A B D σ H:=h1 _ fun H1 s1=>h H1 s1
def Xf(line:#[B])(dep:Nat->Nat):#[U]:=line.map fun (q:Nat)=>(inl ((q:Nat):Int),V.int ((dep q+1:Nat):Int))
theorem Ld{line:#[B]}{dep:Nat->Nat}{q:Nat}(h:q∈line):valV (Xf line dep) (inl (q:Int):Key)=#[b,.int,((dep q+1:Nat):Int)]:=by
 unfold Xf
 induction line with
 | nil=>simp at h
 | cons x xs ih =>
   rw[zw2];by_cases e:x=q
   ·subst e;exact Xl rfl
   ·rw[Y7 fun z=>e (by have:=inl.inj z;omega)];exact ih ((zwy.mp h).resolve_left fun z=>e z.symm)
theorem Cr{line:#[B]}{dep:Nat->Nat}{q:Nat}(h:q∉line):valV (Xf line dep) (inl (q:Int):Key)=none:=by
 unfold Xf
 induction line with
 | nil=>rfl
 | cons x xs ih =>
   have hx:x≠q:=fun z=>h (by rw[z];exact zxk);rw[zw2,Y7 fun z=>hx (by have:=inl.inj z;omega)];exact ih fun z=>h (zxc _ z)
theorem ze8{line:#[B]}{dep:Nat->Nat}{q d:Nat}(h:q∉line):putK (Xf line dep) (inl (q:Int)) (.int ((d+1:Nat):Int))=Xf (line++[q]) (Wi dep q d):=by
 rw[Az _ (Cr h)];unfold Xf;rw[zwv]
 congr 1
 ·refine zx7 fun x hx=>?_;unfold Wi;rw[#[h,fun z=>h (by rw[<- z];exact hx)]]
 ·unfold Wi;simp
theorem ze9(line:#[B])(dep:Nat->Nat):(Xf line dep).length=line.length:=by unfold Xf;rw[zwo]
inductive zdr(K:Frag)(vs:#[a])(H:Hp)(Q:VK)(_:XK):Prop where
 | mk(l lg:Addr)(ls:#[x])(rows:#[A])(gs:#[a])(p:Nat)(_:vs=[.ref l,.ref lg,.int p])(_:#[ap,l])(_:ILs H ls rows)(_:rows.length<=100)(_:#[y,H,lg,gs])(_:Ye rows gs)(_:p<rows.length)(_:∀ ld line dep H',H' ld=#[b,.dK,Xf line dep]->#[ar]->Done rows gs line dep line.length->(∀ q∈line,q<rows.length)->#[j]->H ld=none->#[S,ld])
def Yf(xs:#[B]):#[a]:=xs.map fun k=>V.int (k:Nat)
theorem Bq{K:Frag}{H:Hp}:∀ (r:List Nat),T5 K H (Yf r) ((r.map fun (k:Nat)=>((k:Nat):Int)).map Dt.int)
 | []=>.nil
 | x :: r=>.cons (.int _) (Bq r)
end G
namespace L2
open PySem PySem.Spec PyProof.Rows
theorem Ob:∀ {ns:List Int} {its:List Value} {i:Nat} {v:Value},Vals (ns.map V.int) its->its[i]?=some v->∃ t,v=.int (ns.getD i 0) t
 | [],_,_,_,.nil,e=>by simp at e
 | n :: ns,_,0,v,.cons r t,e=>by
   obtain⟨tk,rfl⟩:=r;exact⟨tk,(Option.some.inj e).symm⟩
 | n :: ns,_,i+1,v,.cons r t,e=>Ob (i:=i) t e
theorem zfa{X:Cx}{K:Frag}(hK:X.K=K)(hc:X.calm=true):V5 X (.builtin "max") (fun xs H Q=>∃ (l:Addr) (ns:List Int),xs=[.ref l]/\SqL K H l (ns.map V.int)/\0<ns.length/\∀ M,M∈ns->(∀ a∈ns,a<=M)->Q (.int M) H):=by
 subst hK;intro pins s σ H xs us Q I r h;obtain⟨l,ns,rfl,hl,hpos,q⟩:=h;obtain⟨u,rfl,ru⟩:=T3 r;cases ru;obtain⟨its,r',pl,hz⟩:=I.list hl;have hlen:its.length=ns.length:=by have:=r'.length;rw[zwo] at this;exact this.symm
 have hil:=pl.isList;have hlt:l<s.heap.objs.size:=by obtain⟨_,e,_⟩:=hil;exact Heap.lt_size e
 refine call_max_walk (wpAny_pyIter_list hil ?_);refine⟨s.heap.objs.size,[s.heap.objs.size,l],[s.heap.objs.size],its.toArray.size,_,_,_,rfl,Walks.list (A:=X.A.in1) (I.ok.hd hc) _ l (zxh hlt) its.toArray,
  ⟨⟨_,Heap.get?_push_size _ rfl,rfl,rfl⟩,hil.push _⟩,fun b hb=>?_,by rw[zw5];omega,CmpOf.ints_gt (fun i=>ns.getD i 0) (fun i v hv=>Ob r' (by simpa using hv)),fun v h' tk hP hk=>?_⟩
 ·show b<(s.heap.push _).objs.size;rw[Heap.size_push];rcases zwy.mp hb with rfl|hb
  ·exact zyz _
  ·rcases zwy.mp hb with rfl|hb
   ·exact zyi hlt
   ·cases hb
 ·obtain⟨h1,h2⟩:=argBest_gt (fun i=>ns.getD i 0) (its.toArray.size-1);obtain⟨t,rfl⟩:=Ob r' (show its[argBest (fun i j=>decide ((fun i=>ns.getD i 0) i>(fun i=>ns.getD i 0) j)) (its.toArray.size-1)]?=some v by simpa using hP);have hsz:its.toArray.size=ns.length:=by rw[zw5,hlen]
  rw[hsz] at h1 h2 ⊢;generalize argBest (fun i j=>decide ((fun i=>ns.getD i 0) i>(fun i=>ns.getD i 0) j)) (ns.length-1)=b at h1 h2 ⊢;have hb:b<ns.length:=by omega
  have eg:∀ (k:Nat) (hk:k<ns.length),ns.getD k 0=ns[k]'hk:=fun k hk=>by rw[zxb,zwp hk];rfl
  refine⟨.int (ns.getD b 0),H,I.kept fun c o e=>?_,#[w,_],q _ (by rw[eg b hb];exact zxd hb) fun x hx=>?_⟩
  ·refine hk c o (fun hm=>?_) #[ac,_,e];rw[zwt.mp hm] at e;exact zyg _ (Heap.lt_size e)
  ·obtain⟨k,hk',rfl⟩:=zxq hx;have:=h2 k ⋯;show ns[k]<=_;rw[<- eg k hk'];exact this
end L2
namespace G
open PySem PySem.Spec PyProof.Rows L2
inductive Br(K:Frag)(vs:#[a])(H:Hp)(Q:VK)(_:XK):Prop where
 | mk(l lg:Addr)(ls:#[x])(rows:#[A])(nu:#[o])(gs:#[a])(p:Nat)(_:vs=[.ref l,.ref lg,.int p])(_:#[ap,l])(_:ILs H ls rows)(_:Uv rows nu)(_:#[y,H,lg,gs])(_:Ye rows gs)(_:p<rows.length)(_:gs[p]?=some .non)(_:∀ lt ts st e w H',H' lt=#[r,ts]->Z7 H' ts (st.map Wz)->Y4 rows gs p st e w->#[j]->H lt=none->#[S,lt])
theorem Y4.len{rows:#[A]}{gs:#[a]}{p e:Nat}{st:#[E]}{w:#[D]}(FP:Ye rows gs)(hp:p<rows.length)(c:Y4 rows gs p st e w):st.length<=rows.length:=by
 have hlt:=c.ch.lt FP hp;have:=c.nodup.length_le_of_subset (l₂:=List.range rows.length) fun x hx=>by
  obtain⟨s,hs,rfl⟩:=zwx.mp hx;exact zxr.mpr (hlt s hs)
 rw[zwo,zxo] at this;exact this
theorem Ch.lastStep{rows:#[A]}{gs:#[a]}{q e:Nat}{st:#[E]}{w:#[D]}(h:#[aj]):st.getLast?=some (e,w):=by
 induction h with
 | one q w=>rfl
 | @step q q' e n st w a h ih =>
   obtain⟨x,r,e'⟩:=h.hd;rw[e'] at ih ⊢;rw[List.getLast?_cons_cons];exact ih
end G
namespace L2
open PySem PySem.Spec PyProof.Rows
section
variable{X:Cx}{pins:#[C]}{σ:List (Option V)}{H H':Hp}{s:Shared}{h':Heap}
theorem Inv.turnedL{t':Nat}{fp:#[x]}(I:#[l])(hf:∀ b∈fp,FpOk X pins H b)(k:∀ b o,b∉fp->#[ab]=#[d]->h'.get? b=#[d]):#[H,H,{ s with heap:=h',toks:=t' }]:=by
 have nit:∀ b u,H b=some u->b∉fp:=fun b u e z=>by rw[(hf b z).1] at e;cases e
 refine I.step (g':=s.gens) (d':=s.drawn) (ch:=fp) (fun b hb=>?_) (fun b o _ _ hc e _=>k b o hc e) (fun b o _ _ hc e _=>⟨o.slots,k b o hc e⟩) (fun _ _ _ _ n=>n)
  (fun b o hc e=>⟨o,k b o hc e⟩) (fun _ _ e=>e) (fun _ _ _ e=>e) (fun b ps e=>⟨#[],by rw[e];simp⟩) (fun m hm=>?_) (fun b u e=>?_) I.bare
 ·obtain⟨f0,f1,f2,f3,f4,f5⟩:=hf b hb;exact⟨f3,f1,f4,f5⟩
 ·obtain⟨o,es,ep,ho,r⟩:=hm;exact⟨o,es,ep,k _ o (fun z=>(hf _ z).2.1 rfl) ho,r⟩
 ·refine(I.hok b u e).stay (fun c v hc q=>k c v ?_ q) (fun _ q=>q) fun _ _ q=>q;rcases hc with z|z
  ·rw[z];exact nit b u e
  ·exact nit c _ z
theorem Inv.turnLay{t':Nat}{fp:#[x]}{a:Addr}{o:HO}(I:#[l])(hf:∀ b∈fp,FpOk X pins H b)(k:∀ b o,b∉fp->#[ab]=#[d]->h'.get? b=#[d])(hp:s.heap.objs.size<=a)(new:Xi X.prog X.w (upd H a o) h' a o):#[H,upd H a o,{ s with heap:=h',toks:=t' }]:=by
 have nit:∀ b u,H b=some u->b∉fp:=fun b u e z=>by rw[(hf b z).1] at e;cases e
 have hn:H a=none:=I.hok.fresh hp;have ne:∀ b u,#[ab]=some u->b≠a:=fun b u e=>zxh (zxf (Heap.lt_size e) hp);refine I.step (g':=s.gens) (d':=s.drawn) (ch:=fp) (fun b hb=>?_) (fun b o _ _ hc e _=>k b o hc e) (fun b o _ _ hc e _=>⟨o.slots,k b o hc e⟩) (fun b u _ e n=>by rw[Zh (ne b u e)];exact n)
  (fun b o hc e=>⟨o,k b o hc e⟩) (fun b _ e=>by rw[Zh (Zg e hn)];exact e) (fun b _ _ e=>by rw[Zh (Zg e hn)];exact e) (fun b ps e=>⟨#[],by rw[Zh (Zg e hn),e];simp⟩) (fun m hm=>?_) (fun b u e=>?_) I.bare
 ·obtain⟨f0,f1,f2,f3,f4,f5⟩:=hf b hb;exact⟨f3,f1,f4,f5⟩
 ·obtain⟨o,es,ep,ho,r⟩:=hm;exact⟨o,es,ep,k _ o (fun z=>(hf _ z).2.1 rfl) ho,r⟩
 ·by_cases hb:b=a
  ·subst hb;rw[Ze] at e;cases e;exact new
  ·rw[Zh hb] at e;refine(I.hok b u e).stay (fun c v hc q=>k c v ?_ q) (fun c q=>by rw[Zh (Zg q hn)];exact q) fun c _ q=>by rw[Zh (Zg q hn)];exact q
   rcases hc with z|z
   ·rw[z];exact nit b u e
   ·exact nit c _ z
end
def Ite(K:Frag)(a:Addr):It :=
 ⟨fun i H=>∃ xs x,SqL K H a xs/\xs[i]?=some x,fun i H x H'=>∃ p y,H p=none/\(∀ xs,SqL K H a xs->xs[i]?=some y)/\x=.ref p/\H'=upd H p (.tup [.int (i:Nat),y]),fun i H=>∃ xs,SqL K H a xs/\xs.length<=i⟩
theorem zfb{P:Program}{w:World}{K:Frag}{elts:List Expr}{k:Nat}{tp:Pos}(a e it:Addr)(hne:e≠it):Au P w K (.Tuple elts k tp) (Ite K a) [e,it] e (fun i h=>(∃ old,IsEnum h e it (i:Nat) old)/\h.IsListIter it a i) where
 mem:=by simp
 obj:=fun i h st b hb=>by
  obtain⟨⟨old,h1⟩,h2⟩:=st;have e:b=e\/b=it:=by simpa using hb
  rcases e with rfl|rfl
  ·exact⟨_,h1,fun v z=>by cases z⟩
  ·obtain⟨o,e,c,d⟩:=h2;exact⟨o,e,fun v z=>by rw[d] at z;cases z⟩
 keep:=fun i h h' st k=>⟨let ⟨old,h1⟩:=st.1;⟨old,k e (by simp) _ h1⟩,st.2.at fun o q=>k it (by simp) o q⟩
 item:=by
  intro X hP hw hK hc i pins s σ H E I hf st hg;subst hP hw hK;obtain⟨xs,x,hq,hx⟩:=hg;obtain⟨its,rv,p,hz⟩:=I.list hq;obtain⟨u,hu,ru⟩:=rv.get hx;obtain⟨⟨old,h1⟩,h2⟩:=st;refine wpAny_pyNext_enum_item h1 h2 p.isList (x:=u) (by simpa using hu) hne fun h' o1 o2 o3 o4 o5=>?_;refine#[q,_,wpAny_letOwnedTupleGo_enum o1 fun h'' e1 sb=>?_];have hes:e≠s.heap.objs.size:=fun z=>by
   exact zyg _ (z▸Heap.lt_size h1)
  have kk:∀ b o,b∉[e,it]->#[ab]=#[d]->h''.get? b=#[d]:=fun b o hb q=>by
   have hb':b≠e/\b≠it:=by simpa using hb
   exact(sb.2 b hb'.1).trans (o5 b o hb'.1 hb'.2 q)
  have new:h''.get? s.heap.objs.size=some { cls:=Value.type "tuple",data:=Data.seq #[Value.int (i:Nat) s.toks,u] }:=(sb.2 _ (Ne.symm hes)).trans o3;have line:=Nr;refine⟨.ref s.heap.objs.size,_,I.turnLay (t':=s.toks+1) (o:=.tup [.int (i:Nat),x]) hf kk (zw1 _) ⟨?_,_,.cons #[w,s.toks] (.cons ru .nil),⟨_,new,rfl,_,rfl⟩⟩,rfl,⟨_,x,I.hok.fresh (zw1 _),fun ys hy=>by rw[I.list_inj hy hq];exact hx,rfl,rfl⟩,⟨⟨u,e1⟩,o2.at fun o q=>(sb.2 it (Ne.symm hne)).trans q⟩,fun b hb=>?_⟩
  ·show 2<=sizeLine;rw[sizeLine_eq];decide
  ·have hb':b=e\/b=it:=by simpa using hb
   have hlt:b<s.heap.objs.size:=by
    rcases hb' with rfl|rfl
    ·exact Heap.lt_size h1
    ·obtain⟨o,q,_⟩:=h2;exact Heap.lt_size q
   rw[Zh (zxh hlt)];exact(hf b hb).1
 done:=by
  intro X hP hw hK hc i pins s σ H E I hf st hg;subst hP hw hK;obtain⟨xs,hq,hx⟩:=hg;obtain⟨its,rv,p,hz⟩:=I.list hq;obtain⟨⟨old,h1⟩,h2⟩:=st;have hl:=rv.length;exact wpAny_pyNext_enum_end (I.ok.hd hc) h1 h2 p.isList (by simp;omega) fun h' eb=>⟨rfl,I.turnedL (t':=s.toks) hf fun b o hb q=>eb b o (fun z=>hb (by simp[z])) q⟩
 self:=fun _ _ _ _ _ st h=>by
  obtain⟨⟨old,h1⟩,h2⟩:=st;exact wpAny_pyIter_enum h1 h
inductive zk6(K:Frag)(R:It->Hp->Prop)(vs:#[a])(H1:Hp):Prop where
 | mk(a)(_:vs=[.ref a])(_:(∃ xs,SqL K H1 a xs))(_:R (Ite K a) H1)
def zmp(K:Frag)(ta:TA):TI:=fun σ H R=>ta σ H fun vs H1=>zk6 K R vs H1
theorem zds{X:Cx}{K:Frag}{elts:List Expr}{k:Nat}{tp:Pos}{a:Expr}{ta:TA}{p pos:Pos}(hK:X.K=K)(hg:Gl X "enumerate")(hm:X.mg "enumerate"=none)(ha:PA X [a] ta)(hs:starEach [a] X.env=[(false,#[G,a])]:=by rfl):PI X (.Tuple elts k tp) (.Call (.Name "enumerate" p) [a] [] pos) (zmp K ta):=by
 subst hK;intro pins s σ H R I h;refine Call_ (Px I hg hm boot_enumerate (PyProof.Rows.callWith_type1 (thn (ha pos pins s σ H _ I h) fun us s1 ⟨vs,H1,I1,r1,q1⟩=>?_) hs rfl));obtain⟨a,e,⟨xs,hq⟩,q⟩:=q1;subst e;obtain⟨u,rfl,ru⟩:=T3 r1;cases ru;obtain⟨its,rv,pl,hz⟩:=I1.list hq;refine call_enumerate_list pl.isList fun h' e1 e2 e3 e4=>?_;refine wpAny_pyIter_enum e1 ?_;refine⟨_,[s1.heap.objs.size+1,s1.heap.objs.size],_,_,H1,rfl,I1.kept (t':=s1.toks) e4,zfb a _ _ (Nat.succ_ne_self _),⟨⟨_,e1⟩,e2⟩,fun b hb=>?_,q⟩;have e:b=s1.heap.objs.size+1\/b=s1.heap.objs.size:=by simpa using hb
 rcases e with rfl|rfl
 ·exact I1.fpOk (Nat.le_succ _) (I1.hok.fresh (Nat.le_succ _))
 ·exact I1.fpOk (zw1 _) (I1.hok.fresh (zw1 _))
theorem zg7{K:Frag}{a:Addr}{xs:#[a]}{g:TG}{tb:TS}{D:Pp}{σ:St}{H:Hp}(Pv:Nat->St->Hp->Prop)(h0:Pv 0 σ H)(hl:∀ i σ H,i<=xs.length->Pv i σ H->SqL K H a xs)
  (hs:∀ i x p σ H,xs[i]?=some x->Pv i σ H->H p=none->g (.ref p) σ (upd H p (.tup [.int (i:Nat),x])) fun σ2 H2=>tb { D with nx:=Pv (i+1),ct:=Pv (i+1),bk:=D.nx } σ2 H2) (hd:∀ σ H,Pv xs.length σ H->D.nx σ H) :
  ∃ W:Nat->Nat->St->Hp->Prop,(∃ m,W 0 m σ H)/\∀ i m σ H,W i m σ H ->
    ((Ite K a).stop i H/\D.nx σ H)\/((Ite K a).go i H/\∃ N:St->Hp->Prop,(∀ σ' H',N σ' H'->∃ m',m' < m/\W (i+1) m' σ' H')/\∀ x H',(Ite K a).yld i H x H'->g x σ H' fun σ2 H2=>tb { D with nx:=N,ct:=N,bk:=D.nx } σ2 H2):=by
 refine⟨fun i m σ H=>m=xs.length-i/\i<=xs.length/\Pv i σ H,⟨xs.length,by simp,zxj _,h0⟩,?_⟩;rintro i m σ H ⟨rfl,hi,p⟩;have q:=hl i σ H hi p;by_cases hlt:i<xs.length
 ·refine .inr ⟨⟨xs,xs[i],q,by simp[hlt]⟩,Pv (i+1),fun σ' H' p'=>⟨xs.length-(i+1),by omega,rfl,hlt,p'⟩,fun x H' y=>?_⟩;obtain⟨t,y,h1,h2,rfl,rfl⟩:=y;exact hs i y t σ _ (h2 xs q) p h1
 ·have e:i=xs.length:=by omega
  subst e;exact #[M,⟨xs,q,zw1 _⟩,hd σ H p]
def Itz(K:Frag)(a b:Addr):It :=
 ⟨fun i H=>∃ xs ys x y,SqL K H a xs/\SqL K H b ys/\xs[i]?=some x/\ys[i]?=some y,fun i H x H'=>∃ p y z,H p=none/\(∀ xs,SqL K H a xs->xs[i]?=some y)/\(∀ ys,SqL K H b ys->ys[i]?=some z)/\x=.ref p/\H'=upd H p (.tup [y,z]),
  fun i H=>∃ xs ys,SqL K H a xs/\SqL K H b ys/\(xs.length<=i\/ys.length<=i)⟩
theorem zg8{P:Program}{w:World}{K:Frag}{elts:List Expr}{k:Nat}{tp:Pos}(l1 l2 z TI TO i1 i2:Addr)(hz:ZipApart z TI TO i1 i2 l1 l2):Au P w K (.Tuple elts k tp) (Itz K l1 l2) [z,TO,i1,i2,TI] z
  (fun i h=>IsZip h z TI TO Value.none/\IsPair h TI (Value.ref i1) (Value.ref i2)/\(∃ a b,IsPair h TO a b)/\h.IsListIter i1 l1 i/\h.IsListIter i2 l2 i) where
 mem:=by simp
 obj:=fun i h st b hb=>by
  obtain⟨h1,h2,⟨a,b',h3⟩,h4,h5⟩:=st;have e:b=z\/b=TO\/b=i1\/b=i2\/b=TI:=by simpa using hb
  rcases e with rfl|rfl|rfl|rfl|rfl
  ·exact⟨_,h1,fun v z=>by cases z⟩
  ·exact⟨_,h3,fun v z=>by cases z⟩
  ·obtain⟨o,e,c,d⟩:=h4;exact⟨o,e,fun v z=>by rw[d] at z;cases z⟩
  ·obtain⟨o,e,c,d⟩:=h5;exact⟨o,e,fun v z=>by rw[d] at z;cases z⟩
  ·exact⟨_,h2,fun v z=>by cases z⟩
 keep:=fun i h h' st k=>by
  obtain⟨h1,h2,⟨a,b',h3⟩,h4,h5⟩:=st;exact⟨k z (by simp) _ h1,k TI (by simp) _ h2,⟨a,b',k TO (by simp) _ h3⟩,h4.at fun o q=>k i1 (by simp) o q,h5.at fun o q=>k i2 (by simp) o q⟩
 item:=by
  intro X hP hw hK hc i pins s σ H E I hf st hg;subst hP hw hK;obtain⟨xs,ys,x,y,hq,hq2,hx,hy⟩:=hg;obtain⟨its,rv,p,_⟩:=I.list hq;obtain⟨its2,rv2,p2,_⟩:=I.list hq2;obtain⟨u,hu,ru⟩:=rv.get hx;obtain⟨u2,hu2,ru2⟩:=rv2.get hy;obtain⟨h1,h2,⟨a,b',h3⟩,h4,h5⟩:=id st;refine wpAny_pyNext_zip_item hz h1 h2 h3 h4 h5 p.isList p2.isList (x:=u) (y:=u2) (by simpa using hu) (by simpa using hu2) fun h' o1 o2 o3 o4 o5 o6 o7=>?_;refine#[q,_,wpAny_letOwnedTupleGo_zip o1 fun h'' e1 sb=>?_];have lt:∀ b o,#[ab]=#[d]->b≠s.heap.objs.size:=fun b o q=>zxh (Heap.lt_size q);have kk:∀ b o,b∉[z,TO,i1,i2,TI]->#[ab]=#[d]->h''.get? b=#[d]:=fun b o hb q=>by
   have hb':b≠z/\b≠TO/\b≠i1/\b≠i2/\b≠TI:=by simpa using hb
   exact(sb.2 b hb'.1).trans (o7 b o hb'.1 hb'.2.1 hb'.2.2.1 hb'.2.2.2.1 q)
  have new:h''.get? s.heap.objs.size=some { cls:=Value.type "tuple",data:=Data.seq #[u,u2] }:=(sb.2 _ (Ne.symm (lt _ _ h1))).trans o5;refine⟨.ref s.heap.objs.size,_,I.turnLay (t':=s.toks) (o:=.tup [x,y]) hf kk (zw1 _) ⟨?_,_,.cons ru (.cons ru2 .nil),⟨_,new,rfl,_,rfl⟩⟩,rfl,⟨_,x,y,I.hok.fresh (zw1 _),fun zs hy'=>by rw[I.list_inj hy' hq];exact hx,fun zs hy'=>by rw[I.list_inj hy' hq2];exact hy,rfl,rfl⟩,
   ⟨e1,(sb.2 _ hz.TIz).trans (o7 _ _ hz.TIz hz.TITO hz.TIi1 hz.TIi2 h2),⟨_,_,(sb.2 _ hz.TOz).trans o2⟩,o3.at fun o q=>(sb.2 _ hz.i1z).trans q,o4.at fun o q=>(sb.2 _ hz.i2z).trans q⟩,fun b hb=>?_⟩
  ·show 2<=sizeLine;rw[sizeLine_eq];decide
  ·have hne:b≠s.heap.objs.size:=by
    have e:b=z\/b=TO\/b=i1\/b=i2\/b=TI:=by simpa using hb
    rcases e with rfl|rfl|rfl|rfl|rfl
    ·exact lt _ _ h1
    ·exact lt _ _ h3
    ·obtain⟨o,q,_⟩:=h4;exact lt _ _ q
    ·obtain⟨o,q,_⟩:=h5;exact lt _ _ q
    ·exact lt _ _ h2
   rw[Zh hne];exact(hf b hb).1
 done:=by
  intro X hP hw hK hc i pins s σ H E I hf st hg;subst hP hw hK;obtain⟨xs,ys,hq,hq2,hx⟩:=hg;obtain⟨its,rv,p,_⟩:=I.list hq;obtain⟨its2,rv2,p2,_⟩:=I.list hq2;obtain⟨h1,h2,⟨a,b',h3⟩,h4,h5⟩:=st;have hl:=rv.length;have hl2:=rv2.length;exact wpAny_pyNext_zip_end (I.ok.hd hc) hz h1 h2 h3 h4 h5 p.isList p2.isList (hx.imp (fun z=>by simp;omega) fun z=>by simp;omega) fun h' eb=>⟨rfl,I.turnedL (t':=s.toks) hf fun b o hb q=>by
   have hb':b≠z/\b≠TO/\b≠i1/\b≠i2/\b≠TI:=by simpa using hb
   exact eb b o hb'.1 hb'.2.1 hb'.2.2.1 hb'.2.2.2.1 q⟩
 self:=fun _ _ _ _ _ st h=>wpAny_pyIter_zip st.1 h
inductive zmq(K:Frag)(R:It->Hp->Prop)(vs:#[a])(H1:Hp):Prop where
 | mk(a)(b)(_:vs=[.ref a,.ref b])(_:(∃ xs,SqL K H1 a xs))(_:(∃ ys,SqL K H1 b ys))(_:R (Itz K a b) H1)
def zne(K:Frag)(ta:TA):TI:=fun σ H R=>ta σ H fun vs H1=>zmq K R vs H1
theorem zk7{X:Cx}{K:Frag}{elts:List Expr}{k:Nat}{tp:Pos}{a b:Expr}{ta:TA}{p pos:Pos}(hK:X.K=K)(hg:Gl X "zip")(hm:X.mg "zip"=none)(ha:PA X [a,b] ta)(hs:starEach [a,b] X.env=[(false,eval a X.env),(false,eval b X.env)]:=by rfl)(hs2:starEach [b] X.env=[(false,#[G,b])]:=by rfl):PI X (.Tuple elts k tp) (.Call (.Name "zip" p) [a,b] [] pos) (zne K ta):=by
 subst hK;intro pins s σ H R I h;refine Call_ (Px I hg hm boot_zip (PyProof.Rows.callWith_type1 (thn (ha pos pins s σ H _ I h) fun us s1 ⟨vs,H1,I1,r1,q1⟩=>?_) (by rw[hs,hs2]) (by rw[hs2];rfl)));obtain⟨a,b,e,⟨xs,hq⟩,⟨ys,hq2⟩,q⟩:=q1;subst e;cases r1 with
 | cons r rr =>
   obtain⟨u,rfl,ru⟩:=T3 rr;cases r;cases ru;obtain⟨its,rv,pl,hz⟩:=I1.list hq;obtain⟨its2,rv2,pl2,hz2⟩:=I1.list hq2;have lt1:@LT.lt Nat _ a s1.heap.objs.size:=by obtain⟨_,e,_⟩:=pl.isList;exact Heap.lt_size e
   have lt2:@LT.lt Nat _ b s1.heap.objs.size:=by obtain⟨_,e,_⟩:=pl2.isList;exact Heap.lt_size e
   refine call_zip_2 pl.isList pl2.isList fun h' e1 e2 e3 e4 e5 e6 e7=>?_;refine wpAny_pyIter_zip e1 ?_;refine⟨_,[s1.heap.objs.size+4,s1.heap.objs.size+3,s1.heap.objs.size,s1.heap.objs.size+1,s1.heap.objs.size+2],_,_,H1,rfl,I1.kept (t':=s1.toks) e7,zg8 a b _ _ _ _ _ ?_,⟨e1,e2,⟨_,_,e3⟩,e4,e5⟩,fun c hb=>?_,q⟩
   ·refine⟨?_,?_,?_,?_,?_,?_,?_,?_,?_,?_,?_,?_,?_,?_,?_,?_,?_,?_⟩<;>(show @Ne Nat _ _;omega)
   have e:c=s1.heap.objs.size+4\/c=s1.heap.objs.size+3\/c=s1.heap.objs.size\/c=s1.heap.objs.size+1\/c=s1.heap.objs.size+2:=by simpa using hb
   have hle:s1.heap.objs.size<=c:=by rcases e with rfl|rfl|rfl|rfl|rfl<;>omega
   exact I1.fpOk hle (I1.hok.fresh hle)
section
variable{X:Cx}{pins:#[C]}{σ:List (Option V)}{H H':Hp}{s:Shared}{h':Heap}
theorem Inv.freeze(I:#[l])(e:H a=#[b,.dK,kvs])(ho:s.heap.get? a=some o):#[H,upd H a (.frz o (.dK kvs)),s]:=by
 have na:∀ b u,H b=some u->u≠.dK kvs->b≠a:=fun b u q n z=>by subst z;rw[q] at e;exact n (Option.some.inj e)
 refine I.un (h':=s.heap) (t':=s.toks) ⟨fun b o q _ _ _=>q,fun b o q _ _ _=>⟨o.slots,q⟩,fun b o q n _=>?_,fun b o q _=>⟨o,q⟩,fun b ys q=>?_,fun b o v q=>?_,fun b ps q=>⟨#[],?_⟩⟩ fun b u q=>?_
 ·rw[Zh (fun z=>by subst z;rw[n] at e;cases e)];exact n
 ·rw[Zh (na b _ q fun z=>nomatch z)];exact q
 ·rw[Zh (na b _ q fun z=>nomatch z)];exact q
 ·rw[Zh (na b _ q fun z=>nomatch z),q];simp
 ·have stay:∀ {b u},Xi X.prog X.w H s.heap b u->Xi X.prog X.w (upd H a (.frz o (.dK kvs))) s.heap b u:=fun {b u} k=>k.stay (fun _ _ _ q=>q) (fun c q=>by rw[Zh (na c _ q fun z=>nomatch z)];exact q) fun c _ q=>by rw[Zh (na c _ q fun z=>nomatch z)];exact q
  by_cases hb:b=a
  ·subst hb;rw[Ze] at q;cases q;exact⟨ho,stay (I.hok b _ e)⟩
  ·rw[Zh hb] at q;exact stay (I.hok b u q)
end
def Itk(a:Addr)(o:Obj)(kvs:#[U]):It :=
 ⟨fun i H=>H a=some (.frz o (.dK kvs))/\i<kvs.length,fun i H x H'=>H'=H/\∃ p,kvs[i]?=some p/\x=kV p.1,fun i H=>H a=some (.frz o (.dK kvs))/\kvs.length<=i⟩
theorem zg9(I:#[l])(e:H a=some (.frz o (.dK kvs))):∃ vs,KV kvs vs/\∃ es ep,o.data=.dict es ep/\s.heap.DictAt (Ys X.prog X.w) a vs ep:=by
 obtain⟨h1,hz,hm,vs,kv,o',es,ep,h2,h3,h4,h5⟩:=(show Xi X.prog X.w H s.heap a (.frz o (.dK kvs)) from I.hok a _ e);rw[h1] at h2;cases h2;exact⟨vs,kv,es,ep,h4,o,es,h1,h3,h4,h5⟩
theorem zfc{P:Program}{w:World}{K:Frag}{tg:Expr}(a it:Addr)(o:Obj)(kvs:#[U])(es:Array DictEntry)(ep:Nat)(ho:o.data=.dict es ep):Au P w K tg (Itk a o kvs) [it] it (fun i h=>h.IsKeyIter it a i kvs.length ep) where
 mem:=by simp
 obj:=fun i h st b hb=>by
  have e:b=it:=by simpa using hb
  subst e;obtain⟨o,e,c,d⟩:=st;exact⟨o,e,fun v z=>by rw[d] at z;cases z⟩
 keep:=fun i h h' st k=>by
  obtain⟨o,e,c,d⟩:=st;exact⟨o,k it (by simp) o e,c,d⟩
 item:=by
  intro X hP hw hK hc i pins s σ H E I hf st hg;subst hP hw hK;obtain⟨hq,hi⟩:=hg;obtain⟨vs,kv,es',ep',h1,h2⟩:=zg9 I hq;rw[ho] at h1;cases h1;obtain⟨f0,f1,f2,f3,f4,f5⟩:=hf it (by simp);have hl:kvs.length=vs.length:=KV.length kv;have hv:i<vs.length:=by omega
  obtain⟨⟨k,v⟩,hkv⟩:∃ kv,vs[i]'hv=kv:=#[w,_];rw[hl] at st;refine wpAny_pyNext_dict_item st h2 (k:=k) (v:=v) (by rw[zwp hv,hkv]) fun key h' hk st' sb=>?_;have I1:#[H,H,{ s with heap:=h' }]:=I.turned (t':=s.toks) (fun b o hb e=>(sb.2 b hb).trans e) f0 f1 f3 f4 f5;obtain⟨o2,e2,c2,d2⟩:=id st';have ek:=congrArg (·[i]?) (KV.keys kv);simp only[zws,zwp hv,zwp hi,hkv,zxv] at ek;refine#[q,key,zf9 (s:={ s with heap:=h' }) e2 c2 d2 ⋯ ⟨kV (kvs[i]'hi).1,H,I1,?_,⟨rfl,_,zwp hi,rfl⟩,by rw[hl];exact st',fun b hb=>(hf b hb).1⟩];have e3:(kvs[i]'hi).1=k:=Option.some.inj ek;rw[e3];rcases Y3 hk with ⟨j,t,rfl,rfl⟩|⟨z,t,rfl,rfl⟩
  ·exact#[w,t]
  ·exact#[w,t]
 done:=by
  intro X hP hw hK hc i pins s σ H E I hf st hg;subst hP hw hK;obtain⟨hq,hi⟩:=hg;obtain⟨vs,kv,es',ep',h1,h2⟩:=zg9 I hq;rw[ho] at h1;cases h1;obtain⟨f0,f1,f2,f3,f4,f5⟩:=hf it (by simp);have hl:kvs.length=vs.length:=KV.length kv;rw[hl] at st;exact wpAny_pyNext_dict_end (I.ok.hd hc) st h2 (zym ⋯) fun h' eb=>⟨rfl,I.turned (t':=s.toks) (fun b o hb e=>eb b o hb e) f0 f1 f3 f4 f5⟩
 self:=fun _ _ _ _ _ st h=>wpAny_pyIter_keyiter st h
inductive zk8(R:It->Hp->Prop)(x:V)(H1:Hp):Prop where
 | mk(a)(kvs)(_:x=.ref a)(_:H1 a=#[b,.dK,kvs])(_:∀ o,R (Itk a o kvs) (upd H1 a (.frz o (.dK kvs))))
def zmr(tl:TE):TI:=fun σ H R=>tl σ H fun x H1=>zk8 R x H1
theorem zdt{X:Cx}{tg:Expr}{l:Expr}{tl:TE}(hl:PE X l tl):PI X tg l (zmr tl):=by
 intro pins s σ H R I h;refine thn (hl pins s σ H _ I h) fun v s1 ⟨x,H1,I1,r1,q1⟩=>?_;obtain⟨a,kvs,e,hq,q⟩:=q1;subst e;cases r1;obtain⟨hz,hm,vs,kv,o,es,ep,h2,h3,h4,h5⟩:=(show Xi X.prog X.w H1 s1.heap a (.dK kvs) from I1.hok a _ hq);have hl:kvs.length=vs.length:=KV.length kv;have I2:=I1.freeze hq h2;refine wpAny_pyIter_dict hm ⟨o,es,h2,h3,h4,h5⟩ ?_;refine⟨s1.heap.objs.size,[s1.heap.objs.size],_,_,_,rfl,I2.kept (t':=s1.toks) fun b o e=>#[ac,_,e],zfc a _ o kvs es ep h4,⟨_,Heap.get?_push_size _ rfl,rfl,by rw[hl];rfl⟩,fun b hb=>?_,q o⟩;have e:b=s1.heap.objs.size:=by simpa using hb
 subst e;exact I2.fpOk (zw1 _) (I2.hok.fresh (zw1 _))
theorem zak{a:Addr}{o:Obj}{kvs:#[U]}{g:TG}{tb:TS}{D:Pp}{σ:St}{H:Hp}(Pv:Nat->St->Hp->Prop)(h0:Pv 0 σ H)(hl:∀ i σ H,i<=kvs.length->Pv i σ H->H a=some (.frz o (.dK kvs)))
  (hs:∀ i k v σ H,kvs[i]?=some (k,v)->Pv i σ H->g (kV k) σ H fun σ2 H2=>tb { D with nx:=Pv (i+1),ct:=Pv (i+1),bk:=D.nx } σ2 H2) (hd:∀ σ H,Pv kvs.length σ H->D.nx σ H) :
  ∃ W:Nat->Nat->St->Hp->Prop,(∃ m,W 0 m σ H)/\∀ i m σ H,W i m σ H ->
    ((Itk a o kvs).stop i H/\D.nx σ H)\/((Itk a o kvs).go i H/\∃ N:St->Hp->Prop,(∀ σ' H',N σ' H'->∃ m',m' < m/\W (i+1) m' σ' H')/\∀ x H',(Itk a o kvs).yld i H x H'->g x σ H' fun σ2 H2=>tb { D with nx:=N,ct:=N,bk:=D.nx } σ2 H2):=by
 refine⟨fun i m σ H=>m=kvs.length-i/\i<=kvs.length/\Pv i σ H,⟨kvs.length,by simp,zxj _,h0⟩,?_⟩;rintro i m σ H ⟨rfl,hi,p⟩;have q:=hl i σ H hi p;by_cases hlt:i<kvs.length
 ·refine .inr ⟨⟨q,hlt⟩,Pv (i+1),fun σ' H' p'=>⟨kvs.length-(i+1),by omega,rfl,hlt,p'⟩,fun x H' y=>?_⟩;obtain⟨e,⟨k,v⟩,y,rfl⟩:=y;subst e;exact hs i k v σ _ y p
 ·have e:i=kvs.length:=by omega
  subst e;exact #[M,⟨q,zw1 _⟩,hd σ H p]
theorem zfd(hc:X.calm=true):V5 X (.builtin "max") (fun xs H Q=>∃ (l:Addr) (kvs:List (Key×V)) (ns:List Int),xs=[.ref l]/\Rd H l (.dK kvs)/\kvs.map (·.1)=ns.map inl/\0<ns.length/\∀ M,M∈ns->(∀ a∈ns,a<=M)->Q (.int M) H):=by
 intro pins s σ H xs us Q I r h;obtain⟨l,kvs,ns,rfl,hl,hns,hpos,q⟩:=h;obtain⟨u,rfl,ru⟩:=T3 r;cases ru;obtain⟨hz,hm,vs,kv,o,es,ep,h2,h3,h4,h5⟩:=Pj I.hok hl;have hlen:vs.length=ns.length:=by
  have e1:=KV.length kv;have e2:=congrArg List.length hns;rw[zwo,zwo] at e2;omega
 have hlt:l<s.heap.objs.size:=Heap.lt_size h2;have da:s.heap.DictAt (Ys X.prog X.w) l vs ep:=⟨o,es,h2,h3,h4,h5⟩;have val:∀ (i:Nat) (v:Value),(∃ k y,vs[i]?=some (k,y)/\(Ys X.prog X.w).is k v=true)->∃ t,v=.int (ns.getD i 0) t:=fun i v ⟨k,y,hk,hv⟩=>by
  have e1:=congrArg (·[i]?) (KV.keys kv);have e2:=congrArg (·[i]?) hns;simp only[zws,hk,zxv] at e1 e2;rw[e1] at e2;have hi:i<ns.length:=by
   rw[<- hlen];exact(zwq.mp hk).1
  rw[zwp hi] at e2;have e3:k=inl (ns[i]'hi):=Option.some.inj e2;have e4:ns.getD i 0=ns[i]'hi:=by rw[zxb,zwp hi];rfl
  rw[e4];rcases Y3 hv with ⟨j,t,rfl,rfl⟩|⟨z,t,rfl,rfl⟩
  ·cases e3;exact#[w,t]
  ·cases e3
 refine call_max_walk (wpAny_pyIter_dict hm da ?_);refine⟨s.heap.objs.size,[s.heap.objs.size,l],[s.heap.objs.size],vs.length,_,_,_,rfl,Walks.dictKeys (knd:=Ys X.prog X.w) (A:=X.A.in1) (I.ok.hd hc) _ l (zxh hlt) vs ep,⟨⟨_,Heap.get?_push_size _ rfl,rfl,rfl⟩,da.push _⟩,fun b hb=>?_,by omega,CmpOf.ints_gt (fun i=>ns.getD i 0) fun i v hv=>val i v hv,fun v h' tk hP hk=>?_⟩
 ·show b<(s.heap.push _).objs.size;rw[Heap.size_push];rcases zwy.mp hb with rfl|hb
  ·exact zyz _
  ·rcases zwy.mp hb with rfl|hb
   ·exact zyi hlt
   ·cases hb
 ·obtain⟨h1,h2⟩:=argBest_gt (fun i=>ns.getD i 0) (vs.length-1);obtain⟨t,rfl⟩:=val _ v hP;rw[hlen] at h1 h2 ⊢;generalize argBest (fun i j=>decide ((fun i=>ns.getD i 0) i>(fun i=>ns.getD i 0) j)) (ns.length-1)=b at h1 h2 ⊢;have hb:b<ns.length:=by omega
  have eg:∀ (k:Nat) (hk:k<ns.length),ns.getD k 0=ns[k]'hk:=fun k hk=>by rw[zxb,zwp hk];rfl
  refine⟨.int (ns.getD b 0),H,I.kept fun c o e=>?_,#[w,_],q _ (by rw[eg b hb];exact zxd hb) fun x hx=>?_⟩
  ·refine hk c o (fun hm=>?_) #[ac,_,e];rw[zwt.mp hm] at e;exact zyg _ (Heap.lt_size e)
  ·obtain⟨k,hk',rfl⟩:=zxq hx;have:=h2 k ⋯;show ns[k]<=_;rw[<- eg k hk'];exact this
theorem N3(I:Nat->Shared->Prop)
  (turn:∀ (n:Nat) (s:Shared),I n s->#[X,prog,w,A,pyNext it,(fun r s₁=>match r with
   | none=>R (.ok .next) s₁
   | some v=>#[X,prog,w,A,letOwnedTupleGo target it v,fun _ s₁'=>#[X,prog,w,A,assign target env v,fun _ s₂=>#[X,prog,w,A,(forIn ifs true fun c r=>if r=true then do let ok <- isTrue c env (eval c env);pure (ForInStep.yield ok) else pure (ForInStep.yield r)),(fun ok s₃=>if ok=true then #[X,prog,w,A,eval elt env,fun x s₄=>#[X,prog,w,A,call (.builtin "list.append") [acc,x],(fun _ s₅=>∃ m,m<n/\I m s₅),notedBy (model prog w) A env fun e s'=>R (.error e) s',s₄],notedBy (model prog w) A env fun e s'=>R (.error e) s',s₃] else ∃ m,m<n/\I m s₃),notedBy (model prog w) A env fun e s'=>R (.error e) s',s₂],notedBy (model prog w) A env fun e s'=>R (.error e) s',s₁'],notedBy (model prog w) A env fun e s'=>R (.error e) s',s₁]),notedBy (model prog w) A env fun e s'=>R (.error e) s',s])
  (n:Nat) (h:I n s):codeAny (model prog w) A (.compLoop (.ListComp elt [⟨target,iter,ifs,0⟩] scope pos) 0 it acc env) R s:=by
 refine codeAny_loop rfl I (fun n s hI=>?_) n h;refine wpAny_noted ?_;rw[compTurn_list];refine wpAny_bind (wpAny_standAt (wpAny_bind (wpAny_mono (turn n s hI) (fun r s₁ h₁=>?_) fun _ _ z=>z)));cases r with
 | none=>exact wpAny_pure h₁
 | some v =>
   refine wpAny_bind (wpAny_mono h₁ (fun _ s₁' h₂=>wpAny_bind (wpAny_mono h₂ (fun _ s₂ h₃=>wpAny_bind (wpAny_mono h₃ (fun ok s₃ h₄=>?_) fun _ _ z=>z)) fun _ _ z=>z)) fun _ _ z=>z);cases ok with
   | false =>
     simp only[zyn,if_false] at h₄ ⊢;exact wpAny_pure ⟨rfl,h₄⟩
   | true =>
     simp only[if_true] at h₄ ⊢;refine wpAny_bind (wpAny_bind (wpAny_mono h₄ (fun x s₄ h₅=>wpAny_bind (wpAny_mono h₅ (fun _ s₅ h₆=>wpAny_pure (wpAny_pure ⟨rfl,h₆⟩)) fun _ _ z=>z)) fun _ _ z=>z))
def cs0(xo:List Str)(js:#[B])(σ:St):St:=(xo.map fun _=>none)++js.map fun j=>(σ[j]?).getD none
def Qo(xo:List Str)(js:#[B])(σ σ2:St):Prop:=∃ os:St,os.length=xo.length/\σ2=os++js.map fun j=>(σ[j]?).getD none
theorem Qo.weak(o:Qo xo js σ σ2)(I:Inv X pins σ2 H s):Inv X pins (cs0 xo js σ) H s:=by
 obtain⟨os,hl,rfl⟩:=o;refine I.weak (by unfold cs0;simp[hl]) fun i v e=>?_;unfold cs0 at e;by_cases hi:i<xo.length
 ·rw[zxm (by rw[zwo];exact hi),zws,zwp hi] at e;cases e
 ·rw[zxl (by rw[zwo];omega),zwo] at e;rw[zxl ⋯,hl];exact e
def Bs(J:It)(xo:List Str)(js:#[B])(g:TG)(tt:TT)(te:TE)(σ:St)(H:Hp)(Q:VK):Prop:=∃ W:Nat->Nat->#[a]->Hp->Prop,(∃ m,W 0 m [] H)/\∀ i m ys H,W i m ys H ->
 (J.stop i H/\ys.length<=sizeLine/\∀ p,H p=none->Q (.ref p) (upd H p (.lst ys))) \/
 (J.go i H/\ys.length<sizeLine/\∃ N:#[a]->Hp->Prop,(∀ ys' H',N ys' H'->∃ m',m' < m/\W (i+1) m' ys' H')/\∀ x H',J.yld i H x H'->g x (cs0 xo js σ) H' fun σ2 H1=>Qo xo js σ σ2/\tt σ2 H1 fun b H2=>if b=true then te σ2 H2 fun y H3=>N (ys++[y]) H3 else N ys H2)
def zk9(wi:TI)(xo:List Str)(js:#[B])(g:TG)(tt:TT)(te:TE):TE:=fun σ H Q=>wi σ H fun J H1=>Bs J xo js g tt te σ H1 Q
section
variable{X:Cx}{elt iter tg:Expr}{xo:List Str}{pos:Pos}{ifs:List Expr}{scope:Scope}{cl:List (Str×Addr)}{ys:List Str}{js:#[B]}{g:TG}
structure Nj(X:Cx)(xo:List Str)(scope:Scope)(cl:List (Str×Addr))(ys:List Str)(js:#[B]):Prop where
 clos:closureFor scope X.env=pure cl
 kind:scope.kind=.function
 names:∀ y∈scope.names,y.2=.local->scope.names.lookup y.1=some .local
 nocell:∀ y∈scope.names,y.2≠.cell
 at_:js.map (X.N[·]?)=ys.map some
 free:Ey (fun y=>X.env.kindOf y=some .cell/\(relabel scope X.env).names.lookup y=some .cell/\cl.lookup y=#[ah,y]) ys
 only:Ey (fun p=>#[ah,p.1]=some p.2) cl
 vis:∀ y∈scope.names,y.2=.free->y.1∈ys
theorem Nj.same(c:Nj X xo scope cl ys js)(h:cl.lookup y=some a):X.env.cells.lookup y=some a:=c.only.get (PySem.mem_of_lookup h)
theorem zha(c:Nj X xo scope cl ys js)(I:#[l])(hf:∀ b∈fp,FpOk X pins H b)(hex:∀ b∈fp,b<s.heap.objs.size)(hC:s.heap.objs.size<=C) :
  (Y8 X pn Nc scope cl s H fp C).Ok where
 mod:=I.ok.mod
 kind:=c.kind
 glob:=I.ok.glob
 blt:=I.ok.blt
 above:=hC
 inj:=fun y z a h1 h2=>I.ok.inj y z a (c.same h1) (c.same h2)
 has:=fun y h=>by
  obtain⟨k,m,q⟩:=M4 h;rcases q with rfl|rfl
  ·exact absurd rfl (c.nocell _ m)
  ·obtain⟨a1,a2,a3⟩:=c.free.get (c.vis _ m rfl);obtain⟨a,ha⟩:=I.ok.has y (.inl a1);exact⟨a,a3.trans ha⟩
 cab:=fun _ _ h=>by cases h
 hd:=I.ok.hd
 frames:=I.ok.frames
 stk:=.inl rfl
 exf:=fun b hb=>by
  obtain⟨f0,f1,f2,f3,f4,f5⟩:=hf b hb;exact⟨zxh (zxf (hex b hb) hC),fun y a h=>f4 y a (c.same h)⟩
 bs:=I.bs
 bsz:=zw4 I.ok.bsz I.sz
 noex:=fun b o q hb=>by
  obtain⟨f0,f1,f2,f3,f4,f5⟩:=hf b hb;rcases f3 with z|z
  ·exact I.ok.noex b o q z
  ·exact absurd (zxf (Heap.lt_size (I.ok.bs b o q).1) z) (zyg _)
 exfs:=fun b hb m=>by
  obtain⟨f0,f1,f2,f3,f4,f5⟩:=hf b hb;exact(zwy.mp (I.stkSub b m)).elim f1 f2
 funs:=I.stack
 frf:=I.stkFree
theorem zfe(c:Nj X xo scope cl ys js)(I:#[l])(hf:∀ b∈fp,FpOk X pins H b)(hex:∀ b∈fp,b<s.heap.objs.size)(hC:s.heap.objs.size<=C)
  (hns:h1.Ns C m1) (old:∀ b o,s.heap.get? b=#[d]->h1.get? b=#[d]) :
  Inv (Y8 X (X.pn++pins) (xo++ys) scope cl s H fp C) [] (cs0 xo js σ) H { s with heap:=h1,toks:=t1 }:=by
 obtain⟨m,hn,hl⟩:=I.loc;have jl:js.length=ys.length:=by have:=congrArg List.length c.at_;simpa using this
 refine⟨zha c I hf hex hC,rfl,I.bare,Un.kept old,⟨m1,hns,fun i y v e1 e2 e3=>?_⟩,fun y a h=>?_,I.hok.fresh hC,fun y a h=>I.freeC y a (c.same h),fun p hp=>?_,I.hok.kept old,by simp[jl,Y8,cs0]⟩
 ·have e2:=e2.resolve_right (W6 _);unfold cs0 at e2;by_cases hi:i<xo.length
  ·rw[zxm (by rw[zwo];exact hi),zws,zwp hi] at e2;cases e2
  ·rw[zxl (by rw[zwo];omega),zwo] at e2;have e1:ys[i-xo.length]?=some y:=by
    have e1:(xo++ys)[i]?=some y:=e1;rw[zxl ⋯] at e1;exact e1
   generalize i-xo.length=k at e1 e2;rw[zws] at e2;cases hj:js[k]? with
   | none=>rw[hj] at e2;cases e2
   | some j =>
     rw[hj] at e2;have ej:X.N[j]?=some y:=by
      have q:=congrArg (·[k]?) c.at_;simp only[zws,hj,e1,zxv] at q;exact Option.some.inj q
     have ev:σ[j]?=#[b,some,v]:=by
      simp only[zxv,Option.some.injEq] at e2;cases hσ:σ[j]? with
      | none=>rw[hσ] at e2;cases e2
      | some o=>rw[hσ] at e2;rw[show o=some v from e2]
     obtain⟨a1,a2,a3⟩:=c.free.get (zww e1);obtain⟨u,r,l⟩:=hl j y v ej (.inl ev) (.inr (.inl a1));refine⟨u,r,.inr ⟨.inl a2,?_⟩⟩;rcases l with ⟨k1,_⟩|⟨_,b,e,z⟩
     ·rw[a1] at k1;cases k1
     ·obtain⟨o,ho,hd⟩:=z;exact⟨b,a3.trans e,o,old _ _ ho,hd⟩
 ·obtain⟨v,o,ho,hd⟩:=I.cell y a (c.same h);exact⟨v,o,old _ _ ho,hd⟩
 ·obtain⟨e,n,ne,nf,d⟩:=I.pin p (by simpa [Y8] using hp);refine⟨old _ _ e,n,zxh (zxf (Heap.lt_size e) hC),fun m=>?_,d⟩;exact(zwy.mp (I.stkSub _ m)).elim ne nf
theorem Gp{pins:#[C]}{σ:St}{H:Hp}{s:Shared}{tt:TT}{te:TE}{it:Addr}{fp:#[x]}{tn:Nat->Heap->Prop}{J:It}{W:Nat->Nat->#[a]->Hp->Prop}{m0:Nat}{Q:VK}{E:Value->Shared->Prop}{RR:Value->Addr->Result->Shared->Prop}
  (hcm:X.calm=true) (c:Nj X xo scope cl ys js) (ht:∀ pn s₀ H₀ fp C,PTs (Y8 X pn (xo++ys) scope cl s₀ H₀ fp C) ifs tt) (hgt:∀ pn s₀ H₀ fp C,PG (Y8 X pn (xo++ys) scope cl s₀ H₀ fp C) tg g) (he:∀ pn s₀ H₀ fp C,PE (Y8 X pn (xo++ys) scope cl s₀ H₀ fp C) elt te)
  (I:#[l]) (T:Au X.prog X.w X.K tg J fp it tn) (st0:tn 0 s.heap) (hf:∀ b∈fp,FpOk X pins H b) (w0:W 0 m0 [] H)
  (turn:∀ i m ys H,W i m ys H->(J.stop i H/\ys.length<=sizeLine/\∀ p,H p=none->Q (.ref p) (upd H p (.lst ys))) \/
   (J.go i H/\ys.length<sizeLine/\∃ N:#[a]->Hp->Prop,(∀ ys' H',N ys' H'->∃ m',m' < m/\W (i+1) m' ys' H')/\∀ x H',J.yld i H x H'->g x (cs0 xo js σ) H' fun σ2 H1=>Qo xo js σ σ2/\tt σ2 H1 fun b H2=>if b=true then te σ2 H2 fun y H3=>N (ys++[y]) H3 else N ys H2))
  (hRR:∀ D C s' m,s'.heap.Ns C m->(∀ h',Heap.SameBut C s'.heap h'->∃ H',Inv X pins σ H' { s' with heap:=h' }/\Q (.ref D) H')->(∃ H',Inv X pins σ H' s'/\Q (.ref D) H'/\H' C=none)->s.heap.objs.size<=C->RR (.ref D) C (.ok .next) s') :
  wpAny (model X.prog X.w) X.A (newList []) (fun acc s₃=>#[am,newFunctionEnv scope X.env.globals cl [] X.env.qual none .none (some X.env),(fun cenv s₄ =>
   codeAny (model X.prog X.w) X.A (.compStart (.ListComp elt [⟨tg,iter,ifs,0⟩] scope pos) 0 (.ref it) acc { cenv with scope:=relabel scope X.env }) (RR acc cenv.locals) s₄),E,s₃]) E s:=by
 refine wpAny_newObj_type (wpAny_newFunctionEnv c.nocell (by intro y hy;simp at hy) (fun h₁ hns₁ hsb₁=>?_) c.kind);dsimp only at hns₁ hsb₁ ⊢;generalize hH2:s.heap.push { cls:=.type "list",dict:=none,data:=.seq ([]:List Value).toArray }=G at hns₁ hsb₁ ⊢;generalize hD:s.heap.objs.size=D;have hC:G.objs.size=D+1:=by rw[<- hH2,Heap.size_push,hD]
 generalize hCe:G.objs.size=C at hns₁ hsb₁ ⊢;have hCD:C=D+1:=hCe.symm.trans hC;have hDC:D≠C:=by omega
 have below:∀ b o,#[ab]=#[d]->b<D:=fun b o e=>by rw[<- hD];exact Heap.lt_size e
 have ltC:∀ b:Addr,b<D->b≠C:=fun b h=>zxh (hCD▸zyi h);have ltD:∀ b:Addr,b<D->b≠D:=fun b h=>zxh h;have old:∀ b o,s.heap.get? b=#[d]->h₁.get? b=#[d]:=fun b o e=>hsb₁.extBut b o (ltC b (below b o e)) #[ac,_,hH2▸#[ac,_,e]];have hacc:h₁.PlainList D #[]:=⟨_,hsb₁.extBut _ _ hDC #[ac,_,(by rw[<- hH2,<- hD];exact Heap.get?_push_size _ rfl)]⟩;have hex:∀ b∈fp,b<s.heap.objs.size:=fun b hb=>by
  obtain⟨o,e,_⟩:=T.obj _ _ st0 b hb;exact Heap.lt_size e
 have lt0:∀ b∈fp,b<D:=fun b hb=>by rw[<- hD];exact hex b hb
 have freshD:s.heap.get? D=none:=Heap.get?_none_of_le ⋯;have freshC:s.heap.get? C=none:=Heap.get?_none_of_le ⋯;have frE:∀ {H':Hp},(∀ b∈fp,H' b=none)->∀ {o:Obj} {b:Addr},b∈fp->FpOk (Y8 X (X.pn++pins) (xo++ys) scope cl s H fp C) [(D,o)] H' b:=fun {H'} hn {o b} hb=>by
  obtain⟨f0,f1,f2,f3,f4,f5⟩:=hf b hb;refine⟨hn b hb,?_,?_,.inl hb,fun y a h=>f4 y a (c.same h),fun p hp=>?_⟩
  ·exact ltC b (lt0 b hb)
  ·exact fun m=>(zwy.mp (I.stkSub b m)).elim f1 f2
  ·rcases zw0.mp hp with z|z
   ·exact f5 p z
   ·rw[zwt.mp z];exact Ne.symm (ltD b (lt0 b hb))
 have pinD:∀ {σ':St} {H':Hp} {s':Shared} {o:Obj},Inv (Y8 X (X.pn++pins) (xo++ys) scope cl s H fp C) [] σ' H' s'->s'.heap.get? D=#[d]->(∀ v,o.data≠.cell v)->H' D=none->Inv (Y8 X (X.pn++pins) (xo++ys) scope cl s H fp C) [(D,o)] σ' H' s':=fun {σ' H' s' o} Ic e nc n =>
  Ic.pins_of fun p hp=>by
   rw[zwt.mp hp];refine⟨e,n,hDC,fun m=>?_,nc⟩;obtain⟨_,ob,hob,_⟩:=I.stack.mem m;exact absurd (below D ob hob) (zyg _)
 have loop:∀ s₃:Shared,s₃={ s with heap:=h₁,toks:=s.toks+([]:List (Str×Value)).length } ->
   codeAny (model X.prog X.w) X.A (.compLoop (.ListComp elt [⟨tg,iter,ifs,0⟩] scope pos) 0 (.ref it) (.ref D) (compEnvC scope cl C X.env)) (RR (.ref D) C) s₃:=by
  rintro s₃ rfl;have I0:=zfe (t1:=s.toks+([]:List (Str×Value)).length) c I hf hex (by omega:s.heap.objs.size<=C) hns₁ old;refine N3 (fun n s'=>∃ i H' zs its,Inv (Y8 X (X.pn++pins) (xo++ys) scope cl s H fp C) [] (cs0 xo js σ) H' s'/\tn i s'.heap/\(∀ b∈fp,H' b=none)/\s'.heap.PlainList D (its:List Value).toArray/\Vals zs its/\H' D=none/\W i n zs H') ?_ m0
   ⟨0,H,[],[],I0,T.keep _ _ _ st0 fun b hb o e=>old b o e,fun b hb=>(hf b hb).1,hacc,.nil,I.hok.fresh ⋯,w0⟩
  rintro n s3 ⟨i,H3,zs,its,I3,st3,fr3,⟨n3,pl3⟩,rv3,fD3,w3⟩;have I3':=pinD I3 pl3 (by intro v z;cases z) fD3;rcases turn i n zs H3 w3 with ⟨stop,hsz,fin⟩|⟨go,hsz,Nx,hNx,step⟩
  ·refine wpAny_mono (T.done (Y8 X (X.pn++pins) (xo++ys) scope cl s H fp C) rfl rfl rfl hcm i _ s3 _ H3 (fun _ _=>False) I3' (fun b hb=>frE fr3 hb) st3 stop) (fun r s4 ⟨hr,I4⟩=>?_) fun _ _ z=>z.elim;subst hr;have plD:s4.heap.get? D=some _:=(I4.pin (D,{ cls:=Value.type "list",data:=.seq its.toArray n3 }) (zw7 _ zxk)).1;obtain⟨m4,hn4,_⟩:=I4.loc;have okU:∀ h',(∀ b o,b≠C->s4.heap.get? b=some o->h'.get? b=some o)->#[H,upd H3 D (.lst zs),{ s4 with heap:=h' }]:=fun h' k1=>by
    have u4:Un (frs X.stack) fp H H3 s.heap s4.heap:=I4.base;have neC:∀ b o,#[ab]=#[d]->b≠C:=fun b o e=>ltC b (below b o e);have neD:∀ b o,#[ab]=#[d]->b≠D:=fun b o e=>ltD b (below b o e);have trD:∀ b u,H3 b=some u->b≠D:=fun b u e z=>by rw[z,fD3] at e;cases e
    have trC:∀ b u,H3 b=some u->b≠C:=fun b u e z=>by rw[z,show H3 C=none from I4.free] at e;cases e
    have un:Un (frs X.stack) fp H (upd H3 D (.lst zs)) s.heap h':=by
     refine⟨fun b o e n hb hx=>k1 b o (neC b o e) (u4.keep b o e n hb hx),fun b o e n hb hx=>?_,fun b o e n hx=>?_,fun b o e hx=>?_,fun b xs e=>?_,fun b ob u e=>?_,fun b ps e=>?_⟩
     ·obtain⟨sl,z⟩:=u4.slot b o e n hb hx;exact⟨sl,k1 b _ (neC b o e) z⟩
     ·rw[Zh (neD b o e)];exact u4.free b o e n hx
     ·obtain⟨o',z⟩:=u4.there b o e hx;exact⟨o',k1 b o' (neC b o e) z⟩
     ·have z:=u4.tups b xs e;rw[Zh (trD b _ z)];exact z
     ·have z:=u4.frzs b ob u e;rw[Zh (trD b _ z)];exact z
     ·obtain⟨more,z⟩:=u4.tbls b ps e;exact⟨more,by rw[Zh (trD b _ z)];exact z⟩
    refine I.call' (s':={ s4 with heap:=h' }) (ch:=fp) (show s4.os=s.os from I4.os) un (fun b u e=>?_) I4.bare fun b hb=>?_
    ·by_cases hb:b=D
     ·subst hb;rw[Ze] at e;cases e;exact⟨hsz,its,n3,rv3,k1 _ _ hDC plD⟩
     ·rw[Zh hb] at e;refine(I4.hok b u e).stay (fun d v hd q=>?_) (fun d q=>by rw[Zh (trD d _ q)];exact q) fun d xs q=>by rw[Zh (trD d _ q)];exact q
      rcases hd with z|z
      ·exact k1 d v (by rw[z];exact trC b u e) q
      ·exact k1 d v (trC d _ z) q
    ·obtain⟨f0,f1,f2,f3,f4,f5⟩:=hf b hb;exact⟨f3,f1,f4,f5⟩
   refine hRR D C s4 m4 hn4 (fun h' hs'=>⟨_,okU h' fun b o hb e=>hs'.extBut b o hb e,fin D fD3⟩) ⟨_,okU s4.heap fun _ _ _ e=>e,fin D fD3,?_⟩ ⋯
   ·rw[Zh (Ne.symm hDC)];exact I4.free
  ·refine wpAny_mono (T.item (Y8 X (X.pn++pins) (xo++ys) scope cl s H fp C) rfl rfl rfl hcm i _ s3 _ H3 (fun _ _=>False) I3' (fun b hb=>frE fr3 hb) st3 go) (fun r s4 ⟨u,hr,h4⟩=>?_) fun _ _ z=>z.elim;subst hr;refine wpAny_mono h4 (fun _ s5 h5=>?_) fun _ _ z=>z.elim;obtain⟨xv,H5,I5,r5,y5,st5,fr5⟩:=h5;have I5':=I5.pinned (fun b hb=>frE fr5 hb) (T.obj _ _ st5);refine wpAny_mono (hgt _ _ _ _ _ _ s5 _ H5 xv u _ I5' r5 (step xv H5 y5)) (fun _ s6 ⟨σ6,H6,I6,own6,q6⟩=>?_) fun _ _ z=>z.elim;refine wpAny_mono (ht _ _ _ _ _ _ s6 _ H6 _ I6 q6) (fun ok s7 ⟨H7,I7,q7⟩=>?_) fun _ _ z=>z.elim;have keepF:∀ {σ8:St} {H8:Hp} {s8:Shared},Inv (Y8 X (X.pn++pins) (xo++ys) scope cl s H fp C) ([(D,{ cls:=Value.type "list",data:=.seq its.toArray n3 })]++L9 fp s5.heap) σ8 H8 s8->tn (i+1) s8.heap/\(∀ b∈fp,H8 b=none)/\s8.heap.PlainList D its.toArray/\H8 D=none:=fun {σ8 H8 s8} I8=>by
    refine⟨T.keep _ _ _ st5 fun b hb o e=>(I8.pin (b,o) (zw7 _ (zw7 _ (Qh hb e)))).1,fun b hb=>?_,⟨n3,(I8.pin (D,_) (zw7 _ zxk)).1⟩,(I8.pin (D,_) (zw7 _ zxk)).2.1⟩;obtain⟨o,e,d⟩:=T.obj _ _ st5 b hb;exact(I8.pin (b,o) (zw7 _ (zw7 _ (Qh hb e)))).2.1
   have bare:∀ {σ8:St} {H8:Hp} {s8:Shared},Inv (Y8 X (X.pn++pins) (xo++ys) scope cl s H fp C) ([(D,{ cls:=Value.type "list",data:=.seq its.toArray n3 })]++L9 fp s5.heap) σ8 H8 s8->Inv (Y8 X (X.pn++pins) (xo++ys) scope cl s H fp C) [] σ8 H8 s8:=fun I8=>I8.pins_of fun _ z=>(nomatch z)
   cases ok with
   | false =>
     simp only[zyn,if_false] at q7 ⊢;obtain⟨m',hm',w7⟩:=hNx _ _ q7;obtain⟨a1,a2,a3,a4⟩:=keepF I7;exact⟨m',hm',i+1,H7,zs,its,own6.weak (bare I7),a1,a2,a3,rv3,a4,w7⟩
   | true =>
     simp only[if_true] at q7 ⊢;refine wpAny_mono (he _ _ _ _ _ _ s7 _ H7 _ I7 q7) (fun y s8 ⟨yv,H8,I8,r8,q8⟩=>?_) fun _ _ z=>z.elim;obtain⟨m',hm',w8⟩:=hNx _ _ q8;obtain⟨a1,a2,a3,a4⟩:=keepF I8;have szI:its.toArray.size<=sizeLine:=by rw[zw5,<- rv3.length];omega
     refine wpAny_list_append_plain (hsz:=szI) a3 fun h9 pl9 sb9=>?_;have I8b:=own6.weak (bare I8);refine⟨m',hm',i+1,H8,zs++[yv],its++[y],?_,T.keep _ _ _ a1 fun b hb o e=>(sb9.2 b (ltD b (lt0 b hb))).trans e,a2,by rw[List.push_toArray] at pl9;exact pl9,rv3.append (.cons r8 .nil),a4,w8⟩;refine I8b.turned (t':=s8.toks) (it:=D) (fun b o hb e=>(sb9.2 b hb).trans e) a4 hDC (.inr (show s.heap.objs.size<=D by omega)) (fun y' a h=>?_) fun p hp=>?_
     ·obtain⟨v,o,ho,_⟩:=I.cell y' a (c.same h);exact ltD a (below a o ho)
     ·obtain⟨e,_⟩:=I.pin p (by simpa [Y8] using hp);exact ltD _ (below _ _ e)
 exact codeAny_compStart_list (loop _ rfl) (T.self _ 0 _ _ _ (T.keep _ _ _ st0 fun b hb o e=>old b o e) (loop _ rfl))
variable{wi:TI}{tt:TT}{te:TE}
theorem Le(hcm:X.calm=true)(c:Nj X xo scope cl ys js)(hi:PI X tg iter wi)(ht:∀ pn s₀ H₀ fp C,PTs (Y8 X pn (xo++ys) scope cl s₀ H₀ fp C) ifs tt)(hgt:∀ pn s₀ H₀ fp C,PG (Y8 X pn (xo++ys) scope cl s₀ H₀ fp C) tg g)(he:∀ pn s₀ H₀ fp C,PE (Y8 X pn (xo++ys) scope cl s₀ H₀ fp C) elt te)
  (hs:∀ x,foldedSetIterable iter X.env x=pure x:=by intro _;rfl):PE X (.ListComp elt [⟨tg,iter,ifs,0⟩] scope pos) (zk9 wi xo js g tt te):=by
 intro pins s σ H Q I h;rw[eval_ListComp];refine wpAny_comprehension_free (use:=none) rfl hs c.clos c.kind c.names (thn (hi pins s σ H _ I h) fun v s1 h1=>thn h1 fun itv s2 h2=>?_);obtain⟨it,fp,tn,J,H2,e,I2,T,st2,f2,W,⟨m0,w0⟩,turn⟩:=h2;subst e;exact Gp (RR:=fun acc C=>compPost (model X.prog X.w) X.A X.xe none (EP X pins σ Q) acc C) hcm c ht hgt he I2 T st2 f2 w0 turn fun D C s' m hn hS _ _=>⟨m,hn,fun h' hs'=>let ⟨H',I',q⟩:=hS h' hs';⟨.ref D,H',I',rfl,q⟩⟩
end
end L2
namespace G
open PySem PySem.Spec PyProof.Rows L2
theorem zcj{K:Frag}{a:Addr}{xs:#[a]}{xo:List Str}{js:#[B]}{g:TG}{tt:TT}{te:TE}{σ:L2.St}{H:Hp}{Q:VK}(p:Nat->Bool)(f:Nat->V)(hz:xs.length<=1000)(hx:SqL K H a xs)
  (step:∀ (i:Nat) (x:V) (t:Addr) (H':Hp) (N:#[a]->Hp->Prop) (ys:#[a]),xs[i]?=some x->#[j]->H' t=none->(∀ H2,Same H H2->N (if p i=true then ys++[f i] else ys) H2) ->
   g (.ref t) (cs0 xo js σ) (upd H' t (.tup [.int (i:Nat),x])) fun σ2 H1=>Qo xo js σ σ2/\tt σ2 H1 fun b H2=>if b=true then te σ2 H2 fun y H3=>N (ys++[y]) H3 else N ys H2)
  (fin:∀ (H':Hp) (l:Addr),#[j]->H' l=none->Q (.ref l) (upd H' l (.lst (((List.range xs.length).filter p).map f)))):Bs (Ite K a) xo js g tt te σ H Q:=by
 have line:1000<sizeLine:=by rw[sizeLine_eq];decide
 refine⟨fun i m ys H'=>m=xs.length-i/\i<=xs.length/\#[j]/\ys=((List.range i).filter p).map f,⟨xs.length,by simp,zxj _,fun _ _ q=>q,by simp⟩,?_⟩;rintro i m ys H' ⟨rfl,hi,hs,rfl⟩;have hq:=hs.seq hx;have hlen:(((List.range i).filter p).map f).length<=i:=by
  rw[zwo];exact zw4 (zxn _ _) (by rw[zxo];exact zw1 _)
 by_cases hlt:i<xs.length
 ·refine .inr ⟨⟨xs,xs[i],hq,by simp[hlt]⟩,by omega,fun ys' H2=>Same H H2/\ys'=((List.range (i+1)).filter p).map f,fun ys' H2 ⟨h1,h2⟩=>⟨xs.length-(i+1),by omega,rfl,hlt,h1,h2⟩,fun x H2 y=>?_⟩;obtain⟨t,y,h1,h2,rfl,rfl⟩:=y;refine step i y t H' (fun ys' H2=>Same H H2/\ys'=((List.range (i+1)).filter p).map f) _ (h2 xs hq) hs h1 fun H2 s2=>⟨s2,?_⟩
  rw[List.range_succ,zyf,zwv];cases hp:p i with
  | true=>rw[#[P],zx5,if_pos hp];rfl
  | false=>rw[if_neg ⋯,zx5,#[h,(by rw[hp];decide)]];simp
 ·have e:i=xs.length:=by omega
  subst e;exact .inl ⟨⟨xs,hq,zw1 _⟩,by omega,fun l hl=>fin H' l hs hl⟩
theorem Kk:∀ (a b:List (Nat×Option Int)) (xs:List V),Yj (a++b) xs=Yj b (Yj a xs)
 | [],_,_=>rfl
 | (p,w) :: r,b,xs=>by rw[List.cons_append,Yj,Yj,Kk r b]
structure Hj(kvs:#[U])(gs:#[a]):Prop where
 has:∀ (n:Int) (j:Nat),gs[j]?=#[e,n]->valV kvs (inl n:Key)=#[e,(j:Nat)]
 not:∀ n:Int,(∀ j:Nat,gs[j]?≠#[e,n])->valV kvs (inl n:Key)=none
theorem Hj.iff(t:Hj kvs gs)(n:Int):(∃ j:Nat,gs[j]?=some (.int n)/\valV kvs (inl n:Key)=some (.int (j:Nat)))\/((∀ j:Nat,gs[j]?≠some (.int n))/\valV kvs (inl n:Key)=none):=by
 by_cases h:∃ j:Nat,gs[j]?=some (.int n)
 ·obtain⟨j,hj⟩:=h;exact .inl ⟨j,hj,t.has n j hj⟩
 ·have h':∀ j:Nat,gs[j]?≠some (.int n):=fun j hj=>h ⟨j,hj⟩;exact .inr ⟨h',t.not n h'⟩
inductive Bt(K:Frag)(vs:#[a])(H:Hp)(Q:VK)(_:XK):Prop where
 | mk(b:Addr)(gs:#[a])(_:vs=[.ref b])(_:#[y,H,b,gs])(_:(∀ x∈gs,oneV x))(_:(∀ (j k:Nat) (n:Int),gs[j]?=#[e,n]->gs[k]?=#[e,n]->j=k))(_:gs.length<=100)(_:∀ d kvs H',H' d=#[b,.dK,kvs]->Hj kvs gs->#[j]->H d=none->#[S,d])
structure Wj(H:Hp)(into:#[U])(line:#[B])(fr:Nat->Option (Nat×Int)):Prop where
 keys:into.map (·.1)=line.map fun q:Nat=>(inl (q:Int):Key)
 none:∀ q∈line,fr q=Option.none->valV into (inl (q:Int):Key)=some .non
 some:∀ q∈line,∀ par n,fr q=Option.some (par,n)->∃ t,valV into (inl (q:Int):Key)=Option.some (.ref t)/\H t=Option.some (.tup [.int (par:Nat),.int n])
theorem Wj.same(e:#[j])(h:Wj H into line fr):Wj H' into line fr :=
 ⟨h.keys,h.none,fun q hq par n hf=>let ⟨t,a,b⟩:=h.some q hq par n hf;⟨t,a,e _ _ b⟩⟩
theorem Wj.len(h:Wj H into line fr):into.length=line.length:=by
 have:=congrArg List.length h.keys;rw[zwo,zwo] at this;exact this
theorem zhb{into:#[U]}{k:Key}:(valV into k).isSome=true↔k∈into.map Prod.fst:=by
 unfold valV;rw[Option.isSome_map,List.find?_isSome];constructor
 ·rintro⟨p,hp,e⟩;exact zwx.mpr ⟨p,hp,of_decide_eq_true e⟩
 ·intro h;obtain⟨p,hp,rfl⟩:=zwx.mp h;exact⟨p,hp,zwu rfl⟩
theorem Wj.has{H:Hp}{into:#[U]}{line:#[B]}{fr:Nat->Option (Nat×Int)}(h:Wj H into line fr)(q:Nat):(valV into (inl (q:Int):Key)).isSome=true↔q∈line:=by
 rw[zhb,h.keys];constructor
 ·intro z;obtain⟨q',h1,h2⟩:=zwx.mp z;have:(q':Int)=q:=inl.inj h2;have:q'=q:=by omega
  rw[<- this];exact h1
 ·intro hq;exact zwx.mpr ⟨q,hq,rfl⟩
inductive zck(K:Frag)(vs:#[a])(H:Hp)(Q:VK)(_:XK):Prop where
 | mk(l d:Addr)(ls:#[x])(rows:#[A])(kvs:#[U])(gs:#[a])(p:Nat)(_:vs=[.ref l,.ref d,.int p])(_:#[ap,l])(_:ILs H ls rows)(_:rows.length<=100)(_:H d=#[b,.dK,kvs])(_:Hj kvs gs)(_:Ye rows gs)(_:p<rows.length)(_:∀ t into line dep fr H',H' t=#[b,.dK,into]->Wj H' into line fr->#[ar]->Done rows gs line dep line.length->T7 rows gs p line dep fr->(∀ q∈line,q<rows.length)->#[j]->H t=none->#[S,t])
inductive Cs(K:Frag)(vs:#[a])(H:Hp)(Q:VK)(_:XK):Prop where
 | mk(l d:Addr)(r:#[o])(kvs:#[U])(_:vs=[.ref l,.ref d])(_:H l=some (.lst (r.map V.int)))(_:H d=#[b,.dK,kvs])(_:∀ w:#[D],(∀ n,w=some n->n∈r/\valV kvs (inl n:Key)=none)->(w=none->∀ n∈r,(valV kvs (inl n:Key)).isSome=true)->Q (oV w) H)
inductive zal(K:Frag)(vs:#[a])(H:Hp)(Q:VK)(_:XK):Prop where
 | mk(t:Addr)(q p:Nat)(w:#[D])(rows:#[A])(gs:#[a])(into:#[U])(line:#[B])(dep:Nat->Nat)(fr:Nat->Option (Nat×Int))(_:vs=[.ref t,.int q,oV w])(_:Rd H t (.dK into))(_:Wj H into line fr)(_:T7 rows gs p line dep fr)(_:dep p=0)(_:p∈line)(_:q∈line)(_:dep q<=100)(_:∀ lt ts st H',H' lt=#[r,ts]->Z7 H' ts (st.map Wz)->Ch rows gs p st q w->st.length=dep q+1->#[j]->H lt=none->#[S,lt])
section
variable{rows:#[A]}{gs:#[a]}{p:Nat}{line:#[B]}{dep:Nat->Nat}{fr:Nat->Option (Nat×Int)}{H H':Hp}{into:#[U]}
def Jj(fr:Nat->Option (Nat×Int))(q:Nat)(x:Nat×Int):Nat->Option (Nat×Int):=fun y=>if y=q then some x else fr y
theorem N4:Jj fr q x q=some x:=by unfold Jj;rw[#[P]]
theorem Lg(h:y≠q):Jj fr q x y=fr y:=by unfold Jj;rw[#[h,h]]
theorem T7.app(F:T7 rows gs p line dep fr)(hn:q'∉line)(hp:p∈line)(hh:here∈line)(a:adjN rows gs here n q'):T7 rows gs p (line++[q']) (Wi dep q' (dep here+1)) (Jj fr q' (here,n)):=by
 have ne:∀ x∈line,x≠q':=fun x hx z=>hn (by rw[<- z];exact hx);have old:∀ x∈line,Wi dep q' (dep here+1) x=dep x:=fun x hx=>by unfold Wi;rw[if_neg (ne x hx)]
 have new:Wi dep q' (dep here+1) q'=dep here+1:=by unfold Wi;rw[#[P]]
 refine⟨by rw[Lg (ne p hp)];exact F.1,fun q hq hqp=>?_⟩;rcases zw0.mp hq with z|z
 ·obtain⟨par,m,h1,h2,h3,h4⟩:=F.2 q z hqp;exact⟨par,m,by rw[Lg (ne q z)];exact h1,zxa _ h2,h3,by rw[old q z,old par h2];exact h4⟩
 ·rw[zwt.mp z];exact⟨here,n,N4,zxa _ hh,a,by rw[new,old here hh]⟩
theorem Wj.mono(e:∀ t xs,H t=Option.some (.tup xs)->H' t=Option.some (.tup xs))(h:Wj H into line fr):Wj H' into line fr :=
 ⟨h.keys,h.none,fun q hq par n hf=>let ⟨t,a,b⟩:=h.some q hq par n hf;⟨t,a,e _ _ b⟩⟩
theorem Wj.app(I:Wj H into line fr)(hn:q'∉line)(ht:H t=Option.some (.tup [.int (here:Nat),.int n])):Wj H (putK into (inl (q':Int)) (.ref t)) (line++[q']) (Jj fr q' (here,n)):=by
 have ne:∀ x∈line,x≠q':=fun x hx z=>hn (by rw[<- z];exact hx);have hv:valV into (inl (q':Int):Key)=Option.none:=by
  cases e:valV into (inl (q':Int):Key) with
  | none=>rfl
  | some y=>exact absurd ((I.has q').mp (by rw[e];rfl)) hn
 have val:∀ x∈line,valV (putK into (inl (q':Int)) (.ref t)) (inl (x:Int):Key)=valV into (inl (x:Int):Key):=fun x hx=>by
  rw[Vr,#[h,fun z=>ne x hx (by have:=inl.inj z;omega)]]
 have valn:valV (putK into (inl (q':Int)) (.ref t)) (inl (q':Int):Key)=Option.some (.ref t):=by rw[Vr,#[P]]
 refine⟨?_,fun q hq hf=>?_,fun q hq par m hf=>?_⟩
 ·rw[Az _ hv,zwv,zwv,I.keys];rfl
 ·rcases zw0.mp hq with z|z
  ·rw[Lg (ne q z)] at hf;rw[val q z];exact I.none q z hf
  ·rw[zwt.mp z,N4] at hf;cases hf
 ·rcases zw0.mp hq with z|z
  ·rw[Lg (ne q z)] at hf;rw[val q z];exact I.some q z par m hf
  ·rw[zwt.mp z,N4] at hf;cases hf;rw[zwt.mp z];exact⟨t,valn,ht⟩
theorem zcl(H:Hp)(p:Nat):Wj H [((inl (p:Int):Key),V.non)] [p] fun _=>none :=
 ⟨rfl,fun q hq _=>by rw[zwt.mp hq];exact Xl rfl,fun q _ par n hf=>nomatch hf⟩
theorem zcm:T7 rows gs p [p] (fun _=>0) fun _=>none:=⟨rfl,fun q hq hne=>absurd (zwt.mp hq) hne⟩
end
section
variable{rows:#[A]}{gs:#[a]}
theorem Ch.somes{q e:Nat}{st:#[E]}{w:#[D]}(h:#[aj]):w≠none->∀ s∈st,s.2≠none:=by
 induction h with
 | one q w=>intro hw s hs;simp at hs;subst hs;exact hw
 | step a h ih =>
   intro hw s hs;rcases zwy.mp hs with rfl|z
   ·exact fun z=>nomatch z
   ·exact ih hw s z
theorem Ch.near{q e:Nat}{st:#[E]}{w:#[D]}(h:#[aj]):∀ s∈st,s.1=q\/∃ m,gs[s.1]?=#[b,V.int,m]:=by
 induction h with
 | one q w=>intro s hs;simp at hs;subst hs;exact .inl rfl
 | @step q q' e n st w a h ih =>
   intro s hs;rcases zwy.mp hs with rfl|z
   ·exact .inl rfl
   ·rcases ih s z with z|z
    ·exact .inr ⟨n,by rw[z];exact a.2⟩
    ·exact .inr z
theorem Ch.single{q e:Nat}{st:#[E]}{w:#[D]}(h:#[aj])(hl:st.length<=1):st=[(q,w)]/\e=q:=by
 cases h with
 | one=>exact#[w,rfl]
 | step a h=>have:=h.pos;rw[zw9] at hl;omega
structure Tu(rows:#[A])(gs:#[a])(i:Nat):Prop where
 fill:Ye rows gs
 ahead:∀ q n,gs[q]?=#[b,V.int,n]->q<i
 stuck:∀ p,p<i->gs[p]?=some .non->Ql rows gs p
theorem Tu.non(F:Tu rows gs i)(hk:i<=k)(hr:k<rows.length):gs[k]?=some .non:=by
 have hl:k<gs.length:=by rw[F.fill.len];exact hr
 have e:=zwp hl;rcases F.fill.one _ (zxd hl) with z|⟨n,z⟩
 ·rw[e,z]
 ·rw[z] at e;have:=F.ahead k n e;omega
theorem Tu.step{i e:Nat}{st:#[E]}{w:#[D]}(F:Tu rows gs i)(hi:i<rows.length)(c:Y4 rows gs i st e w):Tu rows (Yj st gs) (i+1):=by
 have hnon:=F.non (zw1 i) hi;cases w with
 | none =>
   obtain⟨h1,h2,h3⟩:=c.none rfl;have hei:e=i:=by
    have hge:=h2 i 0 .nil;rcases(show e=i\/∃ m,gs[e]?=some (V.int m) by
     obtain⟨s,hs,rfl⟩:=zwx.mp c.ch.last;exact c.ch.near s hs) with z|⟨m,z⟩
    ·exact z
    ·have:=F.ahead e m z;omega
   have hst:st=[(i,none)]:=(c.ch.single (by have:=h3 0 (hei▸.nil);omega)).1;have hl:i<gs.length:=by rw[F.fill.len];exact hi
   have same:Yj st gs=gs:=by
    rw[hst];show gs.set i .non=gs;refine List.ext_getElem? fun k=>?_;by_cases hk:i=k
    ·subst hk;rw[zx0 hl,hnon]
    ·rw[zxy hk]
   rw[same];refine⟨F.fill,fun q n hq=>zyi (F.ahead q n hq),fun p hp hpn=>?_⟩;by_cases hpi:p=i
   ·subst hpi;exact zg6 F.fill hi F.ahead h1
   ·exact F.stuck p ⋯ hpn
 | some n0 =>
   obtain⟨hf,_⟩:=c.free n0 rfl;have nd:=c.nodup;have FP':=c.fill F.fill hi;have at_:∀ k,k<gs.length->(k∉st.map (·.1)/\(Yj st gs)[k]?=gs[k]?)\/∃ w,(k,w)∈st/\(Yj st gs)[k]?=#[b,oV,w]:=fun k hk=>W9 nd hk;have lt:∀ {k:Nat} {v:V},(Yj st gs)[k]?=some v->k<gs.length:=fun {k v} hk=>by
    have:=(zwq.mp hk).1;rw[Wd] at this;exact this
   refine⟨FP',fun q n hq=>?_,fun p hp hpn=>?_⟩
   ·rcases at_ q (lt hq) with ⟨_,h2⟩|⟨w',h1,_⟩
    ·rw[h2] at hq;exact zyi (F.ahead q n hq)
    ·rcases c.ch.near _ h1 with z|⟨m,z⟩
     ·have:q=i:=z;omega
     ·exact zyi (F.ahead q m z)
   ·rcases at_ p (lt hpn) with ⟨h1,h2⟩|⟨w',h1,h2⟩
    ·rw[h2] at hpn;have hpi:p≠i:=fun z=>by
      obtain⟨x,r,e⟩:=c.ch.hd;exact h1 (by rw[z,e];simp)
     exact(F.stuck p ⋯ hpn).behind F.fill c.ch hf hi nd
    ·have:=c.ch.somes (by simp) _ h1;rw[h2] at hpn;cases w' with
     | none=>exact absurd rfl this
     | some m=>cases hpn
theorem E2(rows:#[A]):Tu rows (rows.map fun _=>V.non) 0:=by
 have h0:∀ (k:Nat) (n:Int),(rows.map fun _=>V.non)[k]?≠#[b,V.int,n]:=fun k n h=>by
  rw[zws] at h;cases e:rows[k]? with
  | none=>rw[e] at h;cases h
  | some r=>rw[e] at h;cases h
 exact⟨⟨by rw[zwo],fun x hx=>by obtain⟨_,_,rfl⟩:=zwx.mp hx;exact .inl rfl,fun k n h=>absurd h (h0 k n),fun j k n h=>absurd h (h0 j n)⟩,fun q n h=>absurd h (h0 q n),fun p hp=>absurd hp (zyc _)⟩
theorem Tu.last(F:Tu rows gs rows.length):Vw rows gs:=fun p hp=>F.stuck p (by have:=(zwq.mp hp).1;rw[F.fill.len] at this;exact this) hp
end
end G
namespace L2
open PySem PySem.Spec PyProof.Rows
section
variable{prog:Program}{w:World}{A:Around}{R:Result->Shared->Prop}{I:Addr}{fp wr:#[x]}{n:Nat}{P:Nat->Value->Prop}{St:Nat->Heap->Prop}
theorem zhc(a d:Value):checkBuiltinCall "min" { pos:=[a],kw:=[("default",d)] }=pure ():=by rfl
theorem zff(W:Walks prog w A.in1 I fp wr n P St)(bt:Nat->Nat->Bool)(C:CmpOf prog w A.in1 CmpOp.Lt P bt)(S:Addr)(hS:S∉fp)(kw:List (Str×Value)):∀ (k j:Nat) (s:Shared) (vb:Value) (c:Nat),n-(j+1)=k->j+1<=n->St (j+1) s.heap->P (argBest bt j) vb ->
  s.heap.get? S=some { cls:=Value.type "list",data:=Data.seq #[vb,vb] c } ->
  (∀ (v:Value) (h':Heap) (tk:Nat),P (argBest bt (n-1)) v->(∀ (b:Addr) (o:Obj),¬b∈wr->b≠S->s.heap.get? b=some o->h'.get? b=some o)->R (Except.ok (Flow.ret v)) { heap:=h',gens:=s.gens,drawn:=s.drawn,toks:=tk,os:=s.os }) ->
  codeAny (model prog w) A (Code.builtin "min.loop" { pos:=[Value.ref I,Value.none,Value.ref S],kw:=kw }) R s:=by
 have hSw:S∉wr:=fun z=>hS (W.sub S z);have line:16<sizeLine:=by rw[sizeLine_eq];decide
 intro k
 induction k with
 | zero =>
   intro j s vb c hk hj st hp hs hR;have e:j+1=n:=by omega
   refine codeAny_builtin F.entry_min_loop ?_;rw[Around.under_plainId F.plain_min_loop];refine wpAny_bind (wpAny_seqItems hs rfl ?_);refine wpAny_bind (wpAny_tryCatch (W.done s _ _ (e▸st) fun h' tk hk'=>?_));have hs':h'.get? S=some { cls:=Value.type "list",data:=Data.seq #[vb,vb] c }:=hk' S _ hSw hs;refine wpAny_bind (wpAny_updateSeq hs' rfl ?_ (by show 2<=_;omega) (by show 0<=_;omega));refine wpAny_bind (wpAny_letGo ?_);refine wpAny_pure ?_;have e2:n-1=j:=by omega
   refine hR vb _ tk (by rw[e2];exact hp) fun b o hb hbs q=>?_;rw[Heap.get?_update_other _ _ (Ne.symm hbs)];exact hk' b o hb q
 | succ k ih =>
   intro j s vb c hk hj st hp hs hR;have hlt:j+1<n:=by omega
   refine codeAny_builtin F.entry_min_loop ?_;rw[Around.under_plainId F.plain_min_loop];refine wpAny_bind (wpAny_seqItems hs rfl ?_);refine wpAny_bind (wpAny_tryCatch (W.item (j+1) s _ _ hlt st fun v h' tk hv st' hk'=>?_));have hs':h'.get? S=some { cls:=Value.type "list",data:=Data.seq #[vb,vb] c }:=hk' S _ hSw hs;refine wpAny_bind (wpAny_pure ?_);refine wpAny_bind (wpAny_tryCatch (wpAny_holding (wpAny_bind (C (j+1) (argBest bt j) v vb _ _ _ hv hp (wpAny_bind (wpAny_holding (wpAny_truthy_bool (wpAny_bind (wpAny_letGo (wpAny_pure ?_))))))))));have hb:argBest bt (j+1)=if bt (j+1) (argBest bt j)=true then j+1 else argBest bt j:=rfl
   cases hbt:bt (j+1) (argBest bt j) with
   | false =>
     rw[hbt] at hb;simp only[zyn,if_false] at hb ⊢;refine wpAny_bind (wpAny_letGo (wpAny_pure ⟨plainId_quiet F.plain_min_loop _,?_⟩));refine ih (j+1) _ vb c ⋯ hlt st' (by rw[hb];exact hp) hs' fun v2 h2 tk2 hp2 hk2=>?_;exact hR v2 h2 tk2 hp2 fun b o hb hbs q=>hk2 b o hb hbs (hk' b o hb q)
   | true =>
     rw[hbt] at hb;simp only[if_true] at hb ⊢;refine wpAny_bind (wpAny_updateSeq hs' rfl ?_ (by show 2<=_;omega) (by show 2<=_;omega));refine wpAny_bind (wpAny_letGo (wpAny_pure ⟨plainId_quiet F.plain_min_loop _,?_⟩));have hs2:(h'.update S (Obj.mapSeq fun _=>#[v,v])).get? S=some { cls:=Value.type "list",data:=Data.seq #[v,v] c }:=Heap.get?_update_self _ hs' rfl;refine ih (j+1) _ v c ⋯ hlt (W.frame _ _ _ st' fun b hb o q=>(Heap.get?_update_other _ _ (fun z=>hS (by rw[z];exact hb))).trans q) (by rw[hb];exact hv) hs2 fun v2 h2 tk2 hp2 hk2=>?_;exact hR v2 h2 tk2 hp2 fun b o hb hbs q=>hk2 b o hb hbs ((Heap.get?_update_other _ _ (Ne.symm hbs)).trans (hk' b o hb q))
end
inductive zla(K:Frag)(Q:VK)(vs:#[a])(ks:#[a])(H2:Hp):Prop where
 | mk(l:Addr)(ns:#[o])(y:V)(_:vs=[.ref l])(_:ks=[y])(_:SqL K H2 l (ns.map V.int))(_:(ns=[]->Q y H2))(_:∀ M,M∈ns->(∀ a∈ns,M<=a)->Q (.int M) H2)
def zms(K:Frag)(ta tk:TA):TE:=fun σ H Q=>ta σ H fun vs H1=>tk σ H1 fun ks H2=>zla K Q vs ks H2
theorem zi6{X:Cx}{K:Frag}{e de:Expr}{ta tk:TA}{p kp pos:Pos}(hK:X.K=K)(hcm:X.calm=true)(hg:Gl X "min")(hm:X.mg "min"=none)(ha:PA X [e] ta)(hk:PK X [⟨some "default",de,kp⟩] tk)
  (hs:starEach [e] X.env=[(false,#[G,e])]:=by rfl):PE X (.Call (.Name "min" p) [e] [⟨some "default",de,kp⟩] pos) (zms K ta tk):=by
 subst hK;intro pins s σ H Q I h;refine wpAny_Call_Name_kw (Px I hg hm PyProof.Rows.boot_min ?_);refine PyProof.Rows.callWith_builtin_kwB (by rw[hs];rfl) rfl (PyProof.Rows.evalArgs_kw2 rfl (thn (ha pos pins s σ H _ I h) fun us s1 ⟨vs,H1,I1,r1,q1⟩=>thn (hk pos pins s1 σ H1 _ I1 q1) fun ws s2 ⟨ks,H2,I2,r2,q2⟩=>?_) hs);obtain⟨l,ns,y,rfl,rfl,hl,qe,qm⟩:=q2;obtain⟨u,rfl,ru⟩:=T3 r1;obtain⟨d,rfl,rd⟩:=T3 r2;cases ru;obtain⟨its,r',pl,hz⟩:=I2.list hl;have hlen:its.length=ns.length:=by have:=r'.length;rw[zwo] at this;exact this.symm
 have hil:=pl.isList;have hlt:l<s2.heap.objs.size:=by obtain⟨_,e,_⟩:=hil;exact Heap.lt_size e
 refine wpAny_call (codeAny_call_builtin F.plain_min F.entry_min (wpAny_of_eq (zhc _ _) ?_));refine wpAny_bind (wpAny_of_eq rfl ?_);refine wpAny_bind (wpAny_pure ?_);refine wpAny_bind (wpAny_pyIter_list hil ?_);refine wpAny_bind (wpAny_newObj_type (wpAny_pure ⟨plainId_quiet F.plain_min_loop _,?_⟩));generalize hh3:s2.heap.push { cls:=.type "list_iterator",data:=.fields #[Value.ref l,Value.int 0 0] }=h3;have hJ:h3.get? s2.heap.objs.size=some { cls:=.type "list_iterator",data:=.fields #[Value.ref l,Value.int 0 0] }:=by rw[<- hh3];exact Heap.get?_push_size _ rfl
 have k3:∀ b o,s2.heap.get? b=#[d]->h3.get? b=#[d]:=fun b o e=>by rw[<- hh3];exact #[ac,_,e]
 have sz3:h3.objs.size=s2.heap.objs.size+1:=by rw[<- hh3,Heap.size_push]
 have hi3:h3.IsList l its.toArray:=by rw[<- hh3];exact hil.push _
 show codeAny (model X.prog X.w) X.A (Code.builtin "min.loop" { pos:=[Value.ref s2.heap.objs.size,Value.none,Value.ref h3.objs.size],kw:=[("default",d)] }) _ { s2 with heap:=h3.push { cls:=.type "list",data:=.seq #[] } };generalize hh4:h3.push { cls:=.type "list",dict:=none,data:=.seq #[] }=h4;have hS:h4.get? h3.objs.size=some { cls:=.type "list",data:=.seq #[] 0 }:=by rw[<- hh4];exact Heap.get?_push_size _ rfl
 have k4:∀ b o,h3.get? b=#[d]->h4.get? b=#[d]:=fun b o e=>by rw[<- hh4];exact #[ac,_,e]
 have hJ4:=k4 _ _ hJ;have hi4:h4.IsList l its.toArray:=by rw[<- hh4];exact hi3.push _
 have W:=Walks.list (prog:=X.prog) (w:=X.w) (A:=X.A.in1) (I.ok.hd hcm) s2.heap.objs.size l (zxh hlt) its.toArray;have hSf:h3.objs.size∉[s2.heap.objs.size,l]:=fun z=>by
  have z':h3.objs.size=s2.heap.objs.size\/h3.objs.size=l:=by simpa using z
  have hl2:@LT.lt Nat _ l s2.heap.objs.size:=hlt;rcases z' with z|z
  ·have:(h3.objs.size:Nat)=s2.heap.objs.size:=z;omega
  ·have:(h3.objs.size:Nat)=l:=z;omega
 have st0:h4.IsListIter s2.heap.objs.size l 0/\h4.IsList l its.toArray:=⟨⟨_,hJ4,rfl,rfl⟩,hi4⟩;have keepA:∀ {h':Heap} {tk:Nat},(∀ b o,b∉[s2.heap.objs.size]->b≠h3.objs.size->h4.get? b=some o->h'.get? b=some o)->#[H,H2,{ s2 with heap:=h',toks:=tk }]:=fun {h' tk} k=>I2.kept fun b o e=>by
  have hb:@LT.lt Nat _ b s2.heap.objs.size:=Heap.lt_size e;refine k b o (fun z=>?_) (fun z=>?_) (k4 b o (k3 b o e))
  ·exact zxh hb (zwt.mp z)
  ·rw[sz3] at z;exact zxh (zyi hb) z
 have line:16<sizeLine:=by rw[sizeLine_eq];decide
 have hsz:its.toArray.size=ns.length:=by rw[zw5,hlen]
 refine codeAny_builtin F.entry_min_loop ?_;rw[Around.under_plainId F.plain_min_loop];refine wpAny_bind (wpAny_seqItems hS rfl ?_);cases hn:ns with
 | nil =>
   have hn0:its.toArray.size=0:=by rw[hsz,hn];rfl
   refine wpAny_bind (wpAny_tryCatch (W.done _ _ _ (hn0▸st0) fun h' tk hk'=>?_));refine wpAny_bind (wpAny_rule ?_);exact wpAny_pure ⟨y,H2,keepA (tk:=tk) fun b o h1 _ e=>hk' b o h1 e,rd,qe hn⟩
 | cons n0 nr =>
   have hpos:0<its.toArray.size:=by rw[hsz,hn];simp
   refine wpAny_bind (wpAny_tryCatch (W.item 0 _ _ _ hpos st0 fun v h' tk hv st' hk'=>?_));have hS':h'.get? h3.objs.size=some { cls:=Value.type "list",data:=Data.seq #[] 0 }:=hk' _ _ (fun z=>hSf (zwy.mpr (.inl (zwt.mp z)))) hS;refine wpAny_bind (wpAny_pure ?_);refine wpAny_bind (wpAny_updateSeq hS' rfl ?_ (by show 0<=_;omega) (by show 2<=_;omega));refine wpAny_pure ⟨plainId_quiet F.plain_min_loop _,?_⟩;obtain⟨c,hS2⟩:∃ c,(h'.update h3.objs.size (Obj.mapSeq fun _=>#[v,v])).get? h3.objs.size=some { cls:=Value.type "list",data:=Data.seq #[v,v] c }:=⟨_,Heap.get?_update_self _ hS' rfl⟩;refine zff W (fun i j=>#[g,(fun i=>ns.getD i 0) i<(fun i=>ns.getD i 0) j]) (CmpOf.ints_lt (fun i=>ns.getD i 0) fun i v hv=>Ob r' (by simpa using hv)) h3.objs.size hSf _ _ 0 _ v c rfl hpos (W.frame _ _ _ st' fun b hb o q=>(Heap.get?_update_other _ _ (fun z=>hSf (by rw[z];exact hb))).trans q) hv hS2 fun v2 h2 tk2 hP hk2=>?_;obtain⟨h1,h2'⟩:=argBest_lt (fun i=>ns.getD i 0) (its.toArray.size-1);obtain⟨t,rfl⟩:=Ob r' (show its[argBest (fun i j=>decide ((fun i=>ns.getD i 0) i<(fun i=>ns.getD i 0) j)) (its.toArray.size-1)]?=some v2 by simpa using hP);rw[hsz] at h1 h2' ⊢;generalize argBest (fun i j=>decide ((fun i=>ns.getD i 0) i<(fun i=>ns.getD i 0) j)) (ns.length-1)=b at h1 h2' ⊢;have hnp:0<ns.length:=by rw[hn];simp
   have hb:b<ns.length:=by omega
   have eg:∀ (k:Nat) (hk:k<ns.length),ns.getD k 0=ns[k]'hk:=fun k hk=>by rw[zxb,zwp hk];rfl
   refine⟨.int (ns.getD b 0),H2,keepA (tk:=tk2) fun c o h1 h2 e=>hk2 c o h1 h2 ((Heap.get?_update_other _ _ (Ne.symm h2)).trans (hk' c o h1 e)),#[w,_],qm _ (by rw[eg b hb];exact zxd hb) fun x hx=>?_⟩;obtain⟨k,hk',rfl⟩:=zxq hx;have:=h2' k ⋯;rw[<- eg k hk'];exact this
end L2
namespace G
open PySem PySem.Spec PyProof.Rows L2
def Kl(rows:#[A])(gs:#[a])(line:#[B])(dep:Nat->Nat)(c:Nat):Prop :=
 (c=0/\∀ q∈line,¬ X2 rows gs q)\/(0<c/\(∃ q∈line,X2 rows gs q/\c=dep q+1)/\∀ q∈line,X2 rows gs q->c<=dep q+1)
inductive zam(K:Frag)(vs:#[a])(H:Hp)(Q:VK)(_:XK):Prop where
 | mk(l lg lk:Addr)(ls:#[x])(rows:#[A])(gs:#[a])(line:#[B])(dep:Nat->Nat)(_:vs=[.ref l,.ref lg,.ref lk])(_:#[ap,l])(_:ILs H ls rows)(_:rows.length<=100)(_:(∀ r∈rows,r.length<=1000))(_:#[y,H,lg,gs])(_:(∀ x∈gs,oneV x))(_:H lk=#[b,.dK,Xf line dep])(_:line.Nodup)(_:(∀ q∈line,q<rows.length))(_:∀ c H',Kl rows gs line dep c->#[j]->Q (.int ((c:Nat):Int)) H')
theorem zcn(line:#[B])(dep:Nat->Nat):((Xf line dep).map fun kv=>kV kv.1)=Yf line:=by
 unfold Xf Yf;rw[zxt];rfl
theorem zhd{ts:#[a]}{H:Hp}{st:#[E]}{s:Nat×Option Int}(tl:Z7 H ts (st.map Wz))(h:st.getLast?=some s):∃ t,atI ts (-1)=#[c,t]/\H t=some (.tup (Wz s)):=by
 have hne:st≠[]:=fun z=>by rw[z] at h;cases h
 have hl:ts.length=st.length:=by rw[tl.length,zwo]
 have hpos:0<st.length:=List.length_pos_iff.mpr hne;rw[List.getLast?_eq_getElem?] at h;obtain⟨t,h1,h2⟩:=zdq tl h;refine⟨t,?_,h2⟩;unfold atI ixN;rw[if_neg ⋯,if_pos ⋯];show ts[((-1:Int)+ts.length).toNat]?=_;rw[show ((-1:Int)+ts.length).toNat=st.length-1 by omega];exact h1
theorem Kl.chain{rows:#[A]}{gs:#[a]}{p e c:Nat}{line:#[B]}{dep:Nat->Nat}{st:#[E]}{w:#[D]}(B:#[ar])(D:Done rows gs line dep line.length)(C:Y4 rows gs p st e w)(F:Kl rows gs line dep c):(c=0/\w=none)\/(0<c/\w≠none/\st.length=c):=by
 cases w with
 | none =>
   refine #[M,?_,rfl];rcases F with ⟨h,_⟩|⟨_,⟨q,hq,hf,_⟩,_⟩
   ·exact h
   ·exact absurd hf ((C.none rfl).1 q _ (B.walk q hq))
 | some n =>
   obtain⟨hf,hm⟩:=C.free n rfl;have cw:=C.ch.walk;have cp:=C.ch.pos;obtain⟨el,ed⟩:=B.full D cw;rcases F with ⟨_,h⟩|⟨h0,⟨q,hq,hqf,hc⟩,hmin⟩
   ·exact absurd ⟨n,hf⟩ (h e el)
   ·refine .inr ⟨h0,(fun z=>nomatch z),?_⟩;have h1:=hm q _ (B.walk q hq) hqf;have h2:=hmin e el ⟨n,hf⟩;omega
section
variable{rows:#[A]}{gs:#[a]}
theorem Ch.pred{q e:Nat}{st:#[E]}{w:#[D]}(h:#[aj]):∀ q'∈st.map (·.1),q'=q\/∃ q0 n,(q0,some n)∈st/\gs[q']?=#[b,V.int,n]:=by
 induction h with
 | one q w=>intro q' hq;simp at hq;exact .inl hq
 | @step q q1 e n st w a h ih =>
   intro q' hq;rw[zw2] at hq;rcases zwy.mp hq with z|z
   ·exact .inl z
   ·rcases ih q' z with z|⟨q0,m,h1,h2⟩
    ·exact .inr ⟨q,n,zxk,by rw[z];exact a.2⟩
    ·exact .inr ⟨q0,m,zxc _ h1,h2⟩
theorem Ch.reach{q e:Nat}{st:#[E]}{w:#[D]}(h:#[aj]):∀ q'∈st.map (·.1),∃ k,#[W,q,q',k]:=by
 induction h with
 | one q w=>intro q' hq;simp at hq;rw[hq];exact⟨0,.nil⟩
 | @step q q1 e n st w a h ih =>
   intro q' hq;rw[zw2] at hq;rcases zwy.mp hq with z|z
   ·rw[z];exact⟨0,.nil⟩
   ·obtain⟨k,hk⟩:=ih q' z;exact⟨k+1,.cons a hk⟩
theorem Ch.noneLast{q e:Nat}{st:#[E]}{w:#[D]}(h:#[aj]):∀ k,(k,none)∈st->k=e/\w=none:=by
 induction h with
 | one q w=>intro k hk;simp at hk;exact⟨hk.1,hk.2.symm⟩
 | @step q q1 e n st w a h ih =>
   intro k hk;rcases zwy.mp hk with z|z
   ·cases z
   ·exact ih k z
theorem Ch.along{R:Nat->Prop}(hs:∀ q n q',adjN rows gs q n q'->R q->R q'){q e:Nat}{st:#[E]}{w:#[D]}(h:#[aj]):R q->R e:=by
 induction h with
 | one q w=>exact fun z=>z
 | step a h ih=>exact fun z=>ih (hs _ _ _ a z)
theorem Ch.lastMem{q e:Nat}{st:#[E]}{w:#[D]}(h:#[aj]):(e,w)∈st:=by
 induction h with
 | one q w=>simp
 | step a h ih=>exact zxc _ ih
theorem zhe{st:#[E]}(nd:(st.map (·.1)).Nodup){k:Nat}{w w':#[D]}(h:(k,w)∈st)(h':(k,w')∈st):w=w':=by
 induction st with
 | nil=>cases h
 | cons s r ih =>
   rw[zw2,zxi] at nd;rcases zwy.mp h with z|z<;>rcases zwy.mp h' with z'|z'
   ·rw[<- z] at z';exact(Prod.mk.inj z').2.symm
   ·exact absurd (zwx.mpr ⟨_,z',by rw[<- z]⟩) nd.1
   ·exact absurd (zwx.mpr ⟨_,z,by rw[<- z']⟩) nd.1
   ·exact ih nd.2 z z'
theorem zi7{st:#[E]}{xs:#[a]}(nd:(st.map (·.1)).Nodup){k:Nat}{w:#[D]}(h:(k,w)∈st)(hk:k<xs.length):(Yj st xs)[k]?=#[b,oV,w]:=by
 rcases W9 nd hk with ⟨h1,_⟩|⟨w',h1,h2⟩
 ·exact absurd (zwx.mpr #[L,_,h]) h1
 ·rw[h2,zhe nd h1 h]
theorem Ch.moved{p e:Nat}{st:#[E]}{w:#[D]}(FP:Ye rows gs)(h:Ch rows gs p st e w)(hp:p<rows.length)(hn:gs[p]?=some .non)(nd:(st.map (·.1)).Nodup){q':Nat}{n:Int}(hq:gs[q']?=#[b,V.int,n]) :
  (q'∉st.map (·.1)/\(Yj st gs)[q']?=some (V.int n))\/∃ q0,(q0,some n)∈st/\(Yj st gs)[q0]?=#[b,V.int,n]:=by
 have hl:q' < gs.length:=(zwq.mp hq).1;by_cases hm:q'∈st.map (·.1)
 ·rcases h.pred q' hm with z|⟨q0,m,h1,h2⟩
  ·rw[z,hn] at hq;cases hq
  ·rw[hq] at h2;cases h2;refine .inr ⟨q0,h1,?_⟩;have:=h.lt FP hp _ h1;exact zi7 nd h1 (by rw[FP.len];exact this)
 ·rcases W9 nd hl with ⟨_,h2⟩|⟨w',h1,_⟩
  ·exact #[M,hm,by rw[h2];exact hq]
  ·exact absurd (zwx.mpr #[L,_,h1]) hm
end
section
variable{rows:#[A]}{gs:#[a]}{p e:Nat}{x:Int}{st:#[E]}{w:#[D]}
def without(rows:#[A])(x:Int):#[A]:=rows.map fun r=>r.filter fun n=>#[g,n≠x]
theorem S5{q:Nat}{r':#[o]}(h:(without rows x)[q]?=some r'):∃ r,rows[q]?=some r/\∀ n∈r',n∈r/\n≠x:=by
 unfold without at h;rw[zws] at h;cases e:rows[q]? with
 | none=>rw[e] at h;cases h
 | some r =>
   rw[e] at h;cases h;exact#[q,r,fun n hn=>⟨(zxu.mp hn).1,of_decide_eq_true (zxu.mp hn).2⟩]
theorem V7(FP:Ye rows gs)(hx:gs[p]?=#[e,x]):Ye (without rows x) (gs.set p .non):=FP.without hx _ fun n hn=>by
 have:=of_decide_eq_false hn;rw[Classical.not_not.mp this]
theorem zhf(hx:gs[p]?=#[e,x]):(gs.set p V.non)[p]?=some .non:=by rw[zx0 (zwq.mp hx).1]
theorem zdu(hx:gs[p]?=#[e,x])(h:(gs.set p V.non)[q]?=#[e,n]):gs[q]?=#[e,n]/\q≠p:=by
 by_cases e:p=q
 ·subst e;rw[zhf hx] at h;cases h
 ·rw[zxy e] at h;exact⟨h,Ne.symm e⟩
theorem Lh{q:Nat}{n:Int}(hx:gs[p]?=#[e,x])(h:gs[q]?=#[e,n])(hn:n≠x):(gs.set p V.non)[q]?=#[e,n]:=by
 rw[zxy (fun z=>by subst z;rw[hx] at h;cases h;exact hn rfl)];exact h
theorem zan(FP:Ye rows gs)(SP:Vw rows gs)(hx:gs[p]?=#[e,x])(C:Y4 (without rows x) (gs.set p .non) p st e w):Vw (without rows x) (Yj st (gs.set p .non)):=by
 have FP0:=V7 FP hx;have hRl:(without rows x).length=rows.length:=by unfold without;rw[zwo]
 have hp:p<rows.length:=by have:=(zwq.mp hx).1;rw[FP.len] at this;exact this
 have hp0:p<(without rows x).length:=by rw[hRl];exact hp
 have nd:=C.nodup;have hpm:p∈st.map (·.1):=by obtain⟨y,r,e'⟩:=C.ch.hd;rw[e'];simp
 have moved:=fun {q':Nat} {n:Int} (hq:(gs.set p V.non)[q']?=#[b,V.int,n])=>C.ch.moved FP0 hp0 (zhf hx) nd hq;have closedT:w=none->∀ q,(∃ k,Walk (without rows x) (gs.set p .non) p q k)->q<(without rows x).length/\∀ r,(without rows x)[q]?=some r->∀ n∈r,∃ q2,q2<e/\(Yj st (gs.set p .non))[q2]?=#[e,n]/\∃ k,Walk (without rows x) (gs.set p .non) p q2 k:=by
  rintro hw q ⟨k,hk⟩;obtain⟨c1,c2,c3⟩:=C.none hw;refine⟨?_,fun r hr n hn=>?_⟩
  ·cases hk with
   | nil=>exact hp0
   | snoc _ a =>
     have:=(zwq.mp a.2).1;rw[FP0.len] at this;exact this
  ·by_cases hf:∃ j:Nat,(gs.set p V.non)[j]?=some (V.int n)
   ·obtain⟨q1,hq1⟩:=hf;have w1:Walk (without rows x) (gs.set p .non) p q1 (k+1):=.snoc hk ⟨⟨r,hr,hn⟩,hq1⟩;rcases moved hq1 with ⟨m1,m2⟩|⟨q0,m1,m2⟩
    ·refine⟨q1,?_,m2,_,w1⟩;have:=c2 q1 _ w1;have hne:q1≠e:=fun z=>m1 (by rw[z];exact C.ch.last);omega
    ·obtain⟨k0,hk0⟩:=C.ch.reach q0 (zwx.mpr #[L,_,m1]);refine⟨q0,?_,m2,k0,hk0⟩;have:=c2 q0 _ hk0;have hne:q0≠e:=fun z=>by
      have hl:=C.ch.lastMem;rw[z] at m1;rw[hw] at hl;have:=zhe nd m1 hl;cases this
     omega
   ·exact absurd ⟨n,⟨r,hr,hn⟩,fun j hj=>hf ⟨j,hj⟩⟩ (c1 q k hk)
 intro p0 hpn;have hl0:p0<(gs.set p V.non).length:=by have:=(zwq.mp hpn).1;rw[Wd] at this;exact this
 rcases W9 nd hl0 with ⟨a1,a2⟩|⟨w',a1,a2⟩
 ·rw[a2] at hpn;have hpp:p≠p0:=fun z=>a1 (by rw[<- z];exact hpm);rw[zxy hpp] at hpn;obtain⟨S0,hS,cl⟩:=SP p0 hpn;have inS:∀ q k,#[W,p0,q,k]->S0 q:=fun q k hk=>by
   induction hk with
   | nil=>exact hS
   | @snoc q q' k n h a ih =>
     obtain⟨r,h1,h2⟩:=a.1;obtain⟨q'',_,h3,h4⟩:=(cl q ih).2 r h1 n h2;rw[<- FP.inj q'' q' n h3 a.2];exact h4
  have closed0:∀ q,(∃ k,Walk rows gs p0 q k)->q<rows.length/\∀ r,rows[q]?=some r->∀ n∈r,∃ q',q' < p0/\gs[q']?=#[e,n]/\∃ k,#[W,p0,q',k]:=by
   rintro q ⟨k,hk⟩;refine⟨(cl q (inS q k hk)).1,fun r hr n hn=>?_⟩;obtain⟨q',h1,h2,_⟩:=(cl q (inS q k hk)).2 r hr n hn;exact⟨q',h1,h2,k+1,.snoc hk ⟨⟨r,hr,hn⟩,h2⟩⟩
  have lt0:∀ q,(∃ k,Walk rows gs p0 q k)->q=p0\/q<p0:=by
   rintro q ⟨k,hk⟩;cases hk with
   | nil=>exact .inl rfl
   | @snoc q1 _ k n h a =>
     obtain⟨r,h1,h2⟩:=a.1;obtain⟨q',h3,h4,_⟩:=(closed0 q1 ⟨k,h⟩).2 r h1 n h2;rw[<- FP.inj q' q n h4 a.2];exact .inr h3
  have along:∀ {q:Nat} {st':List (Nat×Option Int)} {w':Option Int},Ch (without rows x) (gs.set p .non) q st' e w'->(∃ k,Walk rows gs p0 q k)->∃ k,#[W,p0,e,k]:=fun {q st' w'} hc =>
   hc.along (R:=fun q=>∃ k,#[W,p0,q,k]) fun q n q' a ⟨k,hk⟩=>by
    obtain⟨r',h1,h2⟩:=a.1;obtain⟨r,h3,h4⟩:=S5 h1;exact⟨k+1,.snoc hk ⟨⟨r,h3,(h4 n h2).1⟩,(zdu hx a.2).1⟩⟩
  by_cases hpath:∃ q∈st.map (·.1),∃ k,#[W,p0,q,k]
  ·obtain⟨q1,hq1,hk1⟩:=hpath;obtain⟨st',c1,_⟩:=C.ch.drop q1 hq1;have hRe:=along c1 hk1;cases hw:w with
   | some n0 =>
     obtain⟨⟨r',f1,f2⟩,f3⟩:=(C.free n0 hw).1;obtain⟨r,g1,g2⟩:=S5 f1;obtain⟨q',_,h2,_⟩:=(closed0 e hRe).2 r g1 n0 (g2 n0 f2).1;exact absurd (Lh hx h2 (g2 n0 f2).2) (f3 q')
   | none =>
     have clT:=closedT hw;obtain⟨_,cmax,_⟩:=C.none hw;have hep:e<p0:=by
      have hfe:∃ m,gs[e]?=#[b,V.int,m]:=by
       obtain⟨s,hs,hse⟩:=zwx.mp C.ch.last;rcases C.ch.near s hs with z|⟨m,z⟩
       ·rw[<- hse,z];exact⟨x,hx⟩
       ·rw[hse] at z;exact⟨m,(zdu hx z).1⟩
      obtain⟨m,hm⟩:=hfe;rcases lt0 e hRe with z|z
      ·rw[z,hpn] at hm;cases hm
      ·exact z
     refine⟨fun q=>(∃ k,Walk rows gs p0 q k)\/∃ k,Walk (without rows x) (gs.set p .non) p q k,#[M,0,.nil],fun q hq=>?_⟩;rcases hq with hq|hq
     ·refine⟨by rw[hRl];exact(closed0 q hq).1,fun r' hr' n hn=>?_⟩;obtain⟨r,g1,g2⟩:=S5 hr';obtain⟨q',h1,h2,h3⟩:=(closed0 q hq).2 r g1 n (g2 n hn).1;rcases moved (Lh hx h2 (g2 n hn).2) with ⟨_,m2⟩|⟨q0,m1,m2⟩
      ·exact⟨q',h1,m2,.inl h3⟩
      ·obtain⟨k0,hk0⟩:=C.ch.reach q0 (zwx.mpr #[L,_,m1]);have:=cmax q0 k0 hk0;exact⟨q0,by omega,m2,.inr ⟨k0,hk0⟩⟩
     ·obtain⟨t1,t2⟩:=clT q hq;refine⟨t1,fun r hr n hn=>?_⟩;obtain⟨q2,h1,h2,h3⟩:=t2 r hr n hn;exact⟨q2,by omega,h2,.inr h3⟩
  ·refine⟨fun q=>∃ k,#[W,p0,q,k],⟨0,.nil⟩,fun q hq=>⟨by rw[hRl];exact(closed0 q hq).1,fun r' hr' n hn=>?_⟩⟩;obtain⟨r,g1,g2⟩:=S5 hr';obtain⟨q',h1,h2,h3⟩:=(closed0 q hq).2 r g1 n (g2 n hn).1;rcases moved (Lh hx h2 (g2 n hn).2) with ⟨_,m2⟩|⟨q0,m1,m2⟩
   ·exact⟨q',h1,m2,h3⟩
   ·rcases W9 nd (show q' < (gs.set p V.non).length from(zwq.mp (Lh hx h2 (g2 n hn).2)).1) with ⟨_,b2⟩|⟨w2,b1,_⟩
    ·exact⟨q',h1,by rw[b2];exact Lh hx h2 (g2 n hn).2,h3⟩
    ·exact absurd ⟨q',zwx.mpr ⟨_,b1,rfl⟩,h3⟩ hpath
 ·rw[a2] at hpn;cases w' with
  | some n=>cases hpn
  | none =>
    obtain⟨b1,b2⟩:=C.ch.noneLast p0 a1;subst b1;exact⟨_,⟨0+(C.ch.reach p0 (zwx.mpr ⟨_,a1,rfl⟩)).choose,by rw[Nat.zero_add];exact(C.ch.reach p0 (zwx.mpr ⟨_,a1,rfl⟩)).choose_spec⟩,closedT b2⟩
end
end G
namespace L2
open PySem PySem.Spec PyProof.Rows
inductive zi8(x:V)(vs:#[a])(H:Hp)(Q:VK):Prop where
 | mk(d e:Addr)(kvs more:#[U])(_:x=.ref d)(_:vs=[.ref e])(_:d≠e)(_:H d=#[b,.dK,kvs])(_:H e=#[b,.dK,more])(_:kvs.length+more.length<=sizeLine)(_:Q .non (upd H d (.dK (Vl kvs more))))
theorem zfg:MtM X "dict.update" zi8:=by
 intro pins s σ H x vs v us Q I rx rv h;obtain⟨d,e,kvs,more,rfl,rfl,ne,hd,he,hz,q⟩:=h;cases rx;obtain⟨u,rfl,ru⟩:=rv.one;cases (show u=Value.ref e from ru);obtain⟨z1,lo1,vs1,r1,dd1⟩:=A4 I.hok hd;obtain⟨z2,lo2,vs2,r2,dd2⟩:=A4 I.hok he;refine call_meetsIn PySem.F.slot_dict_update dd1.typeIs PySem.F.entry_dict_update (PySem.F.args_dict_update_2 _ _) (meets_dict_update (Ys X.prog X.w) d e ne lo2) ⟨vs1,vs2,dd1,dd2,by rw[<- r1.length,<- r2.length];exact hz,fun h' dd1' dd2' hs=>?_⟩;have hex:∃ q,h'.get? d=some q:=let ⟨q,_,_,hq,_⟩:=dd1';⟨q,hq⟩;refine⟨.non,_,O2 (t':=s.toks) I (by rw[hd];exact True.intro) hs hex (Gb ?_ lo1 (r2.merge r1) dd1'),rfl,q⟩;exact zw4 (Rb more kvs) hz
section
variable{prog:Program}{w:World}{A:Around}{E:Value->Shared->Prop}{s:Shared}{T:String}{r d:Addr}{n:Nat}{P:Nat->Value->Prop}{OK:Heap->Prop}
open PySem.W in
theorem zhg(K:KdlSrc prog w T r d n P OK)(hh:A.handled=none)(hok:OK s.heap)(hn:n<=sizeLine)
  (h:∀ h' tk (acc:Array Value),(∀ b o,s.heap.get? b=some o->h'.get? b=some o)->s.heap.objs.size<=h'.objs.size->ItemsOf P acc n->Q acc.toList { s with heap:=h',toks:=tk }) :
  wpAny (model prog w) A (collect (.ref r)) Q E s:=by
 unfold collect;have hlt:=K.there _ hok;refine wpAny_bind (wpAny_runValue (codeAny_builtin entry_proto_collect' ?_));show wpAny _ _ (do again (.builtin "list.__iadd__" ⟨[<- newList [],.ref r],[]⟩)) _ _ s;refine wpAny_bind (wpAny_newList (wpAny_pure ⟨Code.quiet_builtin _ ⋯,codeAny_builtin entry_list_iadd' ?_⟩));show wpAny _ _ (Builtin.List.listExtendWith (.ref s.heap.objs.size) (.ref r) (.ref s.heap.objs.size)) _ _ { s with heap:=s.heap.push (seqObj "list" #[] 0) };have hS:(s.heap.push (seqObj "list" #[] 0)).get? s.heap.objs.size=some { cls:=.type "list",data:=.seq #[] 0 }:=Heap.get?_push_size _ rfl;rw[Around.under_plainId (show plainId "list.__iadd__"=true by decide +kernel) _];refine kdl_extend (R:=fun r s'=>match r with
   | .ok (.ret v)=>wpAny (model prog w) A (match v with
         | Value.ref a=>do
           let o <- load a
           match o.data with
            | Data.seq xs _=>pure xs.toList
            | _=>unsupported "internal:collect"
         | _=>unsupported "internal:collect") Q E s'
   | .ok _=>False
   | .error e=>E e s') (s:={ s with heap:=s.heap.push (seqObj "list" #[] 0) }) K hh (K.keep _ _ hok fun b _ o e=>#[ac,_,e]) s.heap.objs.size (Nat.ne_of_gt hlt.1) (Nat.ne_of_gt hlt.2) _ 0 hS (fun h' tk acc c' hk hS' hacc=>?_) hn
 show #[X,prog,w,A,(do
   let o <- load s.heap.objs.size
   match o.data with
   | .seq xs _=>pure xs.toList
   | _=>unsupported "internal:collect"),Q,E,_]
 refine wpAny_bind (wpAny_load hS' ?_);exact wpAny_pure (h h' tk acc (fun b o e=>hk b o (zxh (Heap.lt_size e)) #[ac,_,e]) (zy6 (Heap.lt_size hS')) hacc)
theorem zdv:∀ {its:List Value} {ns:List Int},its.length=ns.length->(∀ (j:Nat) (v:Value),its[j]?=some v->∃ t,v=.int (ns.getD j 0) t)->IntsAre its ns
 | [],[],_,_=>.nil
 | v :: its,n :: ns,hl,h=>by
   obtain⟨t,e⟩:=h 0 v rfl;rw[e];exact .cons _ t (zdv (by simpa using hl) fun j u hu=>h (j+1) u hu)
 | [],_ :: _,hl,_=>by simp at hl
 | _ :: _,[],hl,_=>by simp at hl
theorem Qp(hc:X.calm=true):V5 X (.builtin "sorted") (fun xs H Q=>∃ (a:Addr) (kvs:List (Key×V)) (ns:List Int),xs=[.ref a]/\Rd H a (.dK kvs)/\kvs.map (·.1)=ns.map (inl:Int->Key)/\ns.length<64/\∀ (l:Addr) (ns':List Int),H l=none->ns'.Perm ns->ns'.Pairwise (·<=·)->Q (.ref l) (upd H l (.lst (ns'.map V.int)))):=by
 intro pins s σ H xs us Q I r h;obtain⟨a,kvs,ns,rfl,ha,hns,h64,q⟩:=h;obtain⟨u,rfl,ru⟩:=T3 r;cases (show u=Value.ref a from ru);obtain⟨hz,lo,vs,kv,o,es,ep,e1,e2⟩:=Pj I.hok ha;have hl:kvs.length=vs.length:=KV.length kv;have hnl:ns.length=kvs.length:=by have:=congrArg List.length hns;rw[zwo,zwo] at this;exact this.symm
 refine Calls.call_function_entry kind_sorted plain_sorted entry_sorted (args_sorted1 _) ?_;unfold Builtin.«sorted»;refine wpAny_bind (m:=checkCount "sorted" 1 1 _) (wpAny_pure ?_);refine wpAny_bind (zhg (PySem.W.kdl_dict (knd:=Ys X.prog X.w) (kvs:=vs) (ep:=ep) lo) (I.ok.hd hc) ⟨o,es,e1,e2⟩ (by rw[<- hl];exact hz) fun h' tk acc hk hsz hacc=>?_);have hI:IntsAre acc.toList ns:=by
  refine zdv (by have:=hacc.1;simp only[Array.length_toList];omega) fun j v hv=>?_;obtain⟨k,y,hk1,hk2⟩:=hacc.2 j v (by rw[<- Array.getElem?_toList];exact hv);have ek:=congrArg (·[j]?) (KV.keys kv);have en:=congrArg (·[j]?) hns;simp only[zws,hk1,zxv] at ek en;cases hkv:kvs[j]? with
  | none=>rw[hkv] at ek;cases ek
  | some p =>
    rw[hkv] at ek en;cases hn:ns[j]? with
    | none=>rw[hn] at en;cases en
    | some m =>
      rw[hn] at en;have e3:p.1=k:=Option.some.inj ek;have e4:p.1=inl m:=Option.some.inj en;rw[<- e3,e4] at hk2;rw[zxb,hn];rcases Y3 (show Hn (inl m:Key) v=true from hk2) with ⟨i,t,e5,e6⟩|⟨z,t,e5,_⟩
      ·cases e5;exact⟨t,e6⟩
      ·cases e5
 refine wpAny_bind (wpAny_newList ?_);have hoL:(h'.push (seqObj "list" acc.toList.toArray 0)).get? h'.objs.size=some (seqObj "list" acc.toList.toArray 0):=Heap.get?_push_size _ rfl;show wpAny _ _ _ _ _ { s with heap:=h'.push (seqObj "list" acc.toList.toArray 0),toks:=tk };refine wpAny_bind (wpAny_holding (wpAny_call_entry slot_list_sort #[L,_,hoL] entry_list_sort (list_sort_tree hoL hI (by simp only[Array.length_toList];have:=hacc.1;omega) fun out ns' a1 a2 a3=>#[q,_,?_]) (args_list_sort _)));have hge:s.heap.objs.size<=h'.objs.size:=hsz;have hf:H h'.objs.size=none:=I.hok.fresh hge;refine wpAny_pure ⟨_,rfl,.ref h'.objs.size,upd H h'.objs.size (.lst (ns'.map V.int)),I.laid (t':=tk) (fun b u eb=>?_) hge ?_,rfl,q _ ns' hf a2 a3⟩
 ·have e0:=hk b u eb;have hb:b<(h'.push (seqObj "list" acc.toList.toArray 0)).objs.size:=Heap.lt_size (Heap.get?_push_of_some _ e0);rw[sortedHeap_old (zxh (Heap.lt_size e0)) hb];exact #[ac,_,e0]
 ·obtain⟨e9,h9⟩:=sortedHeap_at (out:=out) hoL;exact⟨by rw[zwo,a2.length_eq];exact zy6 (X4 ⋯),out.toList,e9,Kc a1,h9⟩
end
end L2
namespace G
open PySem PySem.Spec PyProof.Rows L2
section
variable{α:Type}[DecidableEq α]{f:α->Key}
def Gq(acc:List α)(x:α):List α:=if x∈acc then acc else acc++[x]
def Ct(pl ml:List α):List α:=ml.foldl Gq pl
theorem Gs(hf:∀ a b,f a=f b->a=b)(h:kvs.map (·.1)=pl.map f)(x:α)(v:V):(putK kvs (f x) v).map (·.1)=(Gq pl x).map f:=by
 have ha:(kvs.any fun kv=>#[g,kv.1=f x])=true↔x∈pl:=by
  rw[zy1];constructor
  ·rintro⟨kv,h1,h2⟩;have:kv.1∈kvs.map (·.1):=zwx.mpr ⟨_,h1,rfl⟩;rw[h] at this;obtain⟨y,h3,h4⟩:=zwx.mp this;rw[<- hf _ _ (h4.trans (of_decide_eq_true h2))];exact h3
  ·intro hx;have:f x∈kvs.map (·.1):=by rw[h];exact zwx.mpr #[L,_,hx]
   obtain⟨kv,h1,h2⟩:=zwx.mp this;exact⟨kv,h1,zwu h2⟩
 unfold putK Gq;by_cases hx:x∈pl
 ·rw[if_pos (ha.mpr hx),if_pos hx,<- h,zxt];refine zx7 fun kv _=>?_;show (if kv.1=f x then (kv.1,v) else kv).1=kv.1;split<;>rfl
 ·rw[#[h,fun z=>hx (ha.mp z)],#[h,hx],zwv,zwv,h];rfl
theorem Gu(hf:∀ a b,f a=f b->a=b):∀ {more kvs:List (Key×V)} {pl ml:List α},kvs.map (·.1)=pl.map f->more.map (·.1)=ml.map f->(Vl kvs more).map (·.1)=(Ct pl ml).map f
 | [],kvs,pl,[],h,_=>h
 | p :: more,kvs,pl,x :: ml,h,h2=>by
   rw[zw2,zw2] at h2;injection h2 with e1 e2;have:=Gs hf h x p.2;rw[<- e1] at this;exact Gu hf (kvs:=putK kvs p.1 p.2) (pl:=Gq pl x) (ml:=ml) this e2
 | [],_,_,_ :: _,_,h2=>by simp at h2
 | _ :: _,_,_,[],_,h2=>by simp at h2
theorem Gv{pl:List α}{x y:α}:y∈Gq pl x↔y∈pl\/y=x:=by
 unfold Gq;by_cases h:x∈pl
 ·rw[if_pos h];exact⟨.inl,fun z=>z.elim id fun e=>by rw[e];exact h⟩
 ·rw[#[h,h]];simp
theorem N5{pl:List α}{x:α}(h:pl.Nodup):(Gq pl x).Nodup:=by
 unfold Gq;by_cases hx:x∈pl
 ·rw[if_pos hx];exact h
 ·rw[#[h,hx],List.nodup_append];exact⟨h,by simp,fun a ha b hb e=>hx (by rw[zwt.mp hb] at e;rw[<- e];exact ha)⟩
theorem Cu:∀ {ml pl:List α} {y:α},y∈Ct pl ml↔y∈pl\/y∈ml
 | [],pl,y=>by unfold Ct;simp
 | x :: ml,pl,y=>by
   show y∈Ct (Gq pl x) ml↔_;rw[Cu,Gv,zwy,or_assoc]
theorem Jk:∀ {ml pl:List α},pl.Nodup->(Ct pl ml).Nodup
 | [],pl,h=>h
 | x :: ml,pl,h=>Jk (ml:=ml) (N5 h)
end
theorem zmt:∀ a b:Int,(inl a:Key)=inl b->a=b:=fun a b h=>inl.inj h
theorem znf:∀ a b:Nat,(inl (a:Int):Key)=inl (b:Int)->a=b:=fun a b h=>by have:=inl.inj h;omega
theorem Gw{α:Type}[DecidableEq α]{a b:List α}(ha:a.Nodup)(hb:b.Nodup)(h:∀ x,x∈a↔x∈b):a.length=b.length :=
 Nat.le_antisymm (ha.length_le_of_subset fun x hx=>(h x).mp hx) (hb.length_le_of_subset fun x hx=>(h x).mpr hx)
section
variable{rows:#[A]}{gs:#[a]}
def zao(rows:#[A])(gs:#[a]):Prop:=∀ p,gs[p]?=some .non->∀ q k,#[W,p,q,k]->¬ X2 rows gs q
structure Gx(rows:#[A])(gs:#[a])(ps:#[B])(rs:#[o]):Prop where
 up:ps.Pairwise (· < ·)
 lt:∀ p∈ps,p<rows.length
 rup:rs.Pairwise (· < ·)
 all:∀ n,n∈rs↔∃ p∈ps,∃ r,rows[p]?=some r/\n∈r
 cnt:ps.length=rs.length+(W8 gs).length
 nil:W8 gs=[]->ps=[]
 gap:∀ p,gs[p]?=some .non->p∈ps
 has:∀ n∈rs,∃ p∈ps,gs[p]?=#[e,n]
theorem T8:p∈W8 gs↔gs[p]?=some .non:=by
 unfold W8;rw[zxu,zxr];constructor
 ·exact fun h=>of_decide_eq_true h.2
 ·exact fun h=>⟨(zwq.mp h).1,zwu h⟩
theorem zco:(W8 gs).Nodup:=List.nodup_range.filter _
def zap(x:Option V):#[D]:=match x with|some (.int n)=>some n|_=>none
theorem Qq:zap x=some n↔x=#[e,n]:=by
 unfold zap;constructor
 ·intro h;split at h
  ·cases h;rfl
  ·cases h
 ·intro h;rw[h]
theorem zjy:∀ {ps:List Nat},(∀ p∈ps,∃ x,gs[p]?=some x/\oneV x)->ps.length=(ps.filterMap fun p=>zap gs[p]?).length+(ps.filter fun p=>decide (gs[p]?=some .non)).length
 | [],_=>rfl
 | p :: ps,h=>by
   have ih:=zjy (ps:=ps) fun q hq=>h q (zxc _ hq);obtain⟨x,hx,ho⟩:=h p zxk;rcases ho with rfl|⟨n,rfl⟩
   ·rw[List.filterMap_cons_none (by rw[hx];rfl),zx9 (by rw[hx];simp),zw9,zw9,ih];omega
   ·rw[List.filterMap_cons_some (b:=n) (by rw[hx];rfl),zya (by rw[hx];simp),zw9,zw9,ih];omega
theorem Th(FP:Ye rows gs):∀ {ps:List Nat},ps.Nodup->(ps.filterMap fun p=>zap gs[p]?).Nodup
 | [],_=>zyo
 | p :: ps,h=>by
   rw[zxi] at h;rw[zyq];split
   ·exact Th FP h.2
   ·rename_i n hn;rw[zxi];refine⟨fun hm=>?_,Th FP h.2⟩;obtain⟨q,hq,e⟩:=zyl.mp hm;have:=FP.inj p q n (Qq.mp hn) (Qq.mp e);rw[this] at h;exact h.1 hq
theorem zhh(FP:Ye rows gs)(NA:zao rows gs){pl:#[B]}{rl:#[o]}(hpn:pl.Nodup)(hpm:∀ q,q∈pl↔∃ g k,gs[g]?=some .non/\#[W,g,q,k])(hrn:rl.Nodup)(hrm:∀ n,n∈rl↔∃ p∈pl,∃ r,rows[p]?=some r/\n∈r)
  {pi rs:#[o]} (h1:pi.Perm (pl.map fun q:Nat=>(q:Int))) (h2:pi.Pairwise (·<=·)) (h3:rs.Perm rl) (h4:rs.Pairwise (·<=·)):∃ ps:#[B],pi=ps.map (fun q:Nat=>(q:Int))/\Gx rows gs ps rs:=by
 have hlt:∀ q∈pl,q<rows.length:=fun q hq=>by
  obtain⟨g,k,hg,hw⟩:=(hpm q).mp hq;cases hw with
  | nil=>rw[<- FP.len];exact(zwq.mp hg).1
  | snoc _ a=>rw[<- FP.len];exact(zwq.mp a.2).1
 have hpi:∀ x∈pi,0<=x:=fun x hx=>by
  obtain⟨q,_,e⟩:=zwx.mp (h1.mem_iff.mp hx);rw[<- e];omega
 have epi:pi=(pi.map Int.toNat).map (fun q:Nat=>(q:Int)):=by
  rw[zxt]
  conv=>lhs;rw[<- List.map_id pi]
  refine zx7 fun x hx=>?_;show x=((x.toNat:Nat):Int);rw[zyr (hpi x hx)]
 have hpp:(pi.map Int.toNat).Perm pl:=by
  have:=h1.map Int.toNat;rw[zxt] at this;have e:pl.map (Int.toNat∘fun q:Nat=>(q:Int))=pl:=by
   conv=>rhs;rw[<- List.map_id pl]
   exact zx7 fun q _=>zw3 q
  rw[e] at this;exact this
 have nps:(pi.map Int.toNat).Nodup:=hpp.nodup_iff.mpr hpn;have strictly:∀ {l:List Int},l.Pairwise (·<=·)->l.Nodup->l.Pairwise (· < ·):=fun {l} a b=>(List.Pairwise.and a b).imp fun ⟨x,y⟩=>by omega
 generalize hps:pi.map Int.toNat=ps at epi hpp nps;have npi:pi.Nodup:=h1.nodup_iff.mpr (List.pairwise_map.mpr (hpn.imp fun h z=>h ⋯));have mem:∀ q,q∈ps↔q∈pl:=fun q=>hpp.mem_iff;have rmem:∀ n,n∈rs↔n∈rl:=fun n=>h3.mem_iff;have nrs:rs.Nodup:=h3.nodup_iff.mpr hrn;have gap:∀ p,gs[p]?=some .non->p∈ps:=fun p hp=>(mem p).mpr ((hpm p).mpr ⟨p,0,hp,.nil⟩);have all:∀ n,n∈rs↔∃ p∈ps,∃ r,rows[p]?=some r/\n∈r:=fun n=>by
  rw[rmem,hrm];exact⟨fun ⟨p,a,b⟩=>⟨p,(mem p).mpr a,b⟩,fun ⟨p,a,b⟩=>⟨p,(mem p).mp a,b⟩⟩
 have has:∀ n∈rs,∃ p∈ps,gs[p]?=#[e,n]:=fun n hn=>by
  obtain⟨p,hp,r,h5,h6⟩:=(all n).mp hn;obtain⟨g,k,hg,hw⟩:=(hpm p).mp ((mem p).mp hp);by_cases hx:∃ j:Nat,gs[j]?=some (V.int n)
  ·obtain⟨j,hj⟩:=hx;exact⟨j,(mem j).mpr ((hpm j).mpr ⟨g,k+1,hg,.snoc hw ⟨⟨r,h5,h6⟩,hj⟩⟩),hj⟩
  ·exact absurd ⟨n,⟨r,h5,h6⟩,fun j hj=>hx ⟨j,hj⟩⟩ (NA g hg p k hw)
 refine⟨ps,epi,?_,fun p hp=>hlt p ((mem p).mp hp),strictly h4 nrs,all,?_,fun hz=>?_,gap,has⟩
 ·have:=strictly h2 npi;rw[epi,List.pairwise_map] at this;exact this.imp fun h=>by omega
 ·have hone:∀ p∈ps,∃ x,gs[p]?=some x/\oneV x:=fun p hp=>by
   have hl:p<gs.length:=by rw[FP.len];exact hlt p ((mem p).mp hp)
   exact⟨_,zwp hl,FP.one _ (zxd hl)⟩
  rw[zjy hone]
  congr 1
  ·refine Gw (Th FP nps) nrs fun n=>?_;rw[zyl];constructor
   ·rintro⟨p,hp,e⟩;have e:=Qq.mp e;obtain⟨r,h5,h6⟩:=FP.may p n e;exact(all n).mpr ⟨p,hp,r,h5,h6⟩
   ·intro hn;obtain⟨p,hp,e⟩:=has n hn;exact⟨p,hp,Qq.mpr e⟩
  ·refine Gw (nps.filter _) zco fun p=>?_;rw[zxu,T8];exact⟨fun h=>of_decide_eq_true h.2,fun h=>⟨gap p h,zwu h⟩⟩
 ·cases hc:ps with
  | nil=>rfl
  | cons p r =>
    have hp:p∈ps:=by rw[hc];simp
    obtain⟨g,_,hg,_⟩:=(hpm p).mp ((mem p).mp hp);have:=T8.mpr hg;rw[hz] at this;cases this
end
inductive zdw(K:Frag)(vs:#[a])(H:Hp)(Q:VK)(_:XK):Prop where
 | mk(l lg:Addr)(ls:#[x])(rows:#[A])(nu:#[o])(gs:#[a])(_:vs=[.ref l,.ref lg])(_:#[ap,l])(_:ILs H ls rows)(_:Uv rows nu)(_:#[y,H,lg,gs])(_:Ye rows gs)(_:zao rows gs)(_:∀ t lp lr ps rs H',H' t=#[J,[.ref lp,.ref lr]]->H' lp=#[I,Yf,ps]->H' lr=#[I,rs.map,V.int]->Gx rows gs ps rs->#[j]->H t=none->H lp=none->H lr=none->lp≠lr->#[S,t])
section
variable{rows:#[A]}{gs:#[a]}{p:Nat}{line:#[B]}{dep:Nat->Nat}{fr:Nat->Option (Nat×Int)}
def byV(x:Option (Nat×Int)):V:=match x with|none=>.non|some y=>.int (y.1:Nat)
structure znv(by_:#[U])(line:#[B])(fr:Nat->Option (Nat×Int)):Prop where
 keys:by_.map (·.1)=line.map fun q:Nat=>(inl (q:Int):Key)
 val:∀ q∈line,valV by_ (inl (q:Int):Key)=some (byV (fr q))
structure znw(rows:#[A])(gs:#[a])(dep:Nat->Nat)(q:Nat)(x:Int)(tl:#[E])(e:Nat)(n:Int):Prop where
 ch:Ch rows gs q ((q,some x) :: tl) e (some n)
 nd:(((q,some x) :: tl).map (·.1)).Nodup
 far:∀ s∈tl,dep q<dep s.1
end
inductive Cv(K:Frag)(vs:#[a])(H:Hp)(Q:VK)(_:XK):Prop where
 | mk(t l lp lr:Addr)(ls:#[x])(rows:#[A])(nu:#[o])(gs:#[a])(ps:#[B])(rs:#[o])(_:vs=[.ref t,.ref l,.int ((W8 gs).length:Nat)])(_:#[N,H,t,[.ref lp,.ref lr]])(_:#[ap,l])(_:ILs H ls rows)(_:Uv rows nu)(_:H lp=some (.lst (Yf ps)))(_:H lr=some (.lst (rs.map V.int)))(_:Gx rows gs ps rs)(_:∀ H',Same H H'->Q (.bl true) H')
section
variable{rows:#[A]}{gs:#[a]}
def zlb(rows:#[A])(gs:#[a])(p:Nat):Prop:=∀ q k,#[W,p,q,k]->¬ X2 rows gs q
structure zmu(rows:#[A])(f k:Nat)(gs:#[a]):Prop where
 fill:Ye rows gs
 seen:∀ j,j<k->(∃ n,gs[(f+j)%rows.length]?=some (.int n))\/zlb rows gs ((f+j)%rows.length)
 later:∀ p,(∀ j,j<k->(f+j)%rows.length≠p)->p<rows.length->gs[p]?=some .non
theorem zhi:(gs.filter fun x=>decide (x=.non)).length=(W8 gs).length:=by
 have e:gs=(List.range gs.length).map fun i=>gs.getD i .non:=by
  apply List.ext_getElem?;intro i;rw[zws];by_cases h:i<gs.length
  ·rw[List.getElem?_range h,zwp h,zxv,zxb,zwp h];rfl
  ·rw[zym ⋯,zym (by rw[zxo];omega)];rfl
 unfold W8
 conv=>lhs;rw[e]
 rw[List.filter_map,zwo]
 congr 1
 refine List.filter_congr fun i hi=>?_;have h:=zxr.mp hi;show #[g,gs.getD i .non=.non]=_;rw[zxb,zwp h];show #[g,gs[i]=.non]=#[g,some gs[i]=some V.non];by_cases z:gs[i]=V.non
 ·rw[zwu z,zwu (congrArg some z)]
 ·rw[zwz z,zwz fun q=>z (Option.some.inj q)]
theorem zaq{a b c:#[o]}(h1:a.Perm b)(h2:a.Pairwise (·<=·))(hb:b.Nodup)(hc:c.Pairwise (· < ·))(h:∀ n,n∈b↔n∈c):a=c:=by
 have nc:c.Nodup:=hc.imp fun h z=>by omega
 have p:b.Perm c:=(List.perm_ext_iff_of_nodup hb nc).mpr h;exact(h1.trans p).eq_of_pairwise (le:=fun a b=>a<=b) (fun a b _ _ x y=>by omega) h2 (hc.imp fun h=>by omega)
end
end G
namespace PySem
theorem Cw(f:α->β):∀ (l:List α) (j:Nat),(l.map f).eraseIdx j=(l.eraseIdx j).map f
 | [],_=>rfl
 | _ :: _,0=>rfl
 | x :: l,j+1=>by
   show f x :: (l.map f).eraseIdx j=f x :: (l.eraseIdx j).map f;rw[Cw f l j]
section
variable{prog:Program}{w:World}{K:Type}[DecidableEq K]{knd:HeapKind prog w K}{A:Around}{E:Value->Shared->Prop}{s:Shared}
theorem N6(hu:knd.room A)(hkey:knd.is s.heap k a)(hm:s.heap.DictOfH knd d xs)(hj:xs[j]?=some (k,p))(hsz:xs.length<=sizeLine)
  (hQ:∀ h',h'.DictOfH knd d (xs.eraseIdx j)->Heap.SameBut d s.heap h'->Q (some (entryOfKey knd (k,p))) { s with heap:=h',toks:=s.toks+knd.draws k }) :
  wpAny (model prog w) A (Builtin.Dict.takeOut d (.ref a)) Q E s:=by
 obtain⟨o,es,ep,ho,hc,hd,he,his,hn⟩:=hm;unfold Builtin.Dict.takeOut
 try with_reducible refine wpAny_holding ?_
 refine wpAny_bind (knd.pyHash hu hkey (wpAny_bind (wpAny_dictFind_heap (s:={ s with toks:=s.toks+knd.draws k }) hu hkey ho hd he his hn ?_ ?_)))
 ·intro hno;exact absurd hj (hno j p)
 ·intro j' p' hj';have ej:=idxH_unique hn hj' hj;subst ej;refine wpAny_bind (wpAny_dictEntries (s:={ s with toks:=s.toks+knd.draws k }) ho hd ?_);rw[entry_at he j',hj];refine wpAny_bind (wpAny_updateDictKeys (hz:=by have e:=size_of_entries he;omega) (s:={ s with toks:=s.toks+knd.draws k }) ho hd (wpAny_pure (hQ _ ⟨_,_,ep+1,Heap.get?_update_self _ ho (Obj.isFreed_of_dict (Obj.data_mapDictKeys hd _)),
   hc.mapDictKeys _,Obj.data_mapDictKeys hd _,?_,?_,?_⟩ (Heap.SameBut.update ..))))
  ·obtain⟨l⟩:=es;simp only at he;simp[he,Cw]
  ·intro x hx;exact knd.keeps (his x (List.mem_of_mem_eraseIdx hx)) ho hd (Heap.SameBut.update ..)
  ·have:=hn.sublist (List.Sublist.map (·.1) (List.eraseIdx_sublist xs j'));exact this
theorem J0(d a:Addr)(k:K) :
  MeetsIn prog w (Builtin.«dict.pop» ⟨[.ref d,.ref a],[]⟩) (fun A R s=>knd.room A.in1/\knd.is s.heap k a/\∃ xs j p,s.heap.DictOfH knd d xs/\xs.length<=sizeLine/\xs[j]?=some (k,p) /\
   ∀ h' t',h'.DictOfH knd d (xs.eraseIdx j)->Heap.SameBut d s.heap h'->R (.ok (.ret p.2)) { s with heap:=h',toks:=t' }) :=
 .of_wp fun A R s ⟨hu,hkey,xs,j,p,hm,hsz,hj,h⟩=>by
  obtain⟨o,es,ep,ho,hc,hd,he,his,hn⟩:=id hm;unfold Builtin.«dict.pop»;refine wpAny_bind ?_;unfold Builtin.Dict.keyAndDefault;refine wpAny_bind (wpAny_notOrdered_dict hm.typeIs ?_);show wpAny _ _ (pure (d,Value.ref a,none)) _ _ s;refine wpAny_pure ?_;have hp:(keyPart (Value.ref a)).isSome=false:=rfl;simp only[hp,zyn,if_false];refine wpAny_bind (wpAny_dictEntries ho hd (wpAny_bind (wpAny_pure ?_)));have hne:es.isEmpty=false:=by
   have h1:=size_of_entries he;have h2:=(zwq.mp hj).1;rw[Array.isEmpty_eq_false_iff_exists_mem];exact⟨es[0]'⋯,Array.getElem_mem _⟩
  simp only[hne,zyn,if_false];refine wpAny_bind (N6 hu hkey hm hj hsz fun h' hm' hs'=>?_);simp only[Option.isNone_some,zyn,if_false];exact wpAny_bind (wpAny_letGo (wpAny_pure #[q,p.2,h h' _ hm' hs']))
end
end PySem
namespace L2
open PySem PySem.Spec PyProof.Rows
theorem KT.drop:∀ {kvs:List (List Key×V)} {xs:List (List Key×Addr×Value)},KT H kvs xs->(xs.map (·.1)).Nodup->valV kvs k=some v->∃ j p,xs[j]?=some (k,p)/\RelV v p.2/\KT H (Wo kvs k) (xs.eraseIdx j):=fun {kvs xs} r=>by
 induction r with
 | nil=>intro _ hv;cases hv
 | @cons p q kvs xs h t ih=>
     intro nd hv
     rw[zw2,zxi] at nd;obtain⟨h1,h2,h3⟩:=h;by_cases e:p.1=k
     ·rw[Xl e] at hv;cases hv;refine⟨0,q.2,by rw[<- e,h1];rfl,h3,?_⟩;show KT H (Wo (p :: kvs) k) xs;have hd:Wo (p :: kvs) k=kvs:=by
       unfold Wo;rw[zya (by simp[e])];rw[List.filter_eq_self];intro kv hkv;refine zwu fun z=>nd.1 ?_;have:∀ {l:List (List Key×V)} {m:List (List Key×Addr×Value)},KT H l m->kv∈l->kv.1∈m.map (·.1):=by
        intro l m q
        induction q with
        | nil=>intro hx;cases hx
        | @cons p' q' ps qs hq t ih =>
          intro hx;rcases zwy.mp hx with z|z
          ·rw[z,hq.1];exact zxk
          ·exact zxc _ (ih z)
       have h9:=this t hkv;rw[z,<- e,h1] at h9;exact h9
      rw[hd];exact t
     ·rw[Y7 e] at hv;obtain⟨j,pp,h4,h5,h6⟩:=ih nd.2 hv;refine⟨j+1,pp,h4,h5,?_⟩;have hd:Wo (p :: kvs) k=p :: Wo kvs k:=by
       unfold Wo;rw[zx9 (by simp[e])]
      rw[hd];exact .cons ⟨h1,h2,h3⟩ h6
inductive zi9(ty:TE)(σ:L2.St)(Q:VK)(x:V)(H1:Hp):Prop where
 | mk(a)(_:x=.ref a)(_:IsD H1 a)(_:ty σ H1 fun y H2=>∃ (kvs:List (List Key×V)) (k:List Key) (b:Addr) (v:V),H2 a=#[b,.dT,kvs]/\y=.ref b/\H2 b=some (.tup (k.map kV))/\valV kvs k=some v/\Q v (upd H2 a (.dT (Wo kvs k))))
def zlc(td ty:TE):TE:=fun σ H Q=>td σ H fun x H1=>zi9 ty σ Q x H1
theorem zhj(hu:X.A.units+1<cLine)(ho:PE X o td)(he:PE X e ty)(m:M1 X o "pop" apos e cpos):PE X (.Call (.Attribute o "pop" apos) [e] [] cpos) (zlc td ty):=by
 intro pins s σ H Q I h;refine wpAny_Call_method m.base m.few m.line PySem.F.plainAttrs_dict PySem.F.slot_dict_pop PySem.F.type_dict_pop (thn (ho pins s σ H _ I h) fun u s1 ⟨x,H1,I1,rx,a,ex,d,q1⟩=>?_);subst ex;obtain rfl:u=Value.ref a:=rx;obtain⟨t1,t2,_⟩:=zb9 I1 d;refine⟨t1,t2,?_⟩;rw[m.trees];refine Calls.callWith_builtin rfl (Calls.evalArgs_plain (Calls.spliced_cons (thn (he pins s1 σ H1 _ I1 q1) fun iv s2 ⟨y,H2,I2,ry,kvs,k,b,v,ea,ey,eb,l,q2⟩=>Calls.spliced_nil ?_)));subst ey;cases (show iv=Value.ref b from ry);obtain⟨z,hd,xs,rel,dd⟩:=zjt I2.hok ea;have hz:xs.length<=sizeLine:=by rw[<- Paired.length rel];exact z
 obtain⟨j,p,hj,rv,rel'⟩:=KT.drop rel (by obtain⟨_,_,_,_,_,_,_,_,hn⟩:=dd;exact hn) l;refine call_meetsIn PySem.F.slot_dict_pop dd.typeIs PySem.F.entry_dict_pop (PySem.F.args_dict_pop_2 _ _) (J0 (knd:=tupleKind (Ys X.prog X.w)) a b k) ⟨tupleKind_room_in1 hu,Nt I2.hok eb,xs,j,p,dd,hz,hj,fun h' t' dd' hs=>⟨v,_,?_,rv,q2⟩⟩;obtain⟨q,es,ep,hq,h2,h3,h4,_,h5⟩:=dd';refine O2 I2 (by rw[ea];exact True.intro) hs ⟨q,hq⟩ ⟨zw4 (A0 kvs k) z,hd,_,rel'.keeps fun c ys ec=>?_,q,es,ep,hq,h2,h3,h4,h5⟩;rw[Zh (Y6 ec ea (fun z=>nomatch z))];exact ec
end L2
namespace G
open PySem PySem.Spec PyProof.Rows L2
structure CA where
 season:Addr
 sheet:Addr
 roster:Addr
 ledger:Addr
 out:Addr
 known:Addr
 many:Addr
 unk:Addr
 manyM:Addr
 same:Addr
 noMatch:Addr
 noRound:Addr
 over:Addr
 seaOver:Addr
 away:Addr
 drawn:Addr
 notDrawn:Addr
 nothing:Addr
 manyD:Addr
theorem T9:1000000<sizeLine:=by rw[sizeLine_eq];decide
abbrev RL:=List (Int×Int×Int)
inductive Vx(H:Hp):RL->#[U]->Prop where
 | nil:Vx H [] []
 | cons {n g c:Int} {t:Addr} {R:RL} {kvs:#[U]} (h:#[N,H,t,[.int g,.int c]]) (r:Vx H R kvs):Vx H ((n,g,c) :: R) ((.inl n,.ref t) :: kvs)
theorem Vx.mono(k:#[al]):∀ {R:RL} {kvs:List (Key×V)},Vx H R kvs->Vx H' R kvs
 | _,_,.nil=>.nil
 | _,_,.cons h r=>.cons (k _ _ h) (Vx.mono k r)
theorem Vx.length:∀ {R:RL} {kvs:List (Key×V)},Vx H R kvs->kvs.length=R.length
 | _,_,.nil=>rfl
 | _,_,.cons _ r=>by simp[Vx.length r]
theorem Vx.keys:∀ {R:RL} {kvs:List (Key×V)},Vx H R kvs->(kvs.map fun kv=>kV kv.1)=R.map fun x=>V.int x.1
 | _,_,.nil=>rfl
 | _,_,.cons _ r=>by rw[zw2,zw2,Vx.keys r];rfl
theorem Vx.snoc(h:#[N,H,t,[.int g,.int c]]):∀ {R:RL} {kvs:List (Key×V)},Vx H R kvs->Vx H (R++[(n,g,c)]) (kvs++[(.inl n,.ref t)])
 | _,_,.nil=>.cons h .nil
 | _,_,.cons h' r=>.cons h' (Vx.snoc h r)
theorem Vx.val_none:∀ {R:RL} {kvs:List (Key×V)},Vx H R kvs->n∉R.map (·.1)->valV kvs (inl n:Key)=none
 | _,_,.nil,_=>rfl
 | _,_,.cons (n:=m) _ r,h=>by
   rw[zw2,zwy,not_or] at h;rw[Y7 fun e=>h.1 (inl.inj e).symm];exact Vx.val_none r h.2
theorem Vx.val_some:∀ {R:RL} {kvs:List (Key×V)},Vx H R kvs->(R.map (·.1)).Nodup->(n,g,c)∈R->∃ t,valV kvs (inl n:Key)=#[c,t]/\H t=#[J,[.int g,.int c]]
 | _,_,.nil,_,h=>by simp at h
 | _,_,.cons (n:=m) (g:=g') (c:=c') (t:=t) ht r,nd,h=>by
   rw[zw2,zxi] at nd;by_cases e:m=n
   ·subst e;rcases zwy.mp h with q|q
    ·cases q;exact⟨t,Xl rfl,ht⟩
    ·exact absurd (zwx.mpr #[L,_,q]) nd.1
   ·rcases zwy.mp h with q|q
    ·cases q;exact absurd rfl e
    ·obtain⟨t',h1,h2⟩:=Vx.val_some r nd.2 q;exact⟨t',by rw[Y7 fun z=>e (inl.inj z)];exact h1,h2⟩
theorem Vx.isSome(e:Vx H R kvs)(nd:(R.map (·.1)).Nodup):(valV kvs (inl n:Key)).isSome=#[g,n∈R.map (·.1)]:=by
 by_cases h:n∈R.map (·.1)
 ·obtain⟨⟨m,g,c⟩,q,rfl⟩:=zwx.mp h;obtain⟨t,h1,_⟩:=e.val_some nd q;rw[h1,zwu h];rfl
 ·rw[e.val_none h,zwz h];rfl
theorem Vx.unsnoc:∀ {R:RL} {kvs:List (Key×V)},Vx H (R++[(n,g,c)]) kvs->n∉R.map (·.1)->Vx H R (Wo kvs (inl n)):=fun {R}=>by
 induction R with
 | nil=>
  intro kvs q _;have q:Vx H [(n,g,c)] kvs:=q;cases q with
  | cons h r=>
   cases r;unfold Wo;rw[zya (by simp)];exact .nil
 | cons p R ih=>
  obtain⟨m,g',c'⟩:=p;intro kvs q hn;have q:Vx H ((m,g',c') :: (R++[(n,g,c)])) kvs:=q;cases q with
  | cons h r=>
    rw[zw2,zwy,not_or] at hn;unfold Wo;rw[zx9 (by
     refine zwu fun z=>hn.1 ?_;exact(inl.inj z).symm)]
    exact .cons h (ih r hn.2)
structure X0(C:Addr)(H:Hp)(p d:Addr)(R:RL):Prop where
 ex:∃ dx kvs,H p=some (.ins C dx [("entries",.ref d)])/\H d=#[b,.dK,kvs]/\Vx H R kvs
 nd:(R.map (·.1)).Nodup
theorem Vy:List.lookup ("entries":Str) ([("entries",V.ref d)]:#[aa])=#[b,.ref,d]:=by simp only[zxs,beq_self_eq_true]
theorem X0.no{d:Addr}{m:Str}(h:¬ m="entries"):List.lookup m ([("entries",V.ref d)]:#[aa])=none:=by
 have e:(m == "entries")=false:=zxg.mpr h;simp only[zxs,e,List.lookup_nil]
theorem X0.keep(h:X0 C H p d R)(kp:∀ o,H p=#[d]->H' p=#[d])(kd:∀ o,H d=#[d]->H' d=#[d])(kt:#[al]):X0 C H' p d R:=by
 obtain⟨⟨dx,kvs,h1,h2,h3⟩,nd⟩:=h;exact⟨⟨dx,kvs,kp _ h1,kd _ h2,h3.mono kt⟩,nd⟩
theorem X0.same(h:X0 C H p d R)(e:#[j]):X0 C H' p d R:=h.keep (fun _ q=>e _ _ q) (fun _ q=>e _ _ q) fun _ _ q=>e _ _ q
def badI(n g c:Int):Prop:=n<1\/999<n\/g<1\/9<g\/c<1\/99<c
instance {n g c:Int}:Decidable (badI n g c):=by unfold badI;infer_instance
def Bu(n g c:Int):Prop:=Yq n/\Yq g/\Yq c
inductive Li(x:Addr)(vs:#[a])(H:Hp)(Q:VK)(E:XK):Prop where
 | mk(v)(lo)(m)(_:vs=[.int v,.int lo,.int m])(_:Yq v)(_:Yq lo)(_:Yq m)(_:(if v<lo\/m<v then #[K,x] else Q .non H))
inductive zdx(ca:CA)(vs:#[a])(H:Hp)(Q:VK)(_:XK):Prop where
 | mk(p)(dx)(_:vs=[.ref p])(_:H p=some (.ins ca.roster dx []))(_:∀ d,H d=none->Q .non (upd (upd H d (.dK [])) p (.ins ca.roster dx [("entries",.ref d)])))
inductive N7(ca:CA)(vs:#[a])(H:Hp)(Q:VK)(E:XK):Prop where
 | mk(p)(d)(R)(n)(g)(c)(_:vs=[.ref p,.int n,.int g,.int c])(_:X0 ca.roster H p d R)(_:Bu n g c)(_:if badI n g c then #[K,ca.out] else if n∈R.map (·.1) then #[K,ca.known] else if 30<=R.length then #[K,ca.many] else Q .non H)
inductive Qr(ca:CA)(vs:#[a])(H:Hp)(Q:VK)(E:XK):Prop where
 | mk(p)(d)(R)(n)(_:vs=[.ref p,.int n])(_:X0 ca.roster H p d R)(_:Yq n)(_:if n∈R.map (·.1) then Q .non H else #[K,ca.unk])
inductive zhk(ca:CA)(vs:#[a])(H:Hp)(Q:VK)(E:XK):Prop where
 | mk(p)(d)(R)(n)(g)(c)(_:vs=[.ref p,.int n,.int g,.int c])(_:X0 ca.roster H p d R)(_:Bu n g c)(_:R.length<=1000)(_:if badI n g c then #[K,ca.out] else if n∈R.map (·.1) then #[K,ca.known] else if 30<=R.length then #[K,ca.many] else ∀ H',X0 ca.roster H' p d (R++[(n,g,c)])->(∀ b o,H b=some o->b≠d->H' b=some o)->Q .non H')
inductive zar(ca:CA)(vs:#[a])(H:Hp)(Q:VK)(_:XK):Prop where
 | mk(p)(d)(R)(n)(g)(c)(_:vs=[.ref p,.int n])(_:X0 ca.roster H p d (R++[(n,g,c)]))(_:∀ H',X0 ca.roster H' p d R->(∀ b o,H b=some o->b≠d->H' b=some o)->Q .non H')
inductive Gy(ca:CA)(vs:#[a])(H:Hp)(Q:VK)(_:XK):Prop where
 | mk(p)(d)(R)(_:vs=[.ref p])(_:X0 ca.roster H p d R)(_:∀ l,H l=none->Q (.ref l) (upd H l (.lst (R.map fun x=>V.int x.1))))
inductive zas(ca:CA)(vs:#[a])(H:Hp)(Q:VK)(E:XK):Prop where
 | mk(p)(d)(R)(n)(_:vs=[.ref p,.int n])(_:X0 ca.roster H p d R)(_:Yq n)(_:(n∉R.map (·.1)->#[K,ca.unk]))(_:∀ g c t,(n,g,c)∈R->H t=#[J,[.int g,.int c]]->Q (.ref t) H)
inductive zat(ca:CA)(vs:#[a])(H:Hp)(Q:VK)(E:XK):Prop where
 | mk(p)(d)(R)(n)(_:vs=[.ref p,.int n])(_:X0 ca.roster H p d R)(_:Yq n)(_:(n∉R.map (·.1)->∀ H',#[j]->E (.ref ca.unk) none H'))(_:∀ g c t H',(n,g,c)∈R->H' t=some (.tup (pV (n,g,c)))->#[j]->H t=none->#[S,t])
structure Z4 where
 ms:List (Int×Int×Int)
 may:#[A]
 gv:#[a]
 gaps:List (Int×#[E])
inductive W5(ok:Addr->Prop)(H:Hp):#[a]->List (Int×#[E])->Prop where
 | nil:W5 ok H [] []
 | cons {t l:Addr} {n:Int} {us:#[a]} {st:#[E]} {ts:#[a]} {G:List (Int×#[E])} (h:#[N,H,t,[.int n,.ref l]]) (hl:#[y,H,l,us]) (tl:Z7 H us (st.map Wz)) (o:ok l) (r:W5 ok H ts G):W5 ok H (.ref t :: ts) ((n,st) :: G)
theorem W5.keep(k:#[ay,x,x])(kt:#[al]):∀ {ts:List V} {G:List (Int×List (Nat×Option Int))},W5 ok H ts G->W5 ok H' ts G
 | _,_,.nil=>.nil
 | _,_,.cons h hl tl o r=>.cons (kt _ _ h) (k _ _ o hl) (tl.mono kt) o (W5.keep k kt r)
theorem W5.imp(k:#[aB]):∀ {ts:List V} {G:List (Int×List (Nat×Option Int))},W5 ok H ts G->W5 ok' H ts G
 | _,_,.nil=>.nil
 | _,_,.cons h hl tl o r=>.cons h hl tl (k _ ⟨_,hl⟩ o) (W5.imp k r)
theorem W5.length:∀ {ts:List V} {G:List (Int×List (Nat×Option Int))},W5 ok H ts G->ts.length=G.length
 | _,_,.nil=>rfl
 | _,_,.cons _ _ _ _ r=>by simp[W5.length r]
theorem W5.snoc{ok:Addr->Prop}{H:Hp}{t l:Addr}{n:Int}{us:#[a]}{st:#[E]}(h:#[N,H,t,[.int n,.ref l]])(hl:#[y,H,l,us])(tl:Z7 H us (st.map Wz))(o:ok l):∀ {ts:List V} {G:List (Int×List (Nat×Option Int))},W5 ok H ts G->W5 ok H (ts++[.ref t]) (G++[(n,st)])
 | _,_,.nil=>.cons h hl tl o .nil
 | _,_,.cons h' hl' tl' o' r=>.cons h' hl' tl' o' (W5.snoc h hl tl o r)
theorem W5.get:∀ {ts:List V} {G:List (Int×List (Nat×Option Int))} {i:Nat} {x:V},W5 ok H ts G->ts[i]?=some x->∃ t l n us st,x=.ref t/\G[i]?=some (n,st)/\H t=#[J,[.int n,.ref l]]/\H l=#[r,us]/\Z7 H us (st.map Wz)/\ok l
 | _,_,_,_,.nil,e=>by simp at e
 | _,_,0,_,.cons h hl tl o _,e=>by simp at e;subst e;exact⟨_,_,_,_,_,rfl,rfl,h,hl,tl,o⟩
 | _,_,i+1,x,.cons _ _ _ _ r,e=>by
   obtain⟨t,l,n,us,st,h1,h2,h3⟩:=W5.get (i:=i) (x:=x) r (by simpa using e);exact⟨t,l,n,us,st,h1,by simpa using h2,h3⟩
def shF(l1 l2 l3 l4:Addr):#[aa]:=[("listed",.ref l1),("lists",.ref l2),("given",.ref l3),("gaps",.ref l4)]
structure ShAt(C:Addr)(ok:Addr->Prop)(H:Hp)(q:Addr)(s:Z4):Prop where
 ex:∃ dx l1 l2 l3 l4 ts ls gts,H q=some (.ins C dx (shF l1 l2 l3 l4))/\H l1=#[r,ts]/\Z7 H ts (s.ms.map pV)/\H l2=#[I,ls.map,V.ref]/\ILs H ls s.may/\H l3=#[r,s.gv]/\H l4=#[r,gts]/\W5 ok H gts s.gaps/\(ok q/\ok l1/\ok l2/\ok l3/\ok l4/\∀ x∈ls,ok x)
theorem ShAt.keep(h:ShAt C ok H q s)(k:#[ay,x,x])(kt:#[al]):ShAt C ok H' q s:=by
 obtain⟨dx,l1,l2,l3,l4,ts,ls,gts,a1,a2,a3,a4,a5,a6,a7,a8,o1,o2,o3,o4,o5,o6⟩:=h;exact⟨dx,l1,l2,l3,l4,ts,ls,gts,k _ _ o1 a1,k _ _ o2 a2,a3.mono kt,k _ _ o3 a4,a5.keep fun x hx o q=>k _ _ (o6 x hx) q,k _ _ o4 a6,k _ _ o5 a7,a8.keep k kt,o1,o2,o3,o4,o5,o6⟩
theorem ShAt.imp(h:ShAt C ok H q s)(k:#[aB]):ShAt C ok' H q s:=by
 obtain⟨dx,l1,l2,l3,l4,ts,ls,gts,a1,a2,a3,a4,a5,a6,a7,a8,o1,o2,o3,o4,o5,o6⟩:=h;exact⟨dx,l1,l2,l3,l4,ts,ls,gts,a1,a2,a3,a4,a5,a6,a7,a8.imp k,k _ ⟨_,a1⟩ o1,k _ ⟨_,a2⟩ o2,k _ ⟨_,a4⟩ o3,k _ ⟨_,a6⟩ o4,k _ ⟨_,a7⟩ o5,fun x hx=>k _ (let ⟨_,z⟩:=a5.has hx;⟨_,z⟩) (o6 x hx)⟩
theorem ShAt.same(h:ShAt C ok H q s)(e:#[j]):ShAt C ok H' q s:=h.keep (fun _ _ _ q=>e _ _ q) fun _ _ q=>e _ _ q
def ShO(C:Addr)(ok:Addr->Prop)(H:Hp)(v:V)(s:Option Z4):Prop:=match s with|none=>v=.non|some s=>∃ q,v=.ref q/\ShAt C ok H q s
theorem ShO.keep(h:ShO C ok H v s)(k:#[ay,x,x])(kt:#[al]):ShO C ok H' v s:=by
 cases s with
 | none=>exact h
 | some s=>obtain⟨q,e,h⟩:=h;exact⟨q,e,h.keep k kt⟩
theorem ShO.imp(h:ShO C ok H v s)(k:#[aB]):ShO C ok' H v s:=by
 cases s with
 | none=>exact h
 | some s=>obtain⟨q,e,h⟩:=h;exact⟨q,e,h.imp k⟩
inductive ShL(C:Addr)(ok:Addr->Prop)(H:Hp):#[a]->List Z4->Prop where
 | nil:ShL C ok H [] []
 | cons {q:Addr} {s:Z4} {vs:#[a]} {ss:List Z4} (h:ShAt C ok H q s) (r:ShL C ok H vs ss):ShL C ok H (.ref q :: vs) (s :: ss)
theorem ShL.keep(k:#[ay,x,x])(kt:#[al]):∀ {vs:List V} {ss:List Z4},ShL C ok H vs ss->ShL C ok H' vs ss
 | _,_,.nil=>.nil
 | _,_,.cons h r=>.cons (h.keep k kt) (ShL.keep k kt r)
theorem ShL.imp(k:#[aB]):∀ {vs:List V} {ss:List Z4},ShL C ok H vs ss->ShL C ok' H vs ss
 | _,_,.nil=>.nil
 | _,_,.cons h r=>.cons (h.imp k) (ShL.imp k r)
theorem ShL.length:∀ {vs:List V} {ss:List Z4},ShL C ok H vs ss->vs.length=ss.length
 | _,_,.nil=>rfl
 | _,_,.cons _ r=>by simp[ShL.length r]
theorem ShL.snoc(h:ShAt C ok H q s):∀ {vs:List V} {ss:List Z4},ShL C ok H vs ss->ShL C ok H (vs++[.ref q]) (ss++[s])
 | _,_,.nil=>.cons h .nil
 | _,_,.cons h' r=>.cons h' (ShL.snoc h r)
theorem ShL.getR:∀ {vs:List V} {ss:List Z4} {i:Nat} {s:Z4},ShL C ok H vs ss->ss[i]?=some s->∃ q,vs[i]?=#[c,q]/\ShAt C ok H q s
 | _,_,_,_,.nil,e=>by simp at e
 | _,_,0,_,.cons h _,e=>by simp at e;subst e;exact#[q,_,h]
 | _,_,i+1,x,.cons _ r,e=>by
   obtain⟨t,h1,h2⟩:=ShL.getR (i:=i) (s:=x) r (by simpa using e);exact⟨t,by simpa using h1,h2⟩
abbrev Tv:=Str×Int×Int
def Vj(d:Tv):#[a]:=[.str d.1,.int d.2.1,.int d.2.2]
inductive Us(C:Addr)(ok:Addr->Prop)(H:Hp):#[a]->List (Tv×Option Z4)->Prop where
 | nil:Us C ok H [] []
 | cons {t u:Addr} {v:V} {d:Tv} {s:Option Z4} {vs:#[a]} {ss:List (Tv×Option Z4)} (h:#[N,H,t,[.ref u,v]]) (hu:H u=some (.tup (Vj d))) (hs:ShO C ok H v s) (r:Us C ok H vs ss):Us C ok H (.ref t :: vs) ((d,s) :: ss)
theorem Us.keep(k:#[ay,x,x])(kt:#[al]):∀ {vs:List V} {ss:List (Tv×Option Z4)},Us C ok H vs ss->Us C ok H' vs ss
 | _,_,.nil=>.nil
 | _,_,.cons h hu hs r=>.cons (kt _ _ h) (kt _ _ hu) (hs.keep k kt) (Us.keep k kt r)
theorem Us.length:∀ {vs:List V} {ss:List (Tv×Option Z4)},Us C ok H vs ss->vs.length=ss.length
 | _,_,.nil=>rfl
 | _,_,.cons _ _ _ r=>by simp[Us.length r]
theorem Us.snoc(h:#[N,H,t,[.ref u,v]])(hu:H u=some (.tup (Vj d)))(hs:ShO C ok H v s):∀ {vs:List V} {ss:List (Tv×Option Z4)},Us C ok H vs ss->Us C ok H (vs++[.ref t]) (ss++[(d,s)])
 | _,_,.nil=>.cons h hu hs .nil
 | _,_,.cons h' hu' hs' r=>.cons h' hu' hs' (Us.snoc h hu hs r)
theorem Us.unsnoc:∀ {vs:List V} {ss:List (Tv×Option Z4)},Us C ok H vs (ss++[(d,s)])->∃ vs' t u v,vs=vs'++[.ref t]/\H t=#[J,[.ref u,v]]/\H u=some (.tup (Vj d))/\ShO C ok H v s/\Us C ok H vs' ss:=fun {vs ss}=>by
 induction ss generalizing vs with
 | nil=>
  intro q;have q:Us C ok H vs [(d,s)]:=q;cases q with
  | cons h hu hs r=>cases r;exact⟨[],_,_,_,rfl,h,hu,hs,.nil⟩
 | cons x ss ih=>
  intro q;have q:Us C ok H vs (x :: (ss++[(d,s)])):=q;cases q with
  | cons h hu hs r=>obtain⟨vs',t,u,v,e,a1,a2,a3,a4⟩:=ih r;exact⟨_ :: vs',t,u,v,by rw[e];rfl,a1,a2,a3,.cons h hu hs a4⟩
theorem Us.get:∀ {vs:List V} {ss:List (Tv×Option Z4)} {i:Nat} {x:V},Us C ok H vs ss->vs[i]?=some x->∃ t u v d s,x=.ref t/\ss[i]?=some (d,s)/\H t=#[J,[.ref u,v]]/\H u=some (.tup (Vj d))
 | _,_,_,_,.nil,e=>by simp at e
 | _,_,0,_,.cons h hu _ _,e=>by simp at e;subst e;exact⟨_,_,_,_,_,rfl,rfl,h,hu⟩
 | _,_,i+1,x,.cons _ _ _ r,e=>by
   obtain⟨t,u,v,d,s,h1,h2,h3⟩:=Us.get (i:=i) (x:=x) r (by simpa using e);exact⟨t,u,v,d,s,h1,by simpa using h2,h3⟩
structure Sea where
 len:Nat
 rest:Nat
 ppl:RL
 led:#[Z]
 out:List (Int×Int)
 old:List Z4
 cur:Option Z4
 std:List (Tv×Option Z4)
structure SAd where
 p:Addr
 pr:Addr
 dr:Addr
 pl:Addr
 lr:Addr
 ld:Addr
 da:Addr
 ls:Addr
 lt:Addr
def SAd.fp(A:SAd):#[x]:=[A.p,A.dr,A.lr,A.ld,A.da,A.ls,A.lt]
def seaF(A:SAd)(len rest:Nat)(v:V):#[aa]:=[("length",.int len),("rest",.int rest),("roster",.ref A.pr),("ledger",.ref A.pl),("absent",.ref A.da),("sheets",.ref A.ls),("sheet",v),("standing",.ref A.lt)]
def Oc(kvs:List (List Key×V))(out:List (Int×Int)):Prop:=(∀ at_ n:Int,(valV kvs [inl at_,inl n]).isSome=decide ((at_,n)∈out))/\kvs.length<=out.length
structure Z1(ca:CA)(H:Hp)(A:SAd)(S:Sea):Prop where
 obj:∃ dx v,H A.p=some (.ins ca.season dx (seaF A S.len S.rest v))/\ShO ca.sheet (·∉A.fp) H v S.cur
 ros:X0 ca.roster H A.pr A.dr S.ppl
 led:Uu ca.ledger H A.pl A.lr A.ld S.led
 out:∃ kvs,H A.da=#[b,.dT,kvs]/\Oc kvs S.out
 old:∃ vs,H A.ls=#[r,vs]/\ShL ca.sheet (·∉A.fp) H vs S.old
 std:∃ vs,H A.lt=#[r,vs]/\Us ca.sheet (·∉A.fp) H vs S.std
 nd:A.fp.Nodup
 np:A.pr∉A.fp/\A.pl∉A.fp
def FrS(A:SAd)(H H':Hp):Prop:=∀ b o,H b=#[d]->b∉A.fp->H' b=#[d]
end G
namespace L2
open PySem PySem.Spec PyProof.Rows
theorem zau{X:Cx}{K:Frag}(hK:X.K=K):OpR X (binaryOp .Add) (zjv K):=hK▸ziv
end L2
namespace G
open PySem PySem.Spec PyProof.Rows L2
theorem it2{p:Prop}[Decidable p]{A B A' B':Prop}(h:if p then A else B)(h1:p->A->A')(h2:¬ p->B->B'):if p then A' else B':=by
 by_cases z:p
 ·rw[if_pos z] at h ⊢;exact h1 z h
 ·rw[#[h,z]] at h ⊢;exact h2 z h
theorem zfh{κ:Type}[DecidableEq κ]{kvs:List (κ×V)}{k:κ}{v:V}(h:valV kvs k=none):putK kvs k v=kvs++[(k,v)]:=by
 unfold putK;rw[if_neg];intro z;rw[Rv,h] at z;cases z
inductive zav(C:Addr)(vs:#[a])(H:Hp)(Q:VK)(_:XK):Prop where
 | mk(p lr ld:Addr)(Rs:#[Z])(b:Addr)(ts:#[a])(rs:List Row)(_:vs=[.ref p,.ref b])(_:Uu C H p lr ld Rs)(_:#[y,H,b,ts])(_:b≠lr)(_:Z7 H ts (rs.map row4))(_:2*(tot Rs+rs.length)<=100000)(_:Rs.length<=1000)(_:∀ H',Uu C H' p lr ld (Rs++[rs])->(∀ b o,H b=some o->b≠lr->b≠ld->H' b=some o)->Q .non H')
def zdy(ok:Addr->Prop)(H:Hp):Prop:=∀ x,H x=none->ok x
inductive Lj(ca:CA)(vs:#[a])(H:Hp)(Q:VK)(_:XK):Prop where
 | mk(q)(dx)(l1)(l2)(l3)(l4)(_:vs=[.ref q,.ref l1,.ref l2,.ref l3,.ref l4])(_:H q=some (.ins ca.sheet dx []))(_:∀ H',H'=upd H q (.ins ca.sheet dx (shF l1 l2 l3 l4))->Q .non H')
theorem R6:List.lookup ("listed":Str) (shF l1 l2 l3 l4)=#[b,.ref,l1]:=by unfold shF;simp only[zxs,beq_self_eq_true]
theorem zaw:List.lookup ("lists":Str) (shF l1 l2 l3 l4)=#[b,.ref,l2]:=by
 have e:(("lists":Str) == "listed")=false:=by decide +kernel
 unfold shF;simp only[zxs,e,beq_self_eq_true]
theorem R7:List.lookup ("given":Str) (shF l1 l2 l3 l4)=#[b,.ref,l3]:=by
 have e:(("given":Str) == "listed")=false:=by decide +kernel
 have e2:(("given":Str) == "lists")=false:=by decide +kernel
 unfold shF;simp only[zxs,e,e2,beq_self_eq_true]
theorem Bv:List.lookup ("gaps":Str) (shF l1 l2 l3 l4)=#[b,.ref,l4]:=by
 have e:(("gaps":Str) == "listed")=false:=by decide +kernel
 have e2:(("gaps":Str) == "lists")=false:=by decide +kernel
 have e3:(("gaps":Str) == "given")=false:=by decide +kernel
 unfold shF;simp only[zxs,e,e2,e3,beq_self_eq_true]
theorem Ti{l1 l2 l3 l4:Addr}{m:Str}(h1:¬ m="listed")(h2:¬ m="lists")(h3:¬ m="given")(h4:¬ m="gaps"):List.lookup m (shF l1 l2 l3 l4)=none:=by
 have e1:(m == "listed")=false:=zxg.mpr h1;have e2:(m == "lists")=false:=zxg.mpr h2;have e3:(m == "given")=false:=zxg.mpr h3;have e4:(m == "gaps")=false:=zxg.mpr h4;unfold shF;simp only[zxs,e1,e2,e3,e4,List.lookup_nil]
theorem zng:putF "lists" y [(("listed":Str),x)]=([("listed",x),("lists",y)]:List (Str×V)):=by
 have n1:¬ (("listed":Str)="lists"):=by decide +kernel
 simp only[putF,#[h,n1]]
theorem znh:putF "given" z [(("listed":Str),x),("lists",y)]=([("listed",x),("lists",y),("given",z)]:List (Str×V)):=by
 have n1:¬ (("listed":Str)="given"):=by decide +kernel
 have n2:¬ (("lists":Str)="given"):=by decide +kernel
 simp only[putF,#[h,n1],#[h,n2]]
theorem zni:putF "gaps" w [(("listed":Str),x),("lists",y),("given",z)]=([("listed",x),("lists",y),("given",z),("gaps",w)]:List (Str×V)):=by
 have n1:¬ (("listed":Str)="gaps"):=by decide +kernel
 have n2:¬ (("lists":Str)="gaps"):=by decide +kernel
 have n3:¬ (("given":Str)="gaps"):=by decide +kernel
 simp only[putF,#[h,n1],#[h,n2],#[h,n3]]
theorem N8(hq:H1 q=none)(hdx:H1 dx=none)(ne:dx≠q):Same H1 (upd (upd (upd H1 dx (.own q)) q (.ins C dx [])) q (.ins C dx (shF l1 l2 l3 l4)))/\upd (upd (upd H1 dx (.own q)) q (.ins C dx [])) q (.ins C dx (shF l1 l2 l3 l4)) q=some (.ins C dx (shF l1 l2 l3 l4)):=by
 refine⟨fun b o e=>?_,Ze⟩;rw[Zh (Zg e hq),Zh (Zg e hq),Zh (Zg e hdx)];exact e
inductive zax(ca:CA)(vs:#[a])(H:Hp)(Q:VK)(_:XK):Prop where
 | mk(ok:Addr->Prop)(q l2:Addr)(ls:#[x])(rows:#[A])(s:Z4)(_:vs=[.ref q,.ref l2])(_:ShAt ca.sheet ok H q s)(_:#[ap,l2])(_:ILs H ls rows)(_:ok l2)(_:(∀ x∈ls,ok x))(_:zdy ok H)(_:∀ q' H',ShAt ca.sheet ok H' q' { s with may:=rows }->#[j]->H q'=none->#[S,q'])
inductive zay(ca:CA)(vs:#[a])(H:Hp)(Q:VK)(_:XK):Prop where
 | mk(ok:Addr->Prop)(q l2:Addr)(ls:#[x])(rows:#[A])(nu:#[o])(s:Z4)(n:Int)(p:Nat)(_:vs=[.ref q,.int n,.ref l2])(_:ShAt ca.sheet ok H q s)(_:#[ap,l2])(_:ILs H ls rows)(_:ok l2)(_:(∀ x∈ls,ok x))(_:zdy ok H)(_:Uv rows nu)(_:(∀ x∈s.gv,oneV x))(_:s.gv[p]?=#[e,n])(_:(∀ j:Nat,s.gv[j]?=#[e,n]->j=p))(_:Ye rows (s.gv.set p .non))(_:s.gaps.length<=1000)(_:∀ q' st e w H',ShAt ca.sheet ok H' q' ⟨s.ms,rows,Yj st (s.gv.set p .non),s.gaps++[(n,st)]⟩->Y4 rows (s.gv.set p .non) p st e w->#[j]->H q'=none->#[S,q'])
inductive zdz(ca:CA)(vs:#[a])(H:Hp)(Q:VK)(_:XK):Prop where
 | mk(ok:Addr->Prop)(l1 l2:Addr)(ts:#[a])(ls:#[x])(ms:List (Int×Int×Int))(rows:#[A])(nu:#[o])(_:vs=[.ref l1,.ref l2])(_:#[y,H,l1,ts])(_:Z7 H ts (ms.map pV))(_:#[ap,l2])(_:ILs H ls rows)(_:ok l1)(_:ok l2)(_:(∀ x∈ls,ok x))(_:zdy ok H)(_:Uv rows nu)(_:∀ q gv H',ShAt ca.sheet ok H' q ⟨ms,rows,gv,[]⟩->Ye rows gv->Vw rows gv->#[j]->H q=none->#[S,q])
inductive Jl(ca:CA)(vs:#[a])(H:Hp)(Q:VK)(_:XK):Prop where
 | mk(ok:Addr->Prop)(q:Addr)(s:Z4)(_:vs=[.ref q])(_:ShAt ca.sheet ok H q s)(_:∀ l ts H',H' l=#[r,ts]->Z7 H' ts (s.ms.map pV)->#[j]->H l=none->Q (.ref l) H')
inductive Gz(ca:CA)(vs:#[a])(H:Hp)(Q:VK)(_:XK):Prop where
 | mk(ok:Addr->Prop)(q:Addr)(s:Z4)(_:vs=[.ref q])(_:ShAt ca.sheet ok H q s)(_:∀ l H',H' l=#[r,s.gv]->#[j]->H l=none->Q (.ref l) H')
inductive Km(ca:CA)(vs:#[a])(H:Hp)(Q:VK)(_:XK):Prop where
 | mk(ok:Addr->Prop)(q:Addr)(s:Z4)(n:Int)(_:vs=[.ref q,.int n])(_:ShAt ca.sheet ok H q s)(_:(∀ x∈s.gv,oneV x))(_:s.gv.length<=100)(_:∀ H',Same H H'->Q (oN (Wh s.gv n)) H')
inductive zd0(ca:CA)(vs:#[a])(H:Hp)(Q:VK)(_:XK):Prop where
 | mk(ok:Addr->Prop)(q:Addr)(s:Z4)(nu:#[o])(_:vs=[.ref q])(_:ShAt ca.sheet ok H q s)(_:Uv s.may nu)(_:Ye s.may s.gv)(_:zao s.may s.gv)(_:∀ t lp lr ps rs H',H' t=#[J,[.ref lp,.ref lr]]->H' lp=#[I,Yf,ps]->H' lr=#[I,rs.map,V.int]->Gx s.may s.gv ps rs->#[j]->H t=none->H lp=none->H lr=none->lp≠lr->#[S,t])
inductive zd1(ca:CA)(vs:#[a])(H:Hp)(Q:VK)(E:XK):Prop where
 | mk(ok:Addr->Prop)(q:Addr)(s:Z4)(i:Int)(_:vs=[.ref q,.int i])(_:ShAt ca.sheet ok H q s)(_:Yq i)(_:s.may.length=s.ms.length)(_:(i<0\/(s.ms.length:Int)<=i->#[K,ca.noMatch]))(_:∀ (k:Nat) r,i=(k:Int)->s.may[k]?=some r->∀ l H',H' l=#[I,r.map,V.int]->#[j]->H l=none->#[S,l])
inductive Cy(ca:CA)(vs:#[a])(H:Hp)(Q:VK)(E:XK):Prop where
 | mk(ok:Addr->Prop)(q:Addr)(s:Z4)(i:Int)(_:vs=[.ref q,.int i])(_:ShAt ca.sheet ok H q s)(_:Yq i)(_:(if i<0\/(s.ms.length:Int)<=i then #[K,ca.noMatch] else Q .non H))
def G0(m:Int×Int×Int)(x:V):Row:=⟨m.1,m.2.1,m.2.2,zap (some x)⟩
def Z9(s:Z4):List Row:=List.zipWith G0 s.ms s.gv
inductive zaz(ca:CA)(vs:#[a])(H:Hp)(Q:VK)(_:XK):Prop where
 | mk(ok:Addr->Prop)(q:Addr)(s:Z4)(_:vs=[.ref q])(_:ShAt ca.sheet ok H q s)(_:(∀ x∈s.gv,oneV x))(_:s.gv.length=s.ms.length)(_:s.ms.length<=1000)(_:∀ l ts H',H' l=#[r,ts]->Z7 H' ts ((Z9 s).map row4)->#[j]->H l=none->Q (.ref l) H')
inductive G1(ca:CA)(vs:#[a])(H:Hp)(Q:VK)(_:XK):Prop where
 | mk(ok:Addr->Prop)(q:Addr)(s:Z4)(_:vs=[.ref q])(_:ShAt ca.sheet ok H q s)(_:s.gaps.length<=1000)(_:∀ l ts H',H' l=#[r,ts]->W5 (fun x=>H x=none/\x≠l) H' ts s.gaps->#[j]->H l=none->Q (.ref l) H')
theorem G2{K:Frag}{a:Addr}{xs:#[a]}{xo:List Str}{js:#[B]}{g:TG}{tt:TT}{te:TE}{σ:L2.St}{H:Hp}{Q:VK}(Pv:Nat->#[a]->Hp->Prop)(h0:Pv 0 [] H)(hl:∀ i ys H,i<=xs.length->Pv i ys H->SqL K H a xs)(hz:xs.length<=sizeLine)(hy:∀ i ys H,Pv i ys H->ys.length<=i)
  (hs:∀ i x ys H,xs[i]?=some x->Pv i ys H->g x (cs0 xo js σ) H fun σ2 H1=>Qo xo js σ σ2/\tt σ2 H1 fun b H2=>if b=true then te σ2 H2 fun y H3=>Pv (i+1) (ys++[y]) H3 else Pv (i+1) ys H2)
  (hd:∀ ys H,Pv xs.length ys H->∀ p,H p=none->Q (.ref p) (upd H p (.lst ys))):Bs (Itl K a) xo js g tt te σ H Q:=by
 refine⟨fun i m ys H=>m=xs.length-i/\i<=xs.length/\Pv i ys H,⟨xs.length,by simp,zxj _,h0⟩,?_⟩;rintro i m ys H ⟨rfl,hi,p⟩;have q:=hl i ys H hi p;have ly:=hy i ys H p;by_cases hlt:i<xs.length
 ·refine .inr ⟨⟨xs,xs[i],q,by simp[hlt]⟩,by omega,Pv (i+1),fun ys' H' p'=>⟨xs.length-(i+1),by omega,rfl,hlt,p'⟩,fun x H' y=>?_⟩;obtain⟨e,y⟩:=y;subst e;exact hs i x ys _ (y xs q) p
 ·have e:i=xs.length:=by omega
  subst e;exact .inl ⟨⟨xs,q,zw1 _⟩,by omega,hd ys H p⟩
theorem zfi{K:Frag}{a b:Addr}{xs zs:#[a]}{xo:List Str}{js:#[B]}{g:TG}{tt:TT}{te:TE}{σ:L2.St}{H:Hp}{Q:VK}(Pv:Nat->#[a]->Hp->Prop)(h0:Pv 0 [] H)(he:xs.length=zs.length)(hl:∀ i ys H,i<=xs.length->Pv i ys H->SqL K H a xs/\SqL K H b zs)(hz:xs.length<=sizeLine)(hy:∀ i ys H,Pv i ys H->ys.length<=i)
  (hs:∀ i x z t ys H,xs[i]?=some x->zs[i]?=some z->Pv i ys H->H t=none->g (.ref t) (cs0 xo js σ) (upd H t (.tup [x,z])) fun σ2 H1=>Qo xo js σ σ2/\tt σ2 H1 fun b H2=>if b=true then te σ2 H2 fun y H3=>Pv (i+1) (ys++[y]) H3 else Pv (i+1) ys H2)
  (hd:∀ ys H,Pv xs.length ys H->∀ p,H p=none->Q (.ref p) (upd H p (.lst ys))):Bs (Itz K a b) xo js g tt te σ H Q:=by
 refine⟨fun i m ys H=>m=xs.length-i/\i<=xs.length/\Pv i ys H,⟨xs.length,by simp,zxj _,h0⟩,?_⟩;rintro i m ys H ⟨rfl,hi,p⟩;obtain⟨q1,q2⟩:=hl i ys H hi p;have ly:=hy i ys H p;by_cases hlt:i<xs.length
 ·refine .inr ⟨⟨xs,zs,xs[i],zs[i]'⋯,q1,q2,by simp[hlt],by rw[zwp ⋯]⟩,by omega,Pv (i+1),fun ys' H' p'=>⟨xs.length-(i+1),by omega,rfl,hlt,p'⟩,fun x H' y=>?_⟩;obtain⟨t,y,z,h1,h2,h3,rfl,rfl⟩:=y;exact hs i y z t ys _ (h2 xs q1) (h3 zs q2) p h1
 ·have e:i=xs.length:=by omega
  subst e;exact .inl ⟨⟨xs,zs,q1,q2,.inl (zw1 _)⟩,by omega,hd ys H p⟩
theorem zld(m:Int×Int×Int)(h:oneV x):row4 (G0 m x)=[V.int m.1,V.int m.2.1,V.int m.2.2,x]:=by
 rcases h with rfl|⟨i,rfl⟩<;>rfl
theorem zfj(hm:s.ms[i]?=some m)(hx:s.gv[i]?=some x):(Z9 s).take (i+1)=(Z9 s).take i++[G0 m x]:=by
 have:(Z9 s)[i]?=some (G0 m x):=by
  unfold Z9;rw[List.getElem?_zipWith,hm,hx]
 rw[zx3,this];rfl
theorem za0(h:s.gv.length=s.ms.length):(Z9 s).length=s.ms.length:=by
 unfold Z9;rw[zy2,h,Nat.min_self]
section
variable{ca:CA}{H H':Hp}{A:SAd}{S:Sea}{l:Nat}{r:Nat}{v:V}
theorem za1(A:SAd)(l r:Nat)(v:V):List.lookup ("length":Str) (seaF A l r v)=#[e,l]/\List.lookup ("rest":Str) (seaF A l r v)=#[e,r]/\List.lookup ("roster":Str) (seaF A l r v)=#[c,A.pr]/\List.lookup ("ledger":Str) (seaF A l r v)=#[c,A.pl]/\List.lookup ("absent":Str) (seaF A l r v)=#[c,A.da]/\List.lookup ("sheets":Str) (seaF A l r v)=#[c,A.ls]/\List.lookup ("sheet":Str) (seaF A l r v)=some v/\List.lookup ("standing":Str) (seaF A l r v)=#[c,A.lt]:=by
 have d:∀ a b:Str,#[g,a=b]=false->(a == b)=false:=fun a b h=>zxg.mpr (of_decide_eq_false h);have e1:=d "rest" "length" ⋯;have e2:=d "roster" "length" ⋯;have e3:=d "roster" "rest" ⋯;have f1:=d "ledger" "length" ⋯;have f2:=d "ledger" "rest" ⋯;have f3:=d "ledger" "roster" ⋯;have g1:=d "absent" "length" ⋯;have g2:=d "absent" "rest" ⋯;have g3:=d "absent" "roster" ⋯;have g4:=d "absent" "ledger" ⋯;have h1:=d "sheets" "length" ⋯;have h2:=d "sheets" "rest" ⋯;have h3:=d "sheets" "roster" ⋯;have h4:=d "sheets" "ledger" ⋯;have h5:=d "sheets" "absent" ⋯;have i1:=d "sheet" "length" ⋯;have i2:=d "sheet" "rest" ⋯;have i3:=d "sheet" "roster" ⋯;have i4:=d "sheet" "ledger" ⋯;have i5:=d "sheet" "absent" ⋯;have i6:=d "sheet" "sheets" ⋯;have j1:=d "standing" "length" ⋯;have j2:=d "standing" "rest" ⋯;have j3:=d "standing" "roster" ⋯;have j4:=d "standing" "ledger" ⋯;have j5:=d "standing" "absent" ⋯;have j6:=d "standing" "sheets" ⋯;have j7:=d "standing" "sheet" ⋯;unfold seaF;refine⟨?_,?_,?_,?_,?_,?_,?_,?_⟩<;>simp only[zxs,beq_self_eq_true,e1,e2,e3,f1,f2,f3,g1,g2,g3,g4,h1,h2,h3,h4,h5,i1,i2,i3,i4,i5,i6,j1,j2,j3,j4,j5,j6,j7]
theorem Cz:List.lookup ("length":Str) (seaF A l r v)=#[b,.int,l]:=(za1 A l r v).1
theorem zja:List.lookup ("rest":Str) (seaF A l r v)=#[b,.int,r]:=(za1 A l r v).2.1
theorem Ux:List.lookup ("roster":Str) (seaF A l r v)=#[b,.ref,A.pr]:=(za1 A l r v).2.2.1
theorem Uy:List.lookup ("ledger":Str) (seaF A l r v)=#[b,.ref,A.pl]:=(za1 A l r v).2.2.2.1
theorem O4:List.lookup ("absent":Str) (seaF A l r v)=#[b,.ref,A.da]:=(za1 A l r v).2.2.2.2.1
theorem C0:List.lookup ("sheets":Str) (seaF A l r v)=#[b,.ref,A.ls]:=(za1 A l r v).2.2.2.2.2.1
theorem Va:List.lookup ("sheet":Str) (seaF A l r v)=some v:=(za1 A l r v).2.2.2.2.2.2.1
theorem Tc:List.lookup ("standing":Str) (seaF A l r v)=#[b,.ref,A.lt]:=(za1 A l r v).2.2.2.2.2.2.2
theorem Yg(h:(["length","rest","roster","ledger","absent","sheets","sheet","standing"]:List Str).all (fun x=>!#[g,m=x])=true):List.lookup m (seaF A l r v)=none:=by
 simp only[List.all_cons,List.all_nil,Bool.and_true,zx6,Bool.not_eq_true',decide_eq_false_iff_not] at h;obtain⟨h1,h2,h3,h4,h5,h6,h7,h8⟩:=h;have e:∀ x:Str,¬ m=x->(m == x)=false:=fun x z=>zxg.mpr z;unfold seaF;simp only[zxs,e _ h1,e _ h2,e _ h3,e _ h4,e _ h5,e _ h6,e _ h7,e _ h8,List.lookup_nil]
theorem Z1.same(h:#[O])(e:#[j]):Z1 ca H' A S:=by
 obtain⟨⟨dx,v,a1,a2⟩,b,c,⟨kvs,d1,d2⟩,⟨vs,f1,f2⟩,⟨us,g1,g2⟩,nd,np⟩:=h;have k:∀ x o,x∉A.fp->H x=#[d]->H' x=#[d]:=fun _ _ _ q=>e _ _ q;have kt:#[al]:=fun _ _ q=>e _ _ q;exact⟨⟨dx,v,e _ _ a1,a2.keep k kt⟩,b.same e,c.same e,⟨kvs,e _ _ d1,d2⟩,⟨vs,e _ _ f1,f2.keep k kt⟩,⟨us,e _ _ g1,g2.keep k kt⟩,nd,np⟩
theorem FrS.of(A:SAd)(e:#[j]):FrS A H H':=fun b o q _=>e b o q
theorem FrS.trans(h1:FrS A H H')(h2:FrS A H' H2):FrS A H H2:=fun b o e n=>h2 b o (h1 b o e n) n
theorem Z1.there(h:#[O]):∀ x∈A.fp,∃ o,H x=#[d]:=by
 obtain⟨⟨dx,v,a1,_⟩,⟨⟨_,_,_,b2,_⟩,_⟩,⟨_,⟨rs,c2,_⟩,⟨ks,c3,_⟩⟩,⟨kvs,d1,_⟩,⟨vs,f1,_⟩,⟨us,g1,_⟩,nd,np⟩:=h;intro x hx;simp only[SAd.fp,zwy,zx2,or_false] at hx;rcases hx with rfl|rfl|rfl|rfl|rfl|rfl|rfl
 ·exact⟨_,a1⟩
 ·exact⟨_,b2⟩
 ·exact⟨_,c2⟩
 ·exact⟨_,c3⟩
 ·exact⟨_,d1⟩
 ·exact⟨_,f1⟩
 ·exact⟨_,g1⟩
theorem Z1.newOk(h:#[O]):zdy (·∉A.fp) H:=fun x hx hm=>by
 obtain⟨o,e⟩:=h.there x hm;rw[e] at hx;cases hx
theorem Z1.tups(h:#[O])(f:FrS A H H'):#[al]:=fun t xs e=>f t _ e fun hm=>by
 obtain⟨⟨dx,v,a1,_⟩,⟨⟨_,_,_,b2,_⟩,_⟩,⟨_,⟨rs,c2,_⟩,⟨ks,c3,_⟩⟩,⟨kvs,d1,_⟩,⟨vs,f1,_⟩,⟨us,g1,_⟩,nd,np⟩:=h;simp only[SAd.fp,zwy,zx2,or_false] at hm;rcases hm with rfl|rfl|rfl|rfl|rfl|rfl|rfl
 ·rw[a1] at e;cases e
 ·rw[b2] at e;cases e
 ·rw[c2] at e;cases e
 ·rw[c3] at e;cases e
 ·rw[d1] at e;cases e
 ·rw[f1] at e;cases e
 ·rw[g1] at e;cases e
end
def atV(S:Sea):Int:=(S.led.length:Int)+1
inductive V8(ca:CA)(vs:#[a])(H:Hp)(Q:VK)(_:XK):Prop where
 | mk(A:SAd)(S:Sea)(_:vs=[.ref A.p])(_:#[O])(_:Q (.int (atV S)) H)
inductive Kn(ca:CA)(vs:#[a])(H:Hp)(Q:VK)(E:XK):Prop where
 | mk(A:SAd)(S:Sea)(_:vs=[.ref A.p])(_:#[O])(_:if S.len<=S.led.length then #[K,ca.seaOver] else Q .non H)
inductive Ko(ca:CA)(vs:#[a])(H:Hp)(Q:VK)(E:XK):Prop where
 | mk(A:SAd)(S:Sea)(_:vs=[.ref A.p])(_:#[O])(_:if S.len<=S.led.length then #[K,ca.seaOver] else if S.cur.isSome then #[K,ca.drawn] else Q .non H)
inductive Bw(ca:CA)(vs:#[a])(H:Hp)(Q:VK)(E:XK):Prop where
 | mk(A:SAd)(S:Sea)(at_:Int)(_:vs=[.ref A.p,.int at_])(_:#[O])(_:Yq at_)(_:if at_<1\/(S.len:Int)<at_ then #[K,ca.noRound] else Q .non H)
inductive Bz(ca:CA)(vs:#[a])(H:Hp)(Q:VK)(E:XK):Prop where
 | mk(A:SAd)(S:Sea)(_:vs=[.ref A.p])(_:#[O])(_:if 100<=S.std.length then #[K,ca.manyD] else Q .non H)
inductive B0(ca:CA)(vs:#[a])(H:Hp)(Q:VK)(_:XK):Prop where
 | mk(A:SAd)(S:Sea)(w:Str)(n at_:Int)(_:vs=[.ref A.p,.str w,.int n,.int at_])(_:#[O])(_:S.std.length<=1000)(_:∀ H',Z1 ca H' A { S with std:=S.std++[((w,n,at_),S.cur)] }->FrS A H H'->Q .non H')
inductive Qs(ca:CA)(vs:#[a])(H:Hp)(Q:VK)(E:XK):Prop where
 | mk(A:SAd)(S:Sea)(_:vs=[.ref A.p])(_:#[O])(_:(S.cur=none->#[K,ca.notDrawn]))(_:∀ s q,S.cur=some s->ShAt ca.sheet (·∉A.fp) H q s->Q (.ref q) H)
def V9(S:Sea)(at_:Int):Option Z4:=if at_<=S.led.length then S.old[(at_-1).toNat]? else if (S.led.length:Int)+1<at_ then none else S.cur
inductive Kp(ca:CA)(vs:#[a])(H:Hp)(Q:VK)(E:XK):Prop where
 | mk(A:SAd)(S:Sea)(at_:Int)(_:vs=[.ref A.p,.int at_])(_:#[O])(_:Yq at_)(_:S.old.length=S.led.length)(_:if at_<1\/(S.len:Int)<at_ then #[K,ca.noRound] else (V9 S at_=none->#[K,ca.notDrawn])/\∀ s q,V9 S at_=some s->ShAt ca.sheet (·∉A.fp) H q s->Q (.ref q) H)
def pIn(out:List (Int×Int))(at_:Int)(m:P3):Bool:=#[g,(at_,m.1)∈out]
def G3(S:Sea)(m:P3):#[o]:=(S.ppl.filter fun x=>(whyS S.led x.1 x.2.1 x.2.2 m.1 m.2.1 m.2.2 (pIn S.out (atV S) x) S.rest).isEmpty).map (·.1)
def mayS(S:Sea)(ms:List P3):#[A]:=ms.map (G3 S)
inductive N9(ca:CA)(vs:#[a])(H:Hp)(Q:VK)(_:XK):Prop where
 | mk(A:SAd)(S:Sea)(l:Addr)(ts:#[a])(ms:List P3)(_:vs=[.ref A.p,.ref l])(_:#[O])(_:#[y,H,l,ts])(_:Z7 H ts (ms.map pV))(_:ms.length<=100)(_:S.ppl.length<=100)(_:(∀ x∈S.ppl,Yq x.1))(_:∀ l' ls H',H' l'=#[I,ls.map,V.ref]->ILs H' ls (mayS S ms)->#[j]->H l'=none->(∀ x∈ls,H x=none)->#[S,l'])
def badM(m:P3):Prop:=m.1<1\/99<m.1\/m.2.1<1\/99<m.2.1\/m.2.2<1\/9<m.2.2
def Qt(Ms:List P3):Prop:=∃ m∈Ms,badM m
def Qu(Ms:List P3):Prop:=∃ m∈Ms,m.1=m.2.1
def G4(m:P3):Prop:=Yq m.1/\Yq m.2.1/\Yq m.2.2
theorem C2{p:P3->Prop}{Ms:List P3}{i:Nat}{m:P3}(e:Ms[i]?=some m)(h:∀ x∈Ms.take i,¬ p x)(hm:¬ p m):∀ x∈Ms.take (i+1),¬ p x:=fun x hx=>by
 rw[zx3,e] at hx;rcases zw0.mp hx with q|q
 ·exact h x q
 ·simp at q;subst q;exact hm
inductive za2(K:Frag)(ca:CA)(vs:#[a])(H:Hp)(Q:VK)(E:XK):Prop where
 | mk(b)(ts)(_:vs=[.ref b])(_:SqL K H b ts)(_:ts.length<=1000)(_:(20<ts.length->#[K,ca.manyM]))(_:(ts.length<=20->Q .non H))
inductive C3(K:Frag)(ca:CA)(vs:#[a])(H:Hp)(Q:VK)(E:XK):Prop where
 | mk(b:Addr)(ts:#[a])(Ms:List P3)(_:vs=[.ref b])(_:SqL K H b ts)(_:Z7 H ts (Ms.map pV))(_:(∀ m∈Ms,G4 m))(_:(Qt Ms->#[K,ca.out]))(_:(¬ Qt Ms->Q .non H))
inductive za3(K:Frag)(ca:CA)(vs:#[a])(H:Hp)(Q:VK)(E:XK):Prop where
 | mk(b:Addr)(ts:#[a])(Ms:List P3)(_:vs=[.ref b])(_:SqL K H b ts)(_:Z7 H ts (Ms.map pV))(_:(∀ m∈Ms,G4 m))(_:(Qu Ms->#[K,ca.same]))(_:(¬ Qu Ms->Q .non H))
inductive G5(K:Frag)(ca:CA)(vs:#[a])(H:Hp)(Q:VK)(E:XK):Prop where
 | mk(b:Addr)(ts:#[a])(Ms:List P3)(_:vs=[.ref b])(_:SqL K H b ts)(_:Z7 H ts (Ms.map pV))(_:(∀ m∈Ms,G4 m))(_:Ms.length<=1000)(_:(20<Ms.length->#[K,ca.manyM]))(_:(Ms.length<=20->Qt Ms->#[K,ca.out]))(_:(Ms.length<=20->¬ Qt Ms->Qu Ms->#[K,ca.same]))(_:(Ms.length<=20->¬ Qt Ms->¬ Qu Ms->∀ l,H l=none->Q (.ref l) (upd H l (.lst ts))))
theorem Oc.isSome(h:Oc kvs out)(i n:Int):(valV kvs [inl i,inl n]).isSome=#[g,(i,n)∈out]:=h.1 i n
theorem G6{A:SAd}(nd:A.fp.Nodup):(A.p≠A.dr/\A.p≠A.lr/\A.p≠A.ld/\A.p≠A.da/\A.p≠A.ls/\A.p≠A.lt)/\(A.dr≠A.lr/\A.dr≠A.ld/\A.dr≠A.da/\A.dr≠A.ls/\A.dr≠A.lt)/\(A.lr≠A.ld/\A.lr≠A.da/\A.lr≠A.ls/\A.lr≠A.lt)/\(A.ld≠A.da/\A.ld≠A.ls/\A.ld≠A.lt)/\(A.da≠A.ls/\A.da≠A.lt)/\A.ls≠A.lt:=by
 simp only[SAd.fp,zxi,zwy,zx2,or_false,not_or] at nd;obtain⟨⟨n1,n2,n3,n4,n5,n6⟩,⟨n7,n8,n9,n10,n11⟩,⟨n12,n13,n14,n15⟩,⟨n16,n17,n18⟩,⟨n19,n20⟩,n21,_⟩:=nd;exact⟨⟨n1,n2,n3,n4,n5,n6⟩,⟨n7,n8,n9,n10,n11⟩,⟨n12,n13,n14,n15⟩,⟨n16,n17,n18⟩,⟨n19,n20⟩,n21⟩
theorem zjb{R:RL}(nd:(R.map (·.1)).Nodup){x y:P3}(hx:x∈R)(hy:y∈R)(h:x.1=y.1):x=y:=by
 induction R with
 | nil=>cases hx
 | cons z R ih =>
   rw[zw2,zxi] at nd;rcases zwy.mp hx with e|e<;>rcases zwy.mp hy with e'|e'
   ·rw[e,e']
   ·exact absurd (zwx.mpr ⟨y,e',by rw[<- h,e]⟩) nd.1
   ·exact absurd (zwx.mpr ⟨x,e,by rw[h,e']⟩) nd.1
   ·exact ih nd.2 e e'
def outV(S:Sea):#[a]:=(S.ppl.filter (pIn S.out (atV S))).map fun x=>V.int x.1
theorem zhl(S:Sea):∀ x∈outV S,oneV x:=fun x hx=>by
 unfold outV at hx;obtain⟨m,_,rfl⟩:=zwx.mp hx;exact .inr ⟨_,rfl⟩
theorem zjc(hx:x∈S.ppl):inV (.int x.1) (outV S)=pIn S.out (atV S) x:=by
 unfold outV;rw[show ((S.ppl.filter (pIn S.out (atV S))).map fun x=>V.int x.1)=((S.ppl.filter (pIn S.out (atV S))).map (·.1)).map V.int by rw[zxt];rfl,Qm];unfold pIn;by_cases h:(atV S,x.1)∈S.out
 ·rw[zwu h,zwu];exact zwx.mpr ⟨x,zxu.mpr ⟨hx,zwu h⟩,rfl⟩
 ·rw[zwz h,zwz];intro z;obtain⟨y,h1,h2⟩:=zwx.mp z;have:=of_decide_eq_true (zxu.mp h1).2;rw[h2] at this;exact h this
theorem zle(S:Sea)(m:P3):((S.ppl.filter (P9 S.led m.1 m.2.1 m.2.2 (outV S) S.rest)).map fun x=>V.int x.1)=(G3 S m).map V.int:=by
 unfold G3;rw[zxt];have:S.ppl.filter (P9 S.led m.1 m.2.1 m.2.2 (outV S) S.rest)=S.ppl.filter fun x=>(whyS S.led x.1 x.2.1 x.2.2 m.1 m.2.1 m.2.2 (pIn S.out (atV S) x) S.rest).isEmpty:=by
  refine List.filter_congr fun x hx=>?_;unfold P9;rw[zjc hx]
 rw[this];rfl
theorem atI_last:atI (xs++[x]) (-1)=some x:=by
 have hl:(xs++[x]).length=xs.length+1:=by rw[zwr];rfl
 unfold atI ixN;rw[if_neg ⋯,if_pos ⋯];show (xs++[x])[((-1:Int)+(xs++[x]).length).toNat]?=_;rw[show ((-1:Int)+(xs++[x]).length).toNat=xs.length by omega,zxl (zw1 _),Nat.sub_self];rfl
theorem W5.unsnoc{ok:Addr->Prop}{H:Hp}{n:Int}{st:#[E]}:∀ {vs:List V} {G:List (Int×List (Nat×Option Int))},W5 ok H vs (G++[(n,st)])->∃ vs' t l us,vs=vs'++[.ref t]/\H t=#[J,[.int n,.ref l]]/\H l=#[r,us]/\Z7 H us (st.map Wz)/\ok l:=fun {vs G}=>by
 induction G generalizing vs with
 | nil=>
  intro q;have q:W5 ok H vs [(n,st)]:=q;cases q with
  | cons h hl tl o r=>cases r;exact⟨[],_,_,_,rfl,h,hl,tl,o⟩
 | cons x G ih=>
  intro q;have q:W5 ok H vs (x :: (G++[(n,st)])):=q;cases q with
  | cons h hl tl o r=>obtain⟨vs',t,l,us,e,a⟩:=ih r;exact⟨_ :: vs',t,l,us,by rw[e];rfl,a⟩
def Od(S:Sea):Prop:=(∀ x∈S.ppl,¬ badI x.1 x.2.1 x.2.2)/\S.ppl.length<=30
theorem Od.small(h:Od S):∀ x∈S.ppl,Yq x.1:=fun x hx=>by
 have:=h.1 x hx;unfold badI at this;exact Yv ⋯ ⋯
theorem Od.may(h:Od S)(nd:(S.ppl.map (·.1)).Nodup)(hm:ms.length<=20):Uv (mayS S ms) (S.ppl.map (·.1)):=by
 refine⟨by unfold mayS;rw[zwo];exact hm,by rw[zwo];exact h.2,nd,fun n hn=>?_,fun r hr=>?_⟩
 ·obtain⟨x,hx,rfl⟩:=zwx.mp hn;have:=h.1 x hx;unfold badI at this;omega
 ·unfold mayS at hr;obtain⟨m,_,rfl⟩:=zwx.mp hr;unfold G3;exact⟨nd.sublist (List.Sublist.map _ List.filter_sublist),fun n hn=>by
   obtain⟨x,hx,rfl⟩:=zwx.mp hn;exact zwx.mpr ⟨x,(zxu.mp hx).1,rfl⟩⟩
section
variable{ca:CA}{H H':Hp}{A:SAd}{S:Sea}
theorem Jm(h:#[O])(hx:x∈A.fp):A.pr≠x/\A.pl≠x:=⟨fun z=>h.np.1 (by rw[z];exact hx),fun z=>h.np.2 (by rw[z];exact hx)⟩
theorem FrS.one(hx:x∈A.fp)(k:∀ b o,H b=#[d]->b≠x->H' b=#[d]):FrS A H H':=fun b o e hb=>k b o e fun z=>hb (by rw[z];exact hx)
theorem Z1.setRos(h:#[O])(r:X0 ca.roster H' A.pr A.dr R)(k:∀ b o,H b=#[d]->b≠A.dr->H' b=#[d]):Z1 ca H' A { S with ppl:=R }/\FrS A H H':=by
 have f:FrS A H H':=.one (by simp[SAd.fp]) k;have kt:=h.tups f;have ko:∀ x o,x∉A.fp->H x=#[d]->H' x=#[d]:=fun x o hx e=>f x o e hx;obtain⟨⟨n1,n2,n3,n4,n5,n6⟩,⟨n7,n8,n9,n10,n11⟩,⟨n12,n13,n14,n15⟩,⟨n16,n17,n18⟩,⟨n19,n20⟩,n21⟩:=G6 h.nd;have np:=Jm h (show A.dr∈A.fp by simp[SAd.fp]);obtain⟨⟨dx,v,a1,a2⟩,b,c,⟨kvs,d1,d2⟩,⟨vs,f1,f2⟩,⟨us,g1,g2⟩,nd,np'⟩:=h;exact⟨⟨⟨dx,v,k _ _ a1 n1,a2.keep ko kt⟩,r,c.keep (fun o e=>k _ o e np.2) (fun o e=>k _ o e (Ne.symm n7)) (fun o e=>k _ o e (Ne.symm n8)) kt,⟨kvs,k _ _ d1 (Ne.symm n9),d2⟩,⟨vs,k _ _ f1 (Ne.symm n10),f2.keep ko kt⟩,⟨us,k _ _ g1 (Ne.symm n11),g2.keep ko kt⟩,nd,np'⟩,f⟩
theorem Z1.setOut{out:List (Int×Int)}{kvs:List (List Key×V)}(h:#[O])(hd:H' A.da=#[b,.dT,kvs])(ok:Oc kvs out)(k:∀ b o,H b=#[d]->b≠A.da->H' b=#[d]):Z1 ca H' A { S with out:=out }/\FrS A H H':=by
 have f:FrS A H H':=.one (by simp[SAd.fp]) k;have kt:=h.tups f;have ko:∀ x o,x∉A.fp->H x=#[d]->H' x=#[d]:=fun x o hx e=>f x o e hx;obtain⟨⟨n1,n2,n3,n4,n5,n6⟩,⟨n7,n8,n9,n10,n11⟩,⟨n12,n13,n14,n15⟩,⟨n16,n17,n18⟩,⟨n19,n20⟩,n21⟩:=G6 h.nd;have np:=Jm h (show A.da∈A.fp by simp[SAd.fp]);obtain⟨⟨dx,v,a1,a2⟩,b,c,⟨kvs',d1,d2⟩,⟨vs,f1,f2⟩,⟨us,g1,g2⟩,nd,np'⟩:=h;exact⟨⟨⟨dx,v,k _ _ a1 n4,a2.keep ko kt⟩,b.keep (fun o e=>k _ o e np.1) (fun o e=>k _ o e n9) kt,c.keep (fun o e=>k _ o e np.2) (fun o e=>k _ o e n13) (fun o e=>k _ o e n16) kt,⟨kvs,hd,ok⟩,⟨vs,k _ _ f1 (Ne.symm n19),f2.keep ko kt⟩,⟨us,k _ _ g1 (Ne.symm n20),g2.keep ko kt⟩,nd,np'⟩,f⟩
theorem Z1.setCur(h:#[O])(hp:∃ dx,H' A.p=some (.ins ca.season dx (seaF A S.len S.rest v)))(sh:ShO ca.sheet (·∉A.fp) H' v cur)(k:∀ b o,H b=#[d]->b≠A.p->H' b=#[d]):Z1 ca H' A { S with cur:=cur }/\FrS A H H':=by
 have f:FrS A H H':=.one (by simp[SAd.fp]) k;have kt:=h.tups f;have ko:∀ x o,x∉A.fp->H x=#[d]->H' x=#[d]:=fun x o hx e=>f x o e hx;obtain⟨⟨n1,n2,n3,n4,n5,n6⟩,⟨n7,n8,n9,n10,n11⟩,⟨n12,n13,n14,n15⟩,⟨n16,n17,n18⟩,⟨n19,n20⟩,n21⟩:=G6 h.nd;have np:=Jm h (show A.p∈A.fp by simp[SAd.fp]);obtain⟨⟨dx,v',a1,a2⟩,b,c,⟨kvs',d1,d2⟩,⟨vs,f1,f2⟩,⟨us,g1,g2⟩,nd,np'⟩:=h;obtain⟨dx',hp⟩:=hp;exact⟨⟨⟨dx',v,hp,sh⟩,b.keep (fun o e=>k _ o e np.1) (fun o e=>k _ o e (Ne.symm n1)) kt,c.keep (fun o e=>k _ o e np.2) (fun o e=>k _ o e (Ne.symm n2)) (fun o e=>k _ o e (Ne.symm n3)) kt,⟨kvs',k _ _ d1 (Ne.symm n4),d2⟩,⟨vs,k _ _ f1 (Ne.symm n5),f2.keep ko kt⟩,⟨us,k _ _ g1 (Ne.symm n6),g2.keep ko kt⟩,nd,np'⟩,f⟩
theorem Z1.setStd{std:List (Tv×Option Z4)}{us:#[a]}(h:#[O])(hd:#[y,H',A.lt,us])(ok:Us ca.sheet (·∉A.fp) H' us std)(k:∀ b o,H b=#[d]->b≠A.lt->H' b=#[d]):Z1 ca H' A { S with std:=std }/\FrS A H H':=by
 have f:FrS A H H':=.one (by simp[SAd.fp]) k;have kt:=h.tups f;have ko:∀ x o,x∉A.fp->H x=#[d]->H' x=#[d]:=fun x o hx e=>f x o e hx;obtain⟨⟨n1,n2,n3,n4,n5,n6⟩,⟨n7,n8,n9,n10,n11⟩,⟨n12,n13,n14,n15⟩,⟨n16,n17,n18⟩,⟨n19,n20⟩,n21⟩:=G6 h.nd;have np:=Jm h (show A.lt∈A.fp by simp[SAd.fp]);obtain⟨⟨dx,v,a1,a2⟩,b,c,⟨kvs,d1,d2⟩,⟨vs,f1,f2⟩,⟨us',g1,g2⟩,nd,np'⟩:=h;exact⟨⟨⟨dx,v,k _ _ a1 n6,a2.keep ko kt⟩,b.keep (fun o e=>k _ o e np.1) (fun o e=>k _ o e n11) kt,c.keep (fun o e=>k _ o e np.2) (fun o e=>k _ o e n15) (fun o e=>k _ o e n18) kt,⟨kvs,k _ _ d1 n20,d2⟩,⟨vs,k _ _ f1 n21,f2.keep ko kt⟩,⟨us,hd,ok⟩,nd,np'⟩,f⟩
theorem Z1.setOld{old:List Z4}{us:#[a]}(h:#[O])(hd:#[y,H',A.ls,us])(ok:ShL ca.sheet (·∉A.fp) H' us old)(k:∀ b o,H b=#[d]->b≠A.ls->H' b=#[d]):Z1 ca H' A { S with old:=old }/\FrS A H H':=by
 have f:FrS A H H':=.one (by simp[SAd.fp]) k;have kt:=h.tups f;have ko:∀ x o,x∉A.fp->H x=#[d]->H' x=#[d]:=fun x o hx e=>f x o e hx;obtain⟨⟨n1,n2,n3,n4,n5,n6⟩,⟨n7,n8,n9,n10,n11⟩,⟨n12,n13,n14,n15⟩,⟨n16,n17,n18⟩,⟨n19,n20⟩,n21⟩:=G6 h.nd;have np:=Jm h (show A.ls∈A.fp by simp[SAd.fp]);obtain⟨⟨dx,v,a1,a2⟩,b,c,⟨kvs,d1,d2⟩,⟨vs,f1,f2⟩,⟨us',g1,g2⟩,nd,np'⟩:=h;exact⟨⟨⟨dx,v,k _ _ a1 n5,a2.keep ko kt⟩,b.keep (fun o e=>k _ o e np.1) (fun o e=>k _ o e n10) kt,c.keep (fun o e=>k _ o e np.2) (fun o e=>k _ o e n14) (fun o e=>k _ o e n17) kt,⟨kvs,k _ _ d1 n19,d2⟩,⟨us,hd,ok⟩,⟨us',k _ _ g1 (Ne.symm n21),g2.keep ko kt⟩,nd,np'⟩,f⟩
theorem Z1.setLed(h:#[O])(l:Uu ca.ledger H' A.pl A.lr A.ld Rs)(k:∀ b o,H b=#[d]->b≠A.lr->b≠A.ld->H' b=#[d]):Z1 ca H' A { S with led:=Rs }/\FrS A H H':=by
 have f:FrS A H H':=fun b o e hb=>k b o e #[av,hb] #[av,hb];have kt:=h.tups f;have ko:∀ x o,x∉A.fp->H x=#[d]->H' x=#[d]:=fun x o hx e=>f x o e hx;obtain⟨⟨n1,n2,n3,n4,n5,n6⟩,⟨n7,n8,n9,n10,n11⟩,⟨n12,n13,n14,n15⟩,⟨n16,n17,n18⟩,⟨n19,n20⟩,n21⟩:=G6 h.nd;have np:=Jm h (show A.lr∈A.fp by simp[SAd.fp]);have np2:=Jm h (show A.ld∈A.fp by simp[SAd.fp]);obtain⟨⟨dx,v,a1,a2⟩,b,c,⟨kvs,d1,d2⟩,⟨vs,f1,f2⟩,⟨us',g1,g2⟩,nd,np'⟩:=h;exact⟨⟨⟨dx,v,k _ _ a1 n2 n3,a2.keep ko kt⟩,b.keep (fun o e=>k _ o e np.1 np2.1) (fun o e=>k _ o e n7 n8) kt,l,⟨kvs,k _ _ d1 (Ne.symm n13) (Ne.symm n16),d2⟩,⟨vs,k _ _ f1 (Ne.symm n14) (Ne.symm n17),f2.keep ko kt⟩,⟨us',k _ _ g1 (Ne.symm n15) (Ne.symm n18),g2.keep ko kt⟩,nd,np'⟩,f⟩
theorem Ma:putF "sheet" v' (seaF A l r v)=seaF A l r v':=by
 have n1:¬ (("length":Str)="sheet"):=by decide +kernel
 have n2:¬ (("rest":Str)="sheet"):=by decide +kernel
 have n3:¬ (("roster":Str)="sheet"):=by decide +kernel
 have n4:¬ (("ledger":Str)="sheet"):=by decide +kernel
 have n5:¬ (("absent":Str)="sheet"):=by decide +kernel
 have n6:¬ (("sheets":Str)="sheet"):=by decide +kernel
 simp only[putF,seaF,#[h,n1],#[h,n2],#[h,n3],#[h,n4],#[h,n5],#[h,n6],if_true]
theorem FrS.free(f:FrS A H H')(h:Z1 ca H' A S')(hl:H' l=none):H l=none:=by
 cases e:H l with
 | none=>rfl
 | some o =>
   by_cases hm:l∈A.fp
   ·obtain⟨o',e'⟩:=h.there l hm;rw[e'] at hl;cases hl
   ·rw[f l o e hm] at hl;cases hl
theorem ShAt.ins(h:ShAt ca.sheet (·∉A.fp) H q s):∃ dx l1 l2 l3 l4,H q=some (.ins ca.sheet dx (shF l1 l2 l3 l4)):=by
 obtain⟨dx,l1,l2,l3,l4,_,_,_,a1,_⟩:=h;exact⟨dx,l1,l2,l3,l4,a1⟩
theorem Z1.newSheet(h:#[O])(hp:H A.p=some (.ins ca.season dx (seaF A S.len S.rest v)))(sh:ShAt ca.sheet (·∉A.fp) H q s) :
  Z1 ca (upd H A.p (.ins ca.season dx (putF "sheet" (.ref q) (seaF A S.len S.rest v)))) A { S with cur:=some s }/\FrS A H (upd H A.p (.ins ca.season dx (putF "sheet" (.ref q) (seaF A S.len S.rest v))))/\ShAt ca.sheet (·∉A.fp) (upd H A.p (.ins ca.season dx (putF "sheet" (.ref q) (seaF A S.len S.rest v)))) q s:=by
 have k:∀ b o,H b=#[d]->b≠A.p->upd H A.p (.ins ca.season dx (putF "sheet" (.ref q) (seaF A S.len S.rest v))) b=#[d]:=fun b o e n=>by rw[Zh n];exact e
 have sh':=sh.keep (H':=upd H A.p (.ins ca.season dx (putF "sheet" (.ref q) (seaF A S.len S.rest v)))) (fun x o hx e=>k x o e #[av,hx]) fun t xs e=>k t _ e (Y6 e hp (fun z=>nomatch z));obtain⟨h1,h2⟩:=h.setCur (cur:=some s) (v:=.ref q) ⟨dx,by rw[Ze];exact congrArg (fun x=>some (HO.ins ca.season dx x)) Ma⟩ #[q,q,sh'] k;exact⟨h1,h2,sh'⟩
theorem E3:putF "standing" (.ref x) (seaF A l r v)=seaF { A with lt:=x } l r v:=by
 have n1:¬ (("length":Str)="standing"):=by decide +kernel
 have n2:¬ (("rest":Str)="standing"):=by decide +kernel
 have n3:¬ (("roster":Str)="standing"):=by decide +kernel
 have n4:¬ (("ledger":Str)="standing"):=by decide +kernel
 have n5:¬ (("absent":Str)="standing"):=by decide +kernel
 have n6:¬ (("sheets":Str)="standing"):=by decide +kernel
 have n7:¬ (("sheet":Str)="standing"):=by decide +kernel
 simp only[putF,seaF,#[h,n1],#[h,n2],#[h,n3],#[h,n4],#[h,n5],#[h,n6],#[h,n7],if_true]
end
def zhm(r q:Nat):Sea:=⟨r,q,[],[],[],[],none,[]⟩
inductive zd2(ca:CA)(vs:#[a])(H:Hp)(Q:VK)(E:XK):Prop where
 | mk(p dx:Addr)(r q:Int)(_:vs=[.ref p,.int r,.int q])(_:H p=some (.ins ca.season dx []))(_:Yq r)(_:Yq q)(_:if r<0\/60<r then #[K,ca.out] else if q<0\/10<q then #[K,ca.out] else ∀ A H',A.p=p->Z1 ca H' A (zhm r.toNat q.toNat)->(∀ b o,H b=some o->b≠p->H' b=some o)->(∀ x∈A.fp,x≠p->H x=none)->Q .non H')
inductive zd3(ca:CA)(vs:#[a])(H:Hp)(Q:VK)(E:XK):Prop where
 | mk(A:SAd)(S:Sea)(n g c:Int)(_:vs=[.ref A.p,.int n,.int g,.int c])(_:#[O])(_:Bu n g c)(_:S.std.length<=1000)(_:S.ppl.length<=1000)(_:if S.len<=S.led.length then #[K,ca.seaOver] else if S.cur.isSome then #[K,ca.drawn] else if badI n g c then #[K,ca.out] else if n∈S.ppl.map (·.1) then #[K,ca.known] else if 30<=S.ppl.length then #[K,ca.many] else if 100<=S.std.length then #[K,ca.manyD] else ∀ H',Z1 ca H' A { S with ppl:=S.ppl++[(n,g,c)],std:=S.std++[(((("enrol":Str),n,atV S):Tv),S.cur)] }->FrS A H H'->Q .non H')
def zhn(S:Sea)(ms:List P3)(gv:#[a]):Sea:={ S with cur:=some ⟨ms,mayS S ms,gv,[]⟩,std:=S.std++[(((("draw up":Str),(ms.length:Int),atV S):Tv),S.cur)] }
inductive za4(K:Frag)(ca:CA)(vs:#[a])(H:Hp)(Q:VK)(E:XK):Prop where
 | mk(A:SAd)(S:Sea)(b:Addr)(ts:#[a])(ms:List P3)(_:vs=[.ref A.p,.ref b])(_:#[O])(_:SqL K H b ts)(_:Z7 H ts (ms.map pV))(_:(∀ m∈ms,G4 m))(_:ms.length<=1000)(_:S.std.length<=1000)(_:Od S)(_:if S.len<=S.led.length then #[K,ca.seaOver] else if S.cur.isSome then #[K,ca.drawn] else (20<ms.length->#[K,ca.manyM])/\(ms.length<=20->Qt ms->#[K,ca.out])/\(ms.length<=20->¬ Qt ms->Qu ms->#[K,ca.same])/\(ms.length<=20->¬ Qt ms->¬ Qu ms->(100<=S.std.length->∀ H',Same H H'->E (.ref ca.manyD) none H')/\(S.std.length<100->∀ l gv H',H' l=some (.lst gv)->Z1 ca H' A (zhn S ms gv)->Ye (mayS S ms) gv->Vw (mayS S ms) gv->FrS A H H'->H l=none->Q (.ref l) H')))
inductive za5(ca:CA)(vs:#[a])(H:Hp)(Q:VK)(_:XK):Prop where
 | mk(A:SAd)(S:Sea)(n:Int)(s:Z4)(nu:#[o])(_:vs=[.ref A.p,.int n])(_:#[O])(_:S.cur=some s)(_:Od S)(_:s.ms.length<=20)(_:(∀ x∈s.gv,oneV x))(_:s.gv.length<=100)(_:s.gaps.length<=500)(_:Uv (mayS S s.ms) nu)(_:(Wh s.gv n=none->∀ l H',H' l=#[r,[]]->Z1 ca H' A { S with cur:=some { s with may:=mayS S s.ms } }->FrS A H H'->H l=none->#[S,l]))(_:∀ p,Wh s.gv n=some p->s.gv[p]?=#[e,n]/\(∀ j:Nat,s.gv[j]?=some (.int n)->j=p)/\Ye (mayS S s.ms) (s.gv.set p .non)/\∀ l us st e w H',H' l=#[r,us]->Z7 H' us (st.map Wz)->Y4 (mayS S s.ms) (s.gv.set p .non) p st e w->Z1 ca H' A { S with cur:=some ⟨s.ms,mayS S s.ms,Yj st (s.gv.set p .non),s.gaps++[(n,st)]⟩ }->FrS A H H'->H l=none->#[S,l])
def Xw(S:Sea)(i n:Int):Sea:={ S with out:=S.out++[(i,n)],std:=S.std++[((("away":Str),n,i),S.cur)] }
inductive zho(ca:CA)(vs:#[a])(H:Hp)(Q:VK)(E:XK):Prop where
 | mk(A:SAd)(S:Sea)(i n:Int)(_:vs=[.ref A.p,.int i,.int n])(_:#[O])(_:Yq i)(_:Yq n)(_:S.std.length<=1000)(_:S.out.length<=100000)(_:Od S)(_:(∀ s,S.cur=some s->s.ms.length<=20/\Ye s.may s.gv/\s.may=mayS S s.ms/\s.gaps.length<=500))(_:if i<1\/(S.len:Int)<i then #[K,ca.noRound] else if i<=S.led.length then #[K,ca.over] else if n∈S.ppl.map (·.1) then (if (i,n)∈S.out then ∀ H',Same H H'->E (.ref ca.away) none H' else if 100<=S.std.length then ∀ H',Same H H'->E (.ref ca.manyD) none H' else (S.cur=none\/atV S<i->∀ l H',H' l=some (.lst [])->Z1 ca H' A (Xw S i n)->FrS A H H'->H l=none->Q (.ref l) H')/\(∀ s,i=atV S->S.cur=some s->Wh s.gv n=none->∀ l H',H' l=some (.lst [])->Z1 ca H' A { Xw S i n with cur:=some { s with may:=mayS (Xw S i n) s.ms } }->FrS A H H'->H l=none->Q (.ref l) H')/\(∀ s p,i=atV S->S.cur=some s->Wh s.gv n=some p->∀ l us st e w H',H' l=some (.lst us)->Z7 H' us (st.map Wz)->Y4 (mayS (Xw S i n) s.ms) (s.gv.set p .non) p st e w->Z1 ca H' A { Xw S i n with cur:=some ⟨s.ms,mayS (Xw S i n) s.ms,Yj st (s.gv.set p .non),s.gaps++[(n,st)]⟩ }->FrS A H H'->H l=none->Q (.ref l) H')) else #[K,ca.unk])
theorem Oc.put(h:Oc kvs out)(i n:Int):Oc (putK kvs [inl i,inl n] (.bl true)) (out++[(i,n)]):=by
 refine⟨fun j m=>?_,?_⟩
 ·rw[Vr];by_cases e:j=i/\m=n
  ·rw[if_pos (O3.mpr e),zwu (by rw[e.1,e.2];simp)];rfl
  ·rw[#[h,fun z=>e (O3.mp z)],h.1 j m];by_cases hm:(j,m)∈out
   ·rw[zwu hm,zwu (zxa _ hm)]
   ·rw[zwz hm,zwz];intro z;rcases zw0.mp z with q|q
    ·exact hm q
    ·have:=zwt.mp q;exact e (by cases this;exact⟨rfl,rfl⟩)
 ·have:=Xm kvs ([inl i,inl n]:List Key) (.bl true);have:=h.2;rw[zwr];show _<=out.length+1;omega
theorem Oc.drop(h:Oc kvs (out++[(i,n)]))(hn:(i,n)∉out):Oc (Wo kvs [inl i,inl n]) out:=by
 have hv:∀ k:List Key,valV (Wo kvs [inl i,inl n]) k=if k=[inl i,inl n] then none else valV kvs k:=fun k=>by
  clear h
  induction kvs with
  | nil=>unfold Wo;simp[valV]
  | cons x kvs ih =>
    by_cases ex:x.1=[inl i,inl n]
    ·rw[zex ex,ih];by_cases e:k=[inl i,inl n]
     ·rw[if_pos e,if_pos e]
     ·rw[#[h,e],#[h,e],Y7 fun z=>e (z.symm.trans ex)]
    ·rw[zey ex];by_cases ek:x.1=k
     ·rw[Xl ek,Xl ek,#[h,fun z=>ex (ek.trans z)]]
     ·rw[Y7 ek,Y7 ek,ih]
 refine⟨fun j m=>?_,?_⟩
 ·rw[hv];by_cases e:j=i/\m=n
  ·rw[if_pos (O3.mpr e),zwz (by rw[e.1,e.2];exact hn)];rfl
  ·rw[#[h,fun z=>e (O3.mp z)],h.1 j m];by_cases hm:(j,m)∈out
   ·rw[zwu hm,zwu (zxa _ hm)]
   ·rw[zwz hm,zwz];intro z;rcases zw0.mp z with q|q
    ·exact hm q
    ·have:=zwt.mp q;exact e (by cases this;exact⟨rfl,rfl⟩)
 ·have h1:=h.1 i n;rw[zwu (show (i,n)∈out++[(i,n)] by simp)] at h1;have h2:=h.2;rw[zwr] at h2;have h2:kvs.length<=out.length+1:=h2;have h3:(Wo kvs [inl i,inl n]).length<kvs.length:=by
   unfold Wo;rw[List.length_filter_lt_length_iff_exists];obtain⟨v,hv'⟩:=zyd.mp h1;unfold valV at hv';obtain⟨x,hx,_⟩:=zyu.mp hv';refine⟨x,List.mem_of_find?_eq_some hx,?_⟩;have:=List.find?_some hx;intro z;exact of_decide_eq_true z (of_decide_eq_true this)
  omega
theorem Qv(h:Wh gv n=some p):gv[p]?=#[e,n]:=by
 unfold Wh at h;have h2:#[g,gv[p]?=#[b,V.int,n]]=true:=List.find?_some (p:=fun i=>decide (gv[i]?=some (V.int n))) h;exact of_decide_eq_true h2
theorem Ua:mayS (Xw S (atV S) n) ms=without (mayS S ms) n:=by
 unfold mayS without;rw[zxt];refine zx7 fun m _=>?_;show G3 (Xw S (atV S) n) m=(G3 S m).filter fun x=>#[g,x≠n];unfold G3;rw[List.filter_map,List.filter_filter]
 congr 1
 refine List.filter_congr fun x _=>?_;show (whyS S.led x.1 x.2.1 x.2.2 m.1 m.2.1 m.2.2 (pIn (S.out++[(atV S,n)]) (atV S) x) S.rest).isEmpty=(#[g,x.1≠n]&&(whyS S.led x.1 x.2.1 x.2.2 m.1 m.2.1 m.2.2 (pIn S.out (atV S) x) S.rest).isEmpty);unfold pIn;by_cases e:x.1=n
 ·have h1:#[g,(atV S,x.1)∈S.out++[(atV S,n)]]=true:=zwu (by rw[e];simp);rw[h1,zwz fun z=>z e,Bool.false_and];unfold whyS bw;simp
 ·have h1:#[g,(atV S,x.1)∈S.out++[(atV S,n)]]=#[g,(atV S,x.1)∈S.out]:=by
   by_cases hm:(atV S,x.1)∈S.out
   ·rw[zwu hm,zwu (zxa _ hm)]
   ·rw[zwz hm,zwz];intro z;rcases zw0.mp z with q|q
    ·exact hm q
    ·have:=zwt.mp q;cases this;exact e rfl
  rw[h1,zwu e,Bool.true_and]
def B1(S:Sea)(s:Z4):Sea:={ S with led:=S.led++[Z9 s],old:=S.old++[s],cur:=none,std:=[] }
inductive zd4(ca:CA)(vs:#[a])(H:Hp)(Q:VK)(E:XK):Prop where
 | mk(A:SAd)(S:Sea)(_:vs=[.ref A.p])(_:#[O])(_:2*(tot S.led+1000)<=100000)(_:S.led.length<=1000)(_:S.old.length<=1000)(_:(∀ s,S.cur=some s->(∀ x∈s.gv,oneV x)/\s.gv.length=s.ms.length/\s.ms.length<=1000))(_:if S.len<=S.led.length then #[K,ca.seaOver] else (S.cur=none->#[K,ca.notDrawn])/\∀ s x H',S.cur=some s->Z1 ca H' { A with lt:=x } (B1 S s)->FrS A H H'->H x=none->Q (.int (atV S)) H')
theorem Z1.freshStd(h:#[O])(hx:H x=none)(hp:H A.p=some (.ins ca.season dx (seaF A S.len S.rest v)))(hv:ShO ca.sheet (·∉A.fp) H v S.cur)
  (e:H'=upd (upd H x (.lst [])) A.p (.ins ca.season dx (putF "standing" (.ref x) (seaF A S.len S.rest v)))):Z1 ca H' { A with lt:=x } { S with std:=[] }/\FrS A H H':=by
 have hpx:A.p≠x:=Zg hp hx;have k:∀ b o,H b=#[d]->b≠A.p->H' b=#[d]:=fun b o q n=>by rw[e,Zh n,Zh (Zg q hx)];exact q
 have f:FrS A H H':=.one (by simp[SAd.fp]) k;have kt:=h.tups f;have hnx:∀ y,(∃ o,H y=some o)->y≠x:=fun y ⟨o,q⟩=>Zg q hx;have okk:∀ y,(∃ o,H' y=some o)->y∉A.fp->(∃ o,H y=some o)->y∉({ A with lt:=x }:SAd).fp:=fun y _ hy hH hm=>by
  simp only[SAd.fp,zwy,zx2,or_false] at hm hy;rcases hm with q|q|q|q|q|q|q
  ·exact hy (.inl q)
  ·exact hy (.inr (.inl q))
  ·exact hy (.inr (.inr (.inl q)))
  ·exact hy (.inr (.inr (.inr (.inl q))))
  ·exact hy (.inr (.inr (.inr (.inr (.inl q)))))
  ·exact hy (.inr (.inr (.inr (.inr (.inr (.inl q))))))
  ·exact hnx y hH q
 have ok2:∀ y,(∃ o,H y=some o)->y∉A.fp->y∉({ A with lt:=x }:SAd).fp:=fun y hH hy hm=>by
  simp only[SAd.fp,zwy,zx2,or_false] at hm hy;rcases hm with q|q|q|q|q|q|q
  ·exact hy (.inl q)
  ·exact hy (.inr (.inl q))
  ·exact hy (.inr (.inr (.inl q)))
  ·exact hy (.inr (.inr (.inr (.inl q))))
  ·exact hy (.inr (.inr (.inr (.inr (.inl q)))))
  ·exact hy (.inr (.inr (.inr (.inr (.inr (.inl q))))))
  ·exact hnx y hH q
 have ko:∀ y o,y∉({ A with lt:=x }:SAd).fp->H y=#[d]->H' y=#[d]:=fun y o hy q=>k y o q #[av,hy];have there:=h.there;obtain⟨⟨n1,n2,n3,n4,n5,n6⟩,⟨n7,n8,n9,n10,n11⟩,⟨n12,n13,n14,n15⟩,⟨n16,n17,n18⟩,⟨n19,n20⟩,n21⟩:=G6 h.nd;have np:=Jm h (show A.p∈A.fp by simp[SAd.fp]);have npp:=h.np;obtain⟨⟨dx',v',a1,a2⟩,b,c,⟨kvs',d1,d2⟩,⟨vs,f1,f2⟩,⟨us,g1,g2⟩,nd,np'⟩:=h;have hpr:∃ o,H A.pr=#[d]:=by obtain⟨⟨_,_,q,_⟩,_⟩:=b;exact⟨_,q⟩
 have hpl:∃ o,H A.pl=#[d]:=by obtain⟨⟨_,q⟩,_⟩:=c;exact⟨_,q⟩
 refine⟨⟨⟨dx,v,?_,(hv.imp ok2).keep ko kt⟩,b.keep (fun o q=>k _ o q np.1) (fun o q=>k _ o q (Ne.symm n1)) kt,c.keep (fun o q=>k _ o q np.2) (fun o q=>k _ o q (Ne.symm n2)) (fun o q=>k _ o q (Ne.symm n3)) kt,⟨kvs',k _ _ d1 (Ne.symm n4),d2⟩,⟨vs,k _ _ f1 (Ne.symm n5),(f2.imp ok2).keep ko kt⟩,⟨[],?_,?_⟩,?_,⟨ok2 _ hpr npp.1,ok2 _ hpl npp.2⟩⟩,f⟩
 ·rw[e,Ze];exact congrArg (fun z=>some (HO.ins ca.season dx z)) E3
 ·show #[y,H',x,[]];rw[e,Zh (Ne.symm hpx),Ze]
 ·exact .nil
 ·show [A.p,A.dr,A.lr,A.ld,A.da,A.ls,x].Nodup;have m:∀ y∈A.fp,y≠x:=fun y hy=>hnx y (there y hy);simp only[zxi,zwy,zx2,or_false,not_or];exact⟨⟨n1,n2,n3,n4,n5,m _ (by simp[SAd.fp])⟩,⟨n7,n8,n9,n10,m _ (by simp[SAd.fp])⟩,⟨n12,n13,n14,m _ (by simp[SAd.fp])⟩,⟨n16,n17,m _ (by simp[SAd.fp])⟩,⟨n19,m _ (by simp[SAd.fp])⟩,m _ (by simp[SAd.fp]),by simp,zyo⟩
def zhp(S:Sea)(d:Tv)(ppl:RL)(out:List (Int×Int)):Prop:=(d.1="enrol"/\(∃ g c,S.ppl=ppl++[(d.2.1,g,c)])/\out=S.out)\/(d.1="away"/\ppl=S.ppl/\S.out=out++[(d.2.2,d.2.1)]/\(d.2.2,d.2.1)∉out)\/(d.1="draw up"/\ppl=S.ppl/\out=S.out)
inductive G7(ca:CA)(vs:#[a])(H:Hp)(Q:VK)(E:XK):Prop where
 | mk(A:SAd)(S:Sea)(_:vs=[.ref A.p])(_:#[O])(_:(S.std=[]->#[K,ca.nothing]))(_:∀ std d s,S.std=std++[(d,s)]->∃ ppl out,zhp S d ppl out/\∀ t H',H' t=some (.tup (Vj d))->Z1 ca H' A { S with ppl:=ppl,out:=out,cur:=s,std:=std }->FrS A H H'->#[S,t])
inductive Hk(ca:CA)(vs:#[a])(H:Hp)(Q:VK)(_:XK):Prop where
 | mk(A:SAd)(S:Sea)(_:vs=[.ref A.p])(_:#[O])(_:S.std.length<=1000)(_:∀ l ts H',H' l=#[r,ts]->Z7 H' ts (S.std.map fun x=>Vj x.1)->#[j]->H l=none->Q (.ref l) H')
def B2(ca:CA)(H:Hp)(S:Sea)(i:Int)(E:XK)(k:Z4->Prop):Prop:=Yq i/\S.old.length=S.led.length/\if i<1\/(S.len:Int)<i then #[K,ca.noRound] else (V9 S i=none->#[K,ca.notDrawn])/\∀ s,V9 S i=some s->k s
inductive zhq(ca:CA)(vs:#[a])(H:Hp)(Q:VK)(E:XK):Prop where
 | mk(A:SAd)(S:Sea)(i:Int)(_:vs=[.ref A.p,.int i])(_:#[O])(_:B2 ca H S i E fun s=>∀ l H',H' l=#[r,s.gv]->#[j]->H l=none->#[S,l])
inductive zjz(ca:CA)(vs:#[a])(H:Hp)(Q:VK)(E:XK):Prop where
 | mk(A:SAd)(S:Sea)(i:Int)(_:vs=[.ref A.p,.int i])(_:#[O])(_:B2 ca H S i E fun s=>(∃ nu,Uv s.may nu)/\Ye s.may s.gv/\zao s.may s.gv/\∀ t lp lr ps rs H',H' t=#[J,[.ref lp,.ref lr]]->H' lp=#[I,Yf,ps]->H' lr=#[I,rs.map,V.int]->Gx s.may s.gv ps rs->#[j]->H t=none->H lp=none->H lr=none->lp≠lr->#[S,t])
inductive zj0(ca:CA)(vs:#[a])(H:Hp)(Q:VK)(E:XK):Prop where
 | mk(A:SAd)(S:Sea)(i:Int)(_:vs=[.ref A.p,.int i])(_:#[O])(_:Yq i)(_:(S.cur=none->#[K,ca.notDrawn]))(_:∀ s,S.cur=some s->s.may.length=s.ms.length/\(i<0\/(s.ms.length:Int)<=i->#[K,ca.noMatch])/\∀ (k:Nat) r,i=(k:Int)->s.may[k]?=some r->∀ l H',H' l=#[I,r.map,V.int]->#[j]->H l=none->#[S,l])
theorem Sa(ks:List Str):∀ {fs:List (Str×V)},fs.map (·.1)=ks->(ks.all fun x=>!#[g,x=f])=true->putF f v fs=fs++[(f,v)]:=by
 intro fs hk h;subst hk
 induction fs with
 | nil=>rfl
 | cons x fs ih =>
   rw[zw2,List.all_cons,zx6,Bool.not_eq_true',decide_eq_false_iff_not] at h;obtain⟨k,y⟩:=x;show (if k=f then _ else _)=_;rw[#[h,h.1],ih h.2];rfl
def sF1(l:V):#[aa]:=[("length",l)]
def sF2(l r:V):#[aa]:=[("length",l),("rest",r)]
def sF3(l r a:V):#[aa]:=[("length",l),("rest",r),("roster",a)]
def sF4(l r a b:V):#[aa]:=[("length",l),("rest",r),("roster",a),("ledger",b)]
def sF5(l r a b c:V):#[aa]:=[("length",l),("rest",r),("roster",a),("ledger",b),("absent",c)]
def sF6(l r a b c d:V):#[aa]:=[("length",l),("rest",r),("roster",a),("ledger",b),("absent",c),("sheets",d)]
def sF7(l r a b c d e:V):#[aa]:=[("length",l),("rest",r),("roster",a),("ledger",b),("absent",c),("sheets",d),("sheet",e)]
def sF8(l r a b c d e f:V):#[aa]:=[("length",l),("rest",r),("roster",a),("ledger",b),("absent",c),("sheets",d),("sheet",e),("standing",f)]
theorem pF1:putF "length" l []=sF1 l:=rfl
theorem pF2:putF "rest" r (sF1 l)=sF2 l r:=Sa ["length"] rfl ⋯
theorem pF3:putF "roster" a (sF2 l r)=sF3 l r a:=Sa ["length","rest"] rfl ⋯
theorem pF4:putF "ledger" b (sF3 l r a)=sF4 l r a b:=Sa ["length","rest","roster"] rfl ⋯
theorem pF5:putF "absent" c (sF4 l r a b)=sF5 l r a b c:=Sa ["length","rest","roster","ledger"] rfl ⋯
theorem pF6:putF "sheets" d (sF5 l r a b c)=sF6 l r a b c d:=Sa ["length","rest","roster","ledger","absent"] rfl ⋯
theorem pF7:putF "sheet" e (sF6 l r a b c d)=sF7 l r a b c d e:=Sa ["length","rest","roster","ledger","absent","sheets"] rfl ⋯
theorem pF8:putF "standing" f (sF7 l r a b c d e)=sF8 l r a b c d e f:=Sa ["length","rest","roster","ledger","absent","sheets","sheet"] rfl ⋯
theorem Ub.free{p:Addr}{H H':Hp}{x:Addr}(hb:∀ b o,H b=#[d]->b≠p->H' b=#[d])(hp:∃ o,H' p=#[d])(hx:H' x=none):H x=none:=by
 cases e:H x with
 | none=>rfl
 | some o =>
   by_cases z:x=p
   ·subst z;obtain⟨o',q⟩:=hp;rw[q] at hx;cases hx
   ·rw[hb x o e z] at hx;cases hx
def Ub(p:Addr)(H H':Hp):Prop:=∀ b o,H b=#[d]->b≠p->H' b=#[d]
theorem Ub.trans(a:Ub p H1 H2)(b:Ub p H2 H3):Ub p H1 H3:=fun x o e n=>b x o (a x o e n) n
theorem Ub.of(a:Same H1 H2):Ub p H1 H2:=fun x o e _=>a x o e
theorem Ub.put:Ub p H (upd H p o):=fun x o e n=>by rw[Zh n];exact e
end G
namespace L2
open PySem PySem.Spec PyProof.Rows
theorem zcp:V5 X (.type "dict") (fun xs H Q=>∃ a kvs,xs=[.ref a]/\Rd H a (.dK kvs)/\∀ p,H p=none->Q (.ref p) (upd H p (.dK kvs))):=by
 intro pins s σ H xs us Q I r h;obtain⟨a,kvs,rfl,ha,q⟩:=h;obtain⟨u,rfl,ru⟩:=T3 r;cases (show u=Value.ref a from ru);exact zgo I ha fun p s' hp I'=>⟨.ref p,_,I',rfl,q p hp⟩
end L2
namespace G
open PySem PySem.Spec PyProof.Rows L2
def Jn:#[o]:=[0,1,2,3,4,5,6,7,8,9,10,0,0,0,1,1,1,2,2,0,1,3]
inductive za6(K:Frag)(vs:#[a])(H:Hp)(Q:VK)(_:XK):Prop where
 | mk(b:Addr)(ns:#[o])(_:vs=[.ref b])(_:SqL K H b (ns.map V.int))(_:∀ (q:Nat) H',q=(Jn.getD (Xe ns 1%22).toNat 0).toNat->q<=10->#[j]->Q (.int q) H')
def Oe(ns:#[o]):Int:=if Xe ns 0/2%2=0 then 60 else 1+Xe ns 1/22%60
inductive G8(K:Frag)(vs:#[a])(H:Hp)(Q:VK)(_:XK):Prop where
 | mk(b:Addr)(ns:#[o])(_:vs=[.ref b])(_:SqL K H b (ns.map V.int))(_:∀ (r:Nat) H',r=(Oe ns).toNat->1<=r->r<=60->#[j]->Q (.int r) H')
inductive za7(K:Frag)(vs:#[a])(H:Hp)(Q:VK)(_:XK):Prop where
 | mk(b:Addr)(ns:#[o])(k:Nat)(_:vs=[.ref b,.int k])(_:SqL K H b (ns.map V.int))(_:k<ns.length)(_:∀ c H',#[j]->Q (.int c) H')
structure Mb(H:Hp)(t lc ln:Addr)(cs nu:#[o]):Prop where
 tup:#[N,H,t,[.ref lc,.ref ln]]
 clubs:H lc=some (.lst (cs.map V.int))
 nums:H ln=some (.lst (nu.map V.int))
 few:3<=cs.length/\cs.length<=10
 cnd:cs.Nodup
 crng:∀ c∈cs,1<=c/\c<=99
 nfew:1<=nu.length/\nu.length<=30
 nnd:nu.Nodup
 nrng:∀ n∈nu,1<=n/\n<=999
theorem Mb.same{H H':Hp}{t lc ln:Addr}{cs nu:#[o]}(h:Mb H t lc ln cs nu)(e:#[j]):Mb H' t lc ln cs nu:=⟨e _ _ h.tup,e _ _ h.clubs,e _ _ h.nums,h.few,h.cnd,h.crng,h.nfew,h.nnd,h.nrng⟩
inductive za8(K:Frag)(vs:#[a])(H:Hp)(Q:VK)(_:XK):Prop where
 | mk(b:Addr)(ns:#[o])(cr:Nat)(_:vs=[.ref b,.int cr])(_:SqL K H b (ns.map V.int))(_:1<=cr)(_:cr<=30)(_:∀ t lc ln cs nu H',Mb H' t lc ln cs nu->nu.length=cr->#[j]->H t=none->H lc=none->H ln=none->#[S,t])
theorem za9(c:Int)(hi:i<10)(hj:j<10)(h:Cg c i=Cg c j):i=j:=by
 unfold Cg at h;have hs:Bn c=1\/Bn c=2\/Bn c=5\/Bn c=10\/Bn c=50\/Bn c=97\/Bn c=98:=by
  unfold Bn;have h0:0<=c%7:=by omega
  have h1:c%7<7:=by omega
  generalize c%7=r at h0 h1;obtain⟨k,rfl⟩:∃ k:Nat,r=k:=⟨r.toNat,by omega⟩;rw[zw3];have hk:k<7:=by omega
  match k,hk with
  | 0,_=>simp
  | 1,_=>simp
  | 2,_=>simp
  | 3,_=>simp
  | 4,_=>simp
  | 5,_=>simp
  | 6,_=>simp
 generalize c/7=x at h;rcases hs with e|e|e|e|e|e|e<;>rw[e] at h<;>omega +splitMinMax
theorem zba(c:Int)(hm:m<=10):(P6 c m).Nodup:=by
 unfold P6;rw[zyk,List.pairwise_map];refine List.Pairwise.imp_of_mem (fun {i j} hi hj (hne:i≠j) z=>?_) (zyk.mp List.nodup_range);exact hne (za9 c (by have:=zxr.mp hi;omega) (by have:=zxr.mp hj;omega) z)
theorem zfk(c:Int)(m:Nat):∀ n∈P6 c m,1<=n/\n<=99:=fun n hn=>by
 unfold P6 at hn;obtain⟨j,_,rfl⟩:=zwx.mp hn;unfold Cg;omega
theorem zbb(c:Int)(hm:m<=40):(Jf c m).Nodup:=by
 unfold Jf;rw[zyk,List.pairwise_map];refine List.Pairwise.imp_of_mem (fun {i j} hi hj (hne:i≠j) z=>?_) (zyk.mp List.nodup_range);exact hne (zg1 c (by have:=zxr.mp hi;omega) (by have:=zxr.mp hj;omega) z)
theorem zfl(c:Int)(m:Nat):∀ n∈Jf c m,1<=n/\n<=999:=fun n hn=>by
 unfold Jf at hn;obtain⟨j,_,rfl⟩:=zwx.mp hn;unfold ze0;omega
inductive Wq where
 | enrol (n g c:Int)|away (i n:Int)|draw (ms:List P3)|close|back
def W0(ok:Addr->Prop)(H:Hp)(t:Addr):Wq->Prop
 | .enrol n g c=>#[N,H,t,[.str "enrol",.int n,.int g,.int c]]
 | .away i n=>#[N,H,t,[.str "away",.int i,.int n]]
 | .draw ms=>∃ l ts,H t=#[J,[.str "draw up",.ref l]]/\H l=#[r,ts]/\Z7 H ts (ms.map pV)/\ok l
 | .close=>#[N,H,t,[.str "close"]]
 | .back=>#[N,H,t,[.str "take back"]]
def zhr(S:Sea):Prop:=∀ s,S.cur=some s->s.ms.length<=20/\Ye s.may s.gv/\Vw s.may s.gv/\s.may=mayS S s.ms/\s.gaps.length<=S.std.length
def Nk(S S':Sea):Prop:=∃ d:Tv,S'.std=S.std++[(d,S.cur)]/\zhp S' d S.ppl S.out/\S'.len=S.len/\S'.rest=S.rest/\S'.led=S.led/\S'.old=S.old
def Jo(S:Sea):Wq->Prop
 | .enrol n g c=>S.led.length<S.len/\S.cur=none/\¬ badI n g c/\n∉S.ppl.map (·.1)/\S.ppl.length<30
 | .away i n=>(S.led.length:Int)<i/\i<=S.len/\n∈S.ppl.map (·.1)/\(i,n)∉S.out
 | .draw ms=>S.led.length<S.len/\S.cur=none/\ms.length<=20/\(∀ m∈ms,¬ badM m)/\∀ m∈ms,m.1≠m.2.1
 | .close=>S.led.length<S.len/\S.cur≠none
 | .back=>S.std≠[]
inductive R8(H':Hp)(S:Sea):Wq->Sea->V->Prop where
 | enrol (n g c:Int):R8 H' S (.enrol n g c) { S with ppl:=S.ppl++[(n,g,c)],std:=S.std++[(((("enrol":Str),n,atV S):Tv),S.cur)] } .non
 | awayN {i n:Int} {l:Addr} (h:S.cur=none\/atV S<i) (hl:#[y,H',l,[]]):R8 H' S (.away i n) (Xw S i n) (.ref l)
 | awayF {n:Int} {s:Z4} {l:Addr} (h:S.cur=some s) (hp:Wh s.gv n=none) (hl:#[y,H',l,[]]):R8 H' S (.away (atV S) n) { Xw S (atV S) n with cur:=some { s with may:=mayS (Xw S (atV S) n) s.ms } } (.ref l)
 | awayC {n:Int} {s:Z4} {p e:Nat} {l:Addr} {us:#[a]} {st:#[E]} {w:#[D]} (h:S.cur=some s) (hp:Wh s.gv n=some p) (hl:#[y,H',l,us]) (tl:Z7 H' us (st.map Wz)) (CR:Y4 (mayS (Xw S (atV S) n) s.ms) (s.gv.set p .non) p st e w) :
   R8 H' S (.away (atV S) n) { Xw S (atV S) n with cur:=some ⟨s.ms,mayS (Xw S (atV S) n) s.ms,Yj st (s.gv.set p .non),s.gaps++[(n,st)]⟩ } (.ref l)
 | draw {ms:List P3} {gv:#[a]} {l:Addr} (hl:#[y,H',l,gv]) (F:Ye (mayS S ms) gv) (T:Vw (mayS S ms) gv):R8 H' S (.draw ms) (zhn S ms gv) (.ref l)
 | close {s:Z4} (h:S.cur=some s):R8 H' S .close (B1 S s) (.int (atV S))
 | back {S0:Sea} {d:Tv} {t:Addr} (h:S.std=S0.std++[(d,S0.cur)]) (ht:H' t=some (.tup (Vj d))) (hs:Nk S0 S):R8 H' S .back S0 (.ref t)
def G9(A A':SAd)(H:Hp):Prop:=∃ x,A'={ A with lt:=x }/\(x=A.lt\/H x=none)
inductive zlf(K:Frag)(ca:CA)(vs:#[a])(H:Hp)(Q:VK)(_:XK):Prop where
 | mk(A:SAd)(S:Sea)(t:Addr)(d:Wq)(_:vs=[.ref A.p,.ref t])(_:#[O])(_:W0 (·∉A.fp) H t d)(_:Jo S d)(_:zhr S)(_:Od S)(_:S.std.length<100)(_:S.out.length<=100000)(_:2*(tot S.led+1000)<=100000)(_:S.led.length<=1000)(_:S.old.length<=1000)(_:S.len<=1000)(_:(∀ i n,d=.away i n->Yq n))(_:(d=.back->∃ S0,Nk S0 S))(_:∀ v A' S' H',R8 H' S d S' v->Z1 ca H' A' S'->G9 A A' H->FrS A H H'->(∀ l,v=.ref l->(∃ xs,H' l=some (.lst xs))->H l=none)->Q v H')
abbrev X3(b:List Stmt)(i:Nat):Stmt:=b.getD i (.Pass ⟨0,0,0,0⟩)
def zjd:Stmt->Expr|.Return (some e) _=>e|_=>.Constant .none 0 ⟨0,0,0,0⟩
def stP:Stmt->Pos|.Return _ p=>p|.Assign _ _ p=>p|_=>⟨0,0,0,0⟩
def zhs:Stmt->List Expr|.Assign ts _ _=>ts|_=>[]
def O9:Stmt->Expr|.Assign _ v _=>v|_=>.Constant .none 0 ⟨0,0,0,0⟩
def zbc:Expr->Expr|.Subscript a _ _=>a|e=>e
def zje:Expr->Expr|.Subscript _ b _=>b|e=>e
def zjf:Expr->Pos|.Subscript _ _ p=>p|_=>⟨0,0,0,0⟩
def zfm:Expr->List Expr|.List es _=>es|_=>[]
def zfn:Expr->Pos|.List _ p=>p|_=>⟨0,0,0,0⟩
def Jp:#[o]->TA
 | []=>tNil
 | x :: xs=>Ph (tC (.int x)) (Jp xs)
theorem C4:∀ (xs:List Int) (σ:L2.St) (H:Hp) (Q:List V->Hp->Prop),Q (xs.map V.int) H->Jp xs σ H Q
 | [],_,_,_,h=>h
 | x :: xs,σ,H,Q,h=>C4 xs σ H (fun ys H2=>Q (.int x :: ys) H2) h
structure Fb(es:List Expr)(xs:#[o]):Prop where
 len:es.length=xs.length
 same:List.zipWith (fun i (e:Expr)=>Expr.Constant (.int i) 0 e.pos) xs es=es
theorem O5(xs:#[o])(h:Fb es xs):PA X es (Jp xs):=by
 obtain⟨h1,h2⟩:=h
 induction xs generalizing es with
 | nil =>
   have:=zyh.mp h1;subst this;exact Zc
 | cons x xs ih =>
   cases es with
   | nil=>cases h1
   | cons e es =>
     rw[List.zipWith_cons_cons] at h2;obtain⟨e1,e2⟩:=List.cons.inj h2;rw[<- e1];exact Za Zf (ih (Nat.succ.inj h1) e2) rfl
theorem zbd(xs:#[o])(hz:xs.length<=1000)(h:∀ l,H l=none->Q (.ref l) (upd H l (.lst (xs.map V.int)))):tLst (Jp xs) σ H Q:=by
 refine C4 xs σ H _ ⟨?_,h⟩;rw[zwo];exact szN hz
theorem zd5{K:Frag}(xs:#[o]){ti:TE}{σ:L2.St}{H:Hp}{Q:VK}(hz:xs.length<=1000)(h:∀ l H1,H1 l=#[I,xs.map,V.int]->Same H H1->H l=none->ti σ H1 fun y H2=>Et K (.ref l) y H2 Q):tOp (Et K) (tLst (Jp xs)) ti σ H Q :=
 zbd xs hz fun l hl=>h l _ Ze (Zj hl) hl
theorem zlg{K:Frag}(xs:#[o]){ti:TE}{D:Pp}{σ:L2.St}{H:Hp}(hz:xs.length<=1000)(h:∀ l H1,H1 l=#[I,xs.map,V.int]->Same H H1->H l=none->ti σ H1 fun y H2=>Et K (.ref l) y H2 D.rt):zef (tOp (Et K) (tLst (Jp xs)) ti) D σ H:=zd5 (Q:=D.rt) xs hz h
theorem zlh{K:Frag}(xs:#[o]){ti:TE}{i:Nat}{u:TS}{D:Pp}{σ:L2.St}{H:Hp}(hz:xs.length<=1000)(h:∀ l H1,H1 l=#[I,xs.map,V.int]->Same H H1->H l=none->ti σ H1 fun y H2=>Et K (.ref l) y H2 fun x H3=>u D (σ.set i (some x)) H3):Zw (zeg (tOp (Et K) (tLst (Jp xs)) ti) (Vp i)) u D σ H:=zd5 xs hz h
theorem zbe(xs:#[o])(hz:xs.length<=1000)(h:∀ l H1,H1 l=#[I,xs.map,V.int]->Same H H1->H l=none->u D (σ.set i #[c,l]) H1):Zw (zeg (tLst (Jp xs)) (Vp i)) u D σ H :=
 zbd (σ:=σ) (H:=H) (Q:=fun x H3=>u D (σ.set i (some x)) H3) xs hz fun l hl=>h l _ Ze (Zj hl) hl
theorem zcq:#[g,V.str a=V.str a]=true:=zwu rfl
theorem R9(h:#[g,a=b]=false):#[g,V.str a=V.str b]=false:=zwz fun z=>of_decide_eq_false h (V.str.inj z)
theorem G9.refl(A:SAd)(H:Hp):G9 A A H:=#[q,A.lt,.inl rfl]
abbrev zli:=List (Int×#[E])
structure Pg where
 len:Nat
 rest:Nat
 ppl:RL
 out:List (Int×Int)
 over:List Z4
 deed:Option Tv
 lis:Option (List P3)
 gv:#[a]
 mv:zli
def pgF(len rest:Nat)(lp lo lv:Addr)(dv li:V)(lg lm:Addr):#[U]:=[(.inr "rounds",.int len),(.inr "rest",.int rest),(.inr "people",.ref lp),(.inr "out",.ref lo),(.inr "over",.ref lv),(.inr "deed",dv),(.inr "listed",li),(.inr "goes",.ref lg),(.inr "moves",.ref lm)]
def oiV(x:Int×Int):#[a]:=[.int x.1,.int x.2]
def Ll(ok:Addr->Prop)(H:Hp)(v:V):Option (List P3)->Prop
 | none=>v=.non
 | some ms=>∃ l ts,v=.ref l/\H l=#[r,ts]/\Z7 H ts (ms.map pV)/\ok l
def zbf(H:Hp)(v:V):Option Tv->Prop
 | none=>v=.non
 | some d=>∃ t,v=.ref t/\H t=some (.tup (Vj d))
inductive Xt(ok:Addr->Prop)(H:Hp):#[a]->List Z4->Prop where
 | nil:Xt ok H [] []
 | cons {t l g m y:Addr} {ts mts:#[a]} {ls:#[x]} {s:Z4} {vs:#[a]} {ss:List Z4} (h:#[N,H,t,[.ref l,.ref g,.ref m,.ref y]]) (hl:#[y,H,l,ts]) (tl:Z7 H ts (s.ms.map pV)) (hg:#[y,H,g,s.gv]) (hm:#[y,H,m,mts]) (gm:W5 ok H mts s.gaps)
   (hy:#[ap,y]) (iy:ILs H ls s.may) (o:ok l/\ok g/\ok m/\ok y/\∀ x∈ls,ok x) (r:Xt ok H vs ss):Xt ok H (.ref t :: vs) (s :: ss)
theorem Ll.keep(h:Ll ok H v x)(k:#[ay,x,x])(kt:#[al]):Ll ok H' v x:=by
 cases x with
 | none=>exact h
 | some ms=>obtain⟨l,ts,e,a,b,o⟩:=h;exact⟨l,ts,e,k _ _ o a,b.mono kt,o⟩
theorem Ll.imp(h:Ll ok H v x)(k:#[aB]):Ll ok' H v x:=by
 cases x with
 | none=>exact h
 | some ms=>obtain⟨l,ts,e,a,b,o⟩:=h;exact⟨l,ts,e,a,b,k _ ⟨_,a⟩ o⟩
theorem zbf.keep(h:zbf H v x)(kt:#[al]):zbf H' v x:=by
 cases x with
 | none=>exact h
 | some d=>obtain⟨t,e,a⟩:=h;exact⟨t,e,kt _ _ a⟩
theorem Xt.keep(k:#[ay,x,x])(kt:#[al]):∀ {vs:List V} {ss:List Z4},Xt ok H vs ss->Xt ok H' vs ss
 | _,_,.nil=>.nil
 | _,_,.cons h hl tl hg hm gm hy iy o r=>.cons (kt _ _ h) (k _ _ o.1 hl) (tl.mono kt) (k _ _ o.2.1 hg) (k _ _ o.2.2.1 hm) (gm.keep k kt) (k _ _ o.2.2.2.1 hy) (iy.keep fun x hx _ q=>k _ _ (o.2.2.2.2 x hx) q) o (Xt.keep k kt r)
theorem Xt.imp(k:#[aB]):∀ {vs:List V} {ss:List Z4},Xt ok H vs ss->Xt ok' H vs ss
 | _,_,.nil=>.nil
 | _,_,.cons h hl tl hg hm gm hy iy o r=>.cons h hl tl hg hm (gm.imp k) hy iy ⟨k _ ⟨_,hl⟩ o.1,k _ ⟨_,hg⟩ o.2.1,k _ ⟨_,hm⟩ o.2.2.1,k _ ⟨_,hy⟩ o.2.2.2.1,fun x hx=>k _ (let ⟨_,z⟩:=iy.has hx;⟨_,z⟩) (o.2.2.2.2 x hx)⟩ (Xt.imp k r)
theorem Xt.length:∀ {vs:List V} {ss:List Z4},Xt ok H vs ss->vs.length=ss.length
 | _,_,.nil=>rfl
 | _,_,.cons _ _ _ _ _ _ _ _ _ r=>by simp[Xt.length r]
theorem Xt.snoc(h:#[N,H,t,[.ref l,.ref g,.ref m,.ref y]])(hl:#[y,H,l,ts])(tl:Z7 H ts (s.ms.map pV))(hg:#[y,H,g,s.gv])(hm:#[y,H,m,mts])(gm:W5 ok H mts s.gaps)
   (hy:#[ap,y]) (iy:ILs H ls s.may) (o:ok l/\ok g/\ok m/\ok y/\∀ x∈ls,ok x):∀ {vs:List V} {ss:List Z4},Xt ok H vs ss->Xt ok H (vs++[.ref t]) (ss++[s])
 | _,_,.nil=>.cons h hl tl hg hm gm hy iy o .nil
 | _,_,.cons h' hl' tl' hg' hm' gm' hy' iy' o' r=>.cons h' hl' tl' hg' hm' gm' hy' iy' o' (Xt.snoc h hl tl hg hm gm hy iy o r)
theorem Xt.get:∀ {vs:List V} {ss:List Z4} {i:Nat} {x:V},Xt ok H vs ss->vs[i]?=some x->∃ t l g m y ts s,x=.ref t/\ss[i]?=some s/\H t=#[J,[.ref l,.ref g,.ref m,.ref y]]/\H l=#[r,ts]/\Z7 H ts (s.ms.map pV)/\H g=#[r,s.gv]/\ok l/\ok g
 | _,_,_,_,.nil,e=>by simp at e
 | _,_,0,_,.cons h hl tl hg _ _ _ _ o _,e=>by simp at e;subst e;exact⟨_,_,_,_,_,_,_,rfl,rfl,h,hl,tl,hg,o.1,o.2.1⟩
 | _,_,i+1,x,.cons _ _ _ _ _ _ _ _ _ r,e=>by
   obtain⟨t,l,g,m,y,ts,s,h1,h2,h3⟩:=Xt.get (i:=i) (x:=x) r (by simpa using e);exact⟨t,l,g,m,y,ts,s,h1,by simpa using h2,h3⟩
structure PgAt(ok:Addr->Prop)(H:Hp)(d:Addr)(P:Pg):Prop where
 ex:∃ lp lo lv dv li lg lm pts ots vts mts,H d=#[b,.dK,pgF P.len P.rest lp lo lv dv li lg lm]/\H lp=#[r,pts]/\Z7 H pts (P.ppl.map pV)/\H lo=#[r,ots]/\Z7 H ots (P.out.map oiV)/\H lv=#[r,vts]/\Xt ok H vts P.over/\zbf H dv P.deed/\Ll ok H li P.lis/\H lg=#[r,P.gv]/\H lm=#[r,mts]/\W5 ok H mts P.mv /\
  (ok d/\ok lp/\ok lo/\ok lv/\ok lg/\ok lm)
theorem PgAt.keep(h:PgAt ok H d P)(k:#[ay,x,x])(kt:#[al]):PgAt ok H' d P:=by
 obtain⟨lp,lo,lv,dv,li,lg,lm,pts,ots,vts,mts,a1,a2,a3,a4,a5,a6,a7,a8,a9,b1,b2,b3,o1,o2,o3,o4,o5,o6⟩:=h;exact⟨lp,lo,lv,dv,li,lg,lm,pts,ots,vts,mts,k _ _ o1 a1,k _ _ o2 a2,a3.mono kt,k _ _ o3 a4,a5.mono kt,k _ _ o4 a6,a7.keep k kt,a8.keep kt,a9.keep k kt,k _ _ o5 b1,k _ _ o6 b2,b3.keep k kt,o1,o2,o3,o4,o5,o6⟩
theorem PgAt.imp(h:PgAt ok H d P)(k:#[aB]):PgAt ok' H d P:=by
 obtain⟨lp,lo,lv,dv,li,lg,lm,pts,ots,vts,mts,a1,a2,a3,a4,a5,a6,a7,a8,a9,b1,b2,b3,o1,o2,o3,o4,o5,o6⟩:=h;exact⟨lp,lo,lv,dv,li,lg,lm,pts,ots,vts,mts,a1,a2,a3,a4,a5,a6,a7.imp k,a8,a9.imp k,b1,b2,b3.imp k,k _ ⟨_,a1⟩ o1,k _ ⟨_,a2⟩ o2,k _ ⟨_,a4⟩ o3,k _ ⟨_,a6⟩ o4,k _ ⟨_,b1⟩ o5,k _ ⟨_,b2⟩ o6⟩
theorem PgAt.same(h:PgAt ok H d P)(e:#[j]):PgAt ok H' d P:=h.keep (fun _ _ _ q=>e _ _ q) fun _ _ q=>e _ _ q
section
variable{len rest:Nat}{lp lo lv lg lm:Addr}{dv li:V}
theorem zcr:putK (pgF len rest lp lo lv dv li lg lm) (.inr "people") (.ref x)=pgF len rest x lo lv dv li lg lm:=rfl
theorem zjg:putK (pgF len rest lp lo lv dv li lg lm) (.inr "out") (.ref x)=pgF len rest lp x lv dv li lg lm:=rfl
theorem zht:putK (pgF len rest lp lo lv dv li lg lm) (.inr "over") (.ref x)=pgF len rest lp lo x dv li lg lm:=rfl
theorem Fc:putK (pgF len rest lp lo lv dv li lg lm) (.inr "deed") v=pgF len rest lp lo lv v li lg lm:=rfl
theorem Fd:putK (pgF len rest lp lo lv dv li lg lm) (.inr "listed") v=pgF len rest lp lo lv dv v lg lm:=rfl
theorem zbg:putK (pgF len rest lp lo lv dv li lg lm) (.inr "goes") (.ref x)=pgF len rest lp lo lv dv li x lm:=rfl
theorem zfo:putK (pgF len rest lp lo lv dv li lg lm) (.inr "moves") (.ref x)=pgF len rest lp lo lv dv li lg x:=rfl
end
theorem zhu{len rest:Nat}{lp lo lv lg lm:Addr}{dv li:V}:(pgF len rest lp lo lv dv li lg lm).length<sizeLine:=by rw[sizeLine_eq];show 9<_;decide
def pg6(len rest:Nat)(lp lo lv:Addr)(dv:V):#[U]:=[(.inr "rounds",.int len),(.inr "rest",.int rest),(.inr "people",.ref lp),(.inr "out",.ref lo),(.inr "over",.ref lv),(.inr "deed",dv)]
theorem zfp{len rest:Nat}{lp lo lv:Addr}{dv:V}:Vl [] (pg6 len rest lp lo lv dv)=pg6 len rest lp lo lv dv:=rfl
theorem zjh{len rest:Nat}{lp lo lv:Addr}{dv x y z:V}:putK (putK (putK (pg6 len rest lp lo lv dv) (.inr "listed") x) (.inr "goes") y) (.inr "moves") z=pg6 len rest lp lo lv dv++[(.inr "listed",x),(.inr "goes",y),(.inr "moves",z)]:=rfl
theorem Kq{len rest:Nat}{lp lo lv:Addr}{dv x y:V}:(pg6 len rest lp lo lv dv).length<sizeLine/\(putK (pg6 len rest lp lo lv dv) (.inr "listed") x).length<sizeLine/\(putK (putK (pg6 len rest lp lo lv dv) (.inr "listed") x) (.inr "goes") y).length<sizeLine:=by
 rw[sizeLine_eq];exact⟨by show 6<_;decide,by show 7<_;decide,by show 8<_;decide⟩
def zcs(r q:Nat):Pg:=⟨r,q,[],[],[],none,none,[],[]⟩
inductive zd6(vs:#[a])(H:Hp)(Q:VK)(_:XK):Prop where
 | mk(r q:Nat)(_:vs=[.int r,.int q])(_:∀ d H',PgAt (fun x=>H x=none) H' d (zcs r q)->#[j]->H d=none->#[S,d])
def Mc(P:Pg):Prop:=P.over.length<=100/\P.rest<=100/\∀ s∈P.over,s.ms.length<=20/\s.gv.length=s.ms.length/\∀ x∈s.gv,oneV x
def zhv(kvs:List (List Key×V))(P:Pg):Prop:=∀ n c:Int,(valV kvs [inl n,inl c]).isSome=Pk (P.over.map Z9) n c P.rest
inductive zd7(K:Frag)(vs:#[a])(H:Hp)(Q:VK)(_:XK):Prop where
 | mk(ok:Addr->Prop)(d:Addr)(P:Pg)(_:vs=[.ref d])(_:PgAt ok H d P)(_:Mc P)(_:∀ m kvs H',H' m=#[b,.dT,kvs]->zhv kvs P->#[j]->H m=none->#[S,m])
theorem zhw(xs:#[a])(n r:Nat):Jx xs (some (if ((n:Int)-r)>0 then (n:Int)-r else 0)) none=xs.drop ((n:Int)-r).toNat:=by
 have e:(if ((n:Int)-r)>0 then (n:Int)-r else 0)=((((n:Int)-r).toNat:Nat):Int):=by split<;>omega
 rw[e];exact ze7 xs _
theorem Xt.drop:∀ (k:Nat) {vs:List V} {ss:List Z4},Xt ok H vs ss->Xt ok H (vs.drop k) (ss.drop k)
 | 0,_,_,h=>h
 | _+1,_,_,.nil=>.nil
 | k+1,_,_,.cons _ _ _ _ _ _ _ _ _ r=>Xt.drop k r
def HitI(ss:List Z4)(i j:Nat)(n c:Int):Prop:=(∃ s∈ss.take i,∃ r∈Z9 s,hit n c r=true)\/∃ s,ss[i]?=some s/\∃ r∈(Z9 s).take j,hit n c r=true
def Md(kvs:List (List Key×V))(ss:List Z4)(i j:Nat):Prop:=∀ n c:Int,(valV kvs [inl n,inl c]).isSome=true↔HitI ss i j n c
theorem Xx{α:Type}{l:List α}{j:Nat}{x:α}(h:l[j]?=some x):l.take (j+1)=l.take j++[x]:=by rw[zx3,h];rfl
theorem Md.zero(ss:List Z4):Md [] ss 0 0:=fun n c=>by
 unfold HitI;simp[zgj]
theorem Md.next{kvs:List (List Key×V)}{ss:List Z4}{i:Nat}{s:Z4}(h:Md kvs ss i (Z9 s).length)(hs:ss[i]?=some s):Md kvs ss (i+1) 0:=fun n c=>by
 rw[h n c];unfold HitI;rw[Xx hs,hs];constructor
 ·rintro(⟨s',h1,h2⟩|⟨s',h1,r,h2,h3⟩)
  ·exact .inl ⟨s',zxa _ h1,h2⟩
  ·cases h1;exact .inl ⟨s,zw7 _ (zys _),r,zyp h2,h3⟩
 ·rintro(⟨s',h1,r,h2,h3⟩|⟨s',h1,r,h2,h3⟩)
  ·rcases zw0.mp h1 with h1|h1
   ·exact .inl ⟨s',h1,r,h2,h3⟩
   ·cases zwt.mp h1;exact .inr ⟨_,rfl,r,by rw[zw6];exact h2,h3⟩
  ·simp at h2
theorem HitI.succ{ss:List Z4}{i j:Nat}{n c:Int}{s:Z4}{r:Row}(hs:ss[i]?=some s)(hr:(Z9 s)[j]?=some r):HitI ss i (j+1) n c↔HitI ss i j n c\/hit n c r=true:=by
 unfold HitI;rw[hs];constructor
 ·rintro(z|⟨s',h1,r',h2,h3⟩)
  ·exact .inl (.inl z)
  ·cases h1;rw[Xx hr] at h2;rcases zw0.mp h2 with h2|h2
   ·exact .inl (.inr ⟨_,rfl,r',h2,h3⟩)
   ·cases zwt.mp h2;exact .inr h3
 ·rintro((z|⟨s',h1,r',h2,h3⟩)|z)
  ·exact .inl z
  ·cases h1;exact .inr ⟨_,rfl,r',by rw[Xx hr];exact zxa _ h2,h3⟩
  ·exact .inr ⟨_,rfl,r,by rw[Xx hr];exact zw7 _ (zys _),z⟩
theorem Md.none(h:Md kvs ss i j)(hs:ss[i]?=some s)(hr:(Z9 s)[j]?=some r)(hw:r.w=none):Md kvs ss i (j+1):=fun n c=>by
 rw[h n c,HitI.succ hs hr];unfold hit;rw[hw];simp
theorem Md.some(h:Md kvs ss i j)(hs:ss[i]?=some s)(hr:(Z9 s)[j]?=some r)(hw:r.w=some w):Md (putK (putK kvs [inl w,inl r.h] v) [inl w,inl r.g] v') ss i (j+1):=fun n c=>by
 rw[HitI.succ hs hr,<- h n c,Vr,Vr];unfold hit;rw[hw];by_cases e1:([inl n,inl c]:List Key)=[inl w,inl r.g]
 ·rw[if_pos e1];have:=e1;simp at this;obtain⟨rfl,rfl⟩:=this;simp
 ·rw[#[h,e1]];by_cases e2:([inl n,inl c]:List Key)=[inl w,inl r.h]
  ·rw[if_pos e2];have:=e2;simp at this;obtain⟨rfl,rfl⟩:=this;simp
  ·rw[#[h,e2]];constructor
   ·exact .inl
   ·rintro(z|z)
    ·exact z
    ·exfalso
     simp at z e1 e2;obtain⟨z1,z2|z2⟩:=z
     ·exact e2 z1.symm z2.symm
     ·exact e1 z1.symm z2.symm
theorem Md.all(h:Md kvs (P.over.drop k) (P.over.drop k).length 0)(hk:k=((P.over.length:Int)-P.rest).toNat):zhv kvs P:=fun n c=>by
 apply zy3.mpr;rw[h n c,ze6 (Int.natCast_nonneg _),zwo,<- hk,<- List.map_drop];unfold HitI;rw[zw6];constructor
 ·rintro(⟨s,h1,h2⟩|⟨s,h1,r,h2,_⟩)
  ·exact⟨Z9 s,zwx.mpr ⟨s,h1,rfl⟩,h2⟩
  ·simp at h2
 ·rintro⟨rs,h1,h2⟩;obtain⟨s,h3,rfl⟩:=zwx.mp h1;exact .inl ⟨s,h3,h2⟩
end G
namespace L2
open PySem PySem.Spec PyProof.Rows G
def Uw(x:Int×Int):Dt:=.tup [.int x.1,.int x.2]
theorem Fe{K:Frag}{H:Hp}:∀ {ts:List V} {ps:List (Int×Int)},Z7 H ts (ps.map oiV)->T5 K H ts (ps.map Uw)
 | _,[],h=>by cases h;exact .nil
 | _,p :: ps,h=>by
   rw[zw2] at h;cases h with
   | cons e r=>exact .cons (.tup (SqT.of e) (.cons (.int _) (.cons (.int _) .nil))) (Fe r)
theorem Kr:∀ ps:List (Int×Int),PyData.canLayAll0 (Xq (ps.map Uw))=true
 | []=>rfl
 | p :: ps=>by
   rw[zw2,Xq,PyData.canLayAll0,Kr ps];rfl
theorem Ks:∀ ps:List (Int×Int),((Xq (ps.map Uw)).any fun y=>PyData.eqv y (toPy (Uw (a,b))))=decide ((a,b)∈ps)
 | []=>by simp[Xq]
 | p :: ps=>by
   rw[zw2,Xq,zyx,Ks ps,M6];obtain⟨p1,p2⟩:=p;have e:eqD (Uw (p1,p2)) (Uw (a,b))=#[g,(a,b)=(p1,p2)]:=by
    rw[Uw,Uw,eqD,O8,O8,O8,eqD,eqD];by_cases h1:p1=a
    ·by_cases h2:p2=b
     ·subst h1;subst h2;simp
     ·rw[zwz fun z=>h2 (Prod.mk.inj z).2.symm];simp[h2]
    ·rw[zwz fun z=>h1 (Prod.mk.inj z).1.symm];simp[h1]
   rw[e,<- Bool.decide_or];exact decide_eq_decide.mpr zwy.symm
inductive zji(K:Frag)(neg:Bool)(x:V)(y:V)(H:Hp)(Q:VK):Prop where
 | mk(t p:Addr)(ts:#[a])(a b:Int)(ps:List (Int×Int))(_:x=.ref t)(_:y=.ref p)(_:SqT K H t [.int a,.int b])(_:SqL K H p ts)(_:Z7 H ts (ps.map oiV))(_:Q (.bl (if neg then !#[g,(a,b)∈ps] else #[g,(a,b)∈ps])) H)
section
variable{X:Cx}{K:Frag}
theorem zbh(hu:X.A.units+64<cLine):OpR X (compareOp .In) (zji X.K false):=by
 intro pins s σ H x y v u Q I rx ry h;obtain⟨t,p,ts,a,b,ps,rfl,rfl,ht,hp,tl,q⟩:=h;obtain⟨as,r1⟩:=Is.reads I (Is.tup ht (.cons (.int a) (.cons (.int b) .nil)):Is X.K H (.ref t) (Uw (a,b))) rx;have r1:Reads s.heap v (toPy (Uw (a,b))) as:=r1;obtain⟨bs,r2⟩:=Is.reads I (Is.lst hp (Fe tl)) ry;rw[toPy] at r2;have hd:(toPy (Uw (a,b))).depth=1:=rfl;refine SeqAt.in_list_reads r2 r1 (Kr ps) rfl ?_ ?_
 ·have:=Nat.min_le_right (PyData.depthAll (Xq (ps.map Uw))) (toPy (Uw (a,b))).depth;rw[hd] at this ⊢;omega
 ·rw[Ks];exact⟨.bl _,H,I,rfl,q⟩
theorem Ff(hu:X.A.units+64<cLine):OpR X (compareOp .NotIn) (zji X.K true):=by
 intro pins s σ H x y v u Q I rx ry h;obtain⟨t,p,ts,a,b,ps,rfl,rfl,ht,hp,tl,q⟩:=h;obtain⟨as,r1⟩:=Is.reads I (Is.tup ht (.cons (.int a) (.cons (.int b) .nil)):Is X.K H (.ref t) (Uw (a,b))) rx;have r1:Reads s.heap v (toPy (Uw (a,b))) as:=r1;obtain⟨bs,r2⟩:=Is.reads I (Is.lst hp (Fe tl)) ry;rw[toPy] at r2;have hd:(toPy (Uw (a,b))).depth=1:=rfl;refine SeqAt.notIn_list_reads r2 r1 (Kr ps) rfl ?_ ?_
 ·have:=Nat.min_le_right (PyData.depthAll (Xq (ps.map Uw))) (toPy (Uw (a,b))).depth;rw[hd] at this ⊢;omega
 ·rw[Ks];exact⟨.bl _,H,I,rfl,q⟩
theorem B3(hK:X.K=K)(hu:X.A.units+64<cLine):OpR X (compareOp .In) (zji K false):=hK▸zbh hu
theorem J1(hK:X.K=K)(hu:X.A.units+64<cLine):OpR X (compareOp .NotIn) (zji K true):=hK▸Ff hu
end
end L2
namespace G
open PySem PySem.Spec PyProof.Rows L2
def Na(P:Pg)(x m:P3):List Str:=whyS (P.over.map Z9) x.1 x.2.1 x.2.2 m.1 m.2.1 m.2.2 #[g,((P.over.length:Int)+1,x.1)∈P.out] P.rest
inductive zbi(K:Frag)(vs:#[a])(H:Hp)(Q:VK)(_:XK):Prop where
 | mk(ok:Addr->Prop)(d m t1 t2:Addr)(P:Pg)(kvs:List (List Key×V))(x y:P3)(_:vs=[.ref d,.ref m,.ref t1,.ref t2])(_:PgAt ok H d P)(_:H m=#[b,.dT,kvs])(_:zhv kvs P)(_:H t1=some (.tup (pV x)))(_:H t2=some (.tup (pV y)))(_:∀ l H',H' l=#[I,(Na P x y).map,V.str]->#[j]->H l=none->Q (.ref l) H')
def Sy(P:Pg)(ms:List P3):#[A]:=ms.map fun m=>(P.ppl.filter fun x=>(Na P x m).isEmpty).map (·.1)
theorem zfq(h1:P.ppl=S.ppl)(h2:P.over.map Z9=S.led)(h3:P.out=S.out)(h4:P.rest=S.rest)(h5:((P.over.length:Int)+1)=atV S)(ms:List P3):Sy P ms=mayS S ms:=by
 unfold Sy mayS;refine zx7 fun m _=>?_;unfold G3 Na pIn;rw[h1,h2,h3,h4,h5]
inductive Fg(K:Frag)(vs:#[a])(H:Hp)(Q:VK)(_:XK):Prop where
 | mk(ok:Addr->Prop)(d:Addr)(P:Pg)(ms:List P3)(_:vs=[.ref d])(_:PgAt ok H d P)(_:Mc P)(_:P.lis=some ms)(_:ms.length<=100)(_:P.ppl.length<=100)(_:∀ l ls H',H' l=#[I,ls.map,V.ref]->ILs H' ls (Sy P ms)->#[j]->H l=none->(∀ x∈ls,H x=none)->#[S,l])
theorem zjj(r:List Str)(ok:∀ w∈r,PyData.strOk w=true):shD (.lst (r.map Dt.str)):=by
 have h:PyData.canLayAll0 (Xq (r.map Dt.str))=true/\PyData.depthAll (Xq (r.map Dt.str))<=1:=by
  induction r with
  | nil=>exact⟨rfl,by decide⟩
  | cons x r ih =>
    obtain⟨h1,h2⟩:=ih fun w hw=>ok w (zxc _ hw);have h0:=ok x (zxk);refine⟨?_,?_⟩
    ·rw[zw2,Xq,PyData.canLayAll0,h1];simp[toPy,PyData.canLay0,h0]
    ·rw[zw2,Xq,PyData.depthAll];have:PyData.depth (toPy (Dt.str x))<=1:=by simp[toPy,PyData.depth]
     omega
 unfold shD SeqAt.shaped;rw[toPy,PyData.canLay0,h.1,Bool.true_and];refine zwu ?_;rw[PyData.depth];have:=h.2;omega
theorem Fh{K:Frag}{H:Hp}:∀ ws:List Str,T5 K H (ws.map V.str) (ws.map Dt.str)
 | []=>.nil
 | w :: ws=>.cons (.str w) (Fh ws)
theorem zlj(h:x∈bw b w):x=w:=by
 cases b<;>simp[bw] at h;exact h
theorem zjk{Rs:#[Z]}{n g c h gu d:Int}{o:Bool}{rest:Int}:∀ w∈whyS Rs n g c h gu d o rest,PyData.strOk w=true:=fun w hw=>by
 unfold whyS at hw;simp only[zw0] at hw;rcases hw with z|z|z|z<;>rw[zlj z]<;>decide +kernel
def Vk(H H':Hp):Prop:=(∀ x ys,H x=some (.lst ys)->H' x=some (.lst ys))/\∀ x ys,H x=#[J,ys]->H' x=#[J,ys]
theorem Vk.dict(h:H d=#[b,.dK,kvs]):Vk H (upd H d (.dK kvs')) :=
 ⟨fun x ys e=>by rw[Zh (Y6 e h (by intro z;cases z))];exact e,fun x ys e=>by rw[Zh (Y6 e h (by intro z;cases z))];exact e⟩
theorem Vk.trans(a:Vk H H')(b:Vk H' H''):Vk H H'':=⟨fun x ys e=>b.1 _ _ (a.1 _ _ e),fun x ys e=>b.2 _ _ (a.2 _ _ e)⟩
theorem Vk.of(e:#[j]):Vk H H':=⟨fun x ys z=>e _ _ z,fun x ys z=>e _ _ z⟩
theorem W5.keepL(k:Vk H H'):∀ {ts:List V} {G:zli},W5 ok H ts G->W5 ok H' ts G
 | _,_,.nil=>.nil
 | _,_,.cons h hl tl o r=>.cons (k.2 _ _ h) (k.1 _ _ hl) (tl.mono k.2) o (W5.keepL k r)
theorem ILs.keepL(k:Vk H H'):∀ {ls:List Addr} {R:List (List Int)},ILs H ls R->ILs H' ls R
 | _,_,.nil=>.nil
 | _,_,.cons h n=>.cons (k.1 _ _ h) (ILs.keepL k n)
theorem Ll.keepL(k:Vk H H')(h:Ll ok H v x):Ll ok H' v x:=by
 cases x with
 | none=>exact h
 | some ms=>obtain⟨l,ts,e,a,b,o⟩:=h;exact⟨l,ts,e,k.1 _ _ a,b.mono k.2,o⟩
theorem Xt.keepL(k:Vk H H'):∀ {vs:List V} {ss:List Z4},Xt ok H vs ss->Xt ok H' vs ss
 | _,_,.nil=>.nil
 | _,_,.cons h hl tl hg hm gm hy iy o r=>.cons (k.2 _ _ h) (k.1 _ _ hl) (tl.mono k.2) (k.1 _ _ hg) (k.1 _ _ hm) (gm.keepL k) (k.1 _ _ hy) (ILs.keepL k iy) o (Xt.keepL k r)
structure PgB(ok:Addr->Prop)(H:Hp)(P:Pg)(lp lo lv:Addr)(dv li:V)(lg lm:Addr):Prop where
 pp:∃ pts,H lp=#[r,pts]/\Z7 H pts (P.ppl.map pV)/\ok lp
 oo:∃ ots,H lo=#[r,ots]/\Z7 H ots (P.out.map oiV)/\ok lo
 vv:∃ vts,H lv=#[r,vts]/\Xt ok H vts P.over/\ok lv
 dd:zbf H dv P.deed
 li:Ll ok H li P.lis
 gg:H lg=#[r,P.gv]/\ok lg
 mm:∃ mts,H lm=#[r,mts]/\W5 ok H mts P.mv/\ok lm
theorem PgB.keepL{ok:Addr->Prop}{H H':Hp}{P:Pg}{lp lo lv:Addr}{dv li:V}{lg lm:Addr}(h:PgB ok H P lp lo lv dv li lg lm)(k:Vk H H'):PgB ok H' P lp lo lv dv li lg lm:=by
 obtain⟨⟨p1,p2,p3,p4⟩,⟨o1,o2,o3,o4⟩,⟨v1,v2,v3,v4⟩,dd,li,⟨g1,g2⟩,m1,m2,m3,m4⟩:=h;exact⟨⟨p1,k.1 _ _ p2,p3.mono k.2,p4⟩,⟨o1,k.1 _ _ o2,o3.mono k.2,o4⟩,⟨v1,k.1 _ _ v2,v3.keepL k,v4⟩,dd.keep k.2,li.keepL k,⟨k.1 _ _ g1,g2⟩,m1,k.1 _ _ m2,m3.keepL k,m4⟩
theorem PgB.imp{ok ok':Addr->Prop}{H:Hp}{P:Pg}{lp lo lv:Addr}{dv li:V}{lg lm:Addr}(h:PgB ok H P lp lo lv dv li lg lm)(k:#[aB]):PgB ok' H P lp lo lv dv li lg lm:=by
 obtain⟨⟨p1,p2,p3,p4⟩,⟨o1,o2,o3,o4⟩,⟨v1,v2,v3,v4⟩,dd,li,⟨g1,g2⟩,m1,m2,m3,m4⟩:=h;exact⟨⟨p1,p2,p3,k _ ⟨_,p2⟩ p4⟩,⟨o1,o2,o3,k _ ⟨_,o2⟩ o4⟩,⟨v1,v2,v3.imp k,k _ ⟨_,v2⟩ v4⟩,dd,li.imp k,⟨g1,k _ ⟨_,g1⟩ g2⟩,m1,m2,m3.imp k,k _ ⟨_,m2⟩ m4⟩
theorem PgAt.split(h:PgAt ok H d P):∃ lp lo lv dv li lg lm,H d=#[b,.dK,pgF P.len P.rest lp lo lv dv li lg lm]/\PgB ok H P lp lo lv dv li lg lm/\ok d:=by
 obtain⟨lp,lo,lv,dv,li,lg,lm,pts,ots,vts,mts,a1,a2,a3,a4,a5,a6,a7,a8,a9,b1,b2,b3,o1,o2,o3,o4,o5,o6⟩:=h;exact⟨lp,lo,lv,dv,li,lg,lm,a1,⟨⟨_,a2,a3,o2⟩,⟨_,a4,a5,o3⟩,⟨_,a6,a7,o4⟩,a8,a9,⟨b1,o5⟩,_,b2,b3,o6⟩,o1⟩
theorem PgAt.join{ok:Addr->Prop}{H:Hp}{d:Addr}{P:Pg}{lp lo lv:Addr}{dv li:V}{lg lm:Addr}(hd:H d=#[b,.dK,pgF P.len P.rest lp lo lv dv li lg lm])(h:PgB ok H P lp lo lv dv li lg lm)(o:ok d):PgAt ok H d P:=by
 obtain⟨⟨p1,p2,p3,p4⟩,⟨o1,o2,o3,o4⟩,⟨v1,v2,v3,v4⟩,dd,li',⟨g1,g2⟩,m1,m2,m3,m4⟩:=h;exact⟨lp,lo,lv,dv,li,lg,lm,p1,o1,v1,m1,hd,p2,p3,o2,o3,v2,v3,dd,li',g1,m2,m3,o,p4,o4,v4,g2,m4⟩
theorem PgAt.other(h:PgAt ok H d P)(n:d≠e)(he:H e=#[b,.dK,kvs]):PgAt ok (upd H e (.dK kvs')) d P:=by
 obtain⟨lp,lo,lv,dv,li,lg,lm,a1,a2,a3⟩:=h.split;exact .join (by rw[Zh n];exact a1) (a2.keepL (.dict he)) a3
theorem PgAt.setGoes(h:PgAt ok H d P)(hl:#[y,H,l,xs])(ol:ok l):∃ kvs,H d=#[b,.dK,kvs]/\kvs.length<sizeLine/\PgAt ok (upd H d (.dK (putK kvs (.inr "goes") (.ref l)))) d { P with gv:=xs }:=by
 obtain⟨lp,lo,lv,dv,li,lg,lm,a1,a2,a3⟩:=h.split;refine⟨_,a1,zhu,?_⟩;rw[zbg];have b:=a2.keepL (.dict a1 (kvs':=pgF P.len P.rest lp lo lv dv li l lm));exact .join (P:={ P with gv:=xs }) Ze ⟨b.pp,b.oo,b.vv,b.dd,b.li,⟨(Vk.dict a1).1 _ _ hl,ol⟩,b.mm⟩ a3
def Tj(P:Pg):Wq->Pg
 | .enrol n g c=>{ P with ppl:=P.ppl++[(n,g,c)],deed:=some ("enrol",n,(P.over.length:Int)+1) }
 | .away i n=>{ P with out:=P.out++[(i,n)],deed:=some ("away",n,i) }
 | .draw ms=>{ P with lis:=some ms,deed:=some ("draw up",(ms.length:Int),(P.over.length:Int)+1) }
 | .close=>{ P with over:=P.over++[⟨P.lis.getD [],Sy P (P.lis.getD []),P.gv,P.mv⟩],lis:=none,gv:=[],mv:=[] }
 | .back=>P
def B4(ds:#[x])(d d':Addr):Wq->#[x]
 | .back=>ds
 | .close=>[d']
 | _=>ds++[d]++[d']
inductive B5(K:Frag)(vs:#[a])(H:Hp)(Q:VK)(_:XK):Prop where
 | mk(ok:Addr->Prop)(l t:Addr)(ds:#[x])(d:Addr)(P:Pg)(D:Wq)(_:vs=[.ref l,.ref t])(_:H l=some (.lst ((ds++[d]).map V.ref)))(_:PgAt ok H d P)(_:W0 ok H t D)(_:Mc P)(_:P.ppl.length<=100)(_:P.out.length<=900)(_:ds.length<=900)(_:(D=.close->∃ ms,P.lis=some ms/\ms.length<=100))(_:∀ l' d' H',H' l'=#[I,(B4 ds d d' D).map,V.ref]->(D≠.back->PgAt (fun x=>ok x\/H x=none) H' d' (Tj P D))->#[j]->H l'=none->H d'=none->#[S,l'])
theorem zhx(xs:#[a])(x:V):Jx (xs++[x]) none (some (-1))=xs:=by
 unfold Jx HT.sIx;simp;rw[show (-1+((xs.length:Int)+1)).toNat=xs.length by omega,List.take_left]
def zct(ms:List P3):Prop:=(∀ m∈ms,¬ badM m)/\∀ m∈ms,m.1≠m.2.1
inductive Jq(K:Frag)(vs:#[a])(H:Hp)(Q:VK)(_:XK):Prop where
 | mk(b:Addr)(ns:#[o])(cell:Int)(most mixed:Nat)(_:vs=[.int cell,.ref b,.int most,.int mixed])(_:H b=some (.lst (ns.map V.int)))(_:2<=ns.length)(_:ns.length<=100)(_:ns.Nodup)(_:(∀ n∈ns,1<=n/\n<=99))(_:most<=20)(_:mixed<=1)(_:∀ l ts ms H',H' l=#[r,ts]->Z7 H' ts (ms.map pV)->ms.length<=most->zct ms->#[j]->H l=none->#[S,l])
def enV(x:P3):#[a]:=[.str "enrol",.int x.1,.int x.2.1,.int x.2.2]
inductive Fi(K:Frag)(vs:#[a])(H:Hp)(Q:VK)(_:XK):Prop where
 | mk(b t lc ln:Addr)(ns cs nu:#[o])(_:vs=[.ref b,.ref t])(_:SqL K H b (ns.map V.int))(_:Mb H t lc ln cs nu)(_:∀ l ts (es:List P3) H',H' l=#[r,ts]->Z7 H' ts (es.map enV)->es.map (·.1)=nu.take es.length->es.length<=nu.length->(∀ x∈es,1<=x.2.1/\x.2.1<=9/\x.2.2∈cs)->#[j]->H l=none->#[S,l])
def zhy(P:Pg)(ds:#[x])(cs nu:#[o])(most:Nat):Wq->Prop
 | .enrol n g c=>P.lis=none/\n∈nu/\n∉P.ppl.map (·.1)/\1<=g/\g<=9/\c∈cs
 | .away i n=>(P.over.length:Int)<i/\i<=P.len/\n∈P.ppl.map (·.1)/\(i,n)∉P.out
 | .draw ms=>P.lis=none/\ms.length<=most/\zct ms
 | .close=>P.lis≠none
 | .back=>ds≠[]
inductive zbj(K:Frag)(vs:#[a])(H:Hp)(Q:VK)(_:XK):Prop where
 | mk(ok:Addr->Prop)(l t lc ln:Addr)(ds:#[x])(d:Addr)(P:Pg)(cell:Int)(cs nu:#[o])(most mixed:Nat)(_:vs=[.ref l,.int cell,.ref t,.int most,.int mixed])(_:H l=some (.lst ((ds++[d]).map V.ref)))(_:PgAt ok H d P)(_:Mb H t lc ln cs nu)(_:most<=20)(_:mixed<=1)(_:P.over.length<P.len)(_:P.ppl.length<=100)(_:∀ t' D H',W0 (fun x=>H x=none) H' t' D->zhy P ds cs nu most D->#[j]->H t'=none->#[S,t'])
theorem C5(h1:Gr t σ H b)(h2:∀ H1,Same H H1->Gr u σ H1 c):Gr (zid t u) σ H (b&&c):=fun Q h=>by
 refine h1 _ fun H1 s1=>?_;cases b with
 | true=>exact h2 H1 s1 _ fun H2 s2=>h H2 (s1.trans s2)
 | false=>exact h H1 s1
theorem Jr{K:Frag}{H:Hp}:∀ ns:#[o],T5 K H (ns.map V.int) (ns.map Dt.int)
 | []=>.nil
 | w :: ws=>.cons (.int w) (Jr ws)
theorem Js{K:Frag}{σ:L2.St}{H:Hp}{i:Nat}{l:Addr}{ns:#[o]}(hv:σ[i]?=some #[c,l])(hl:H l=some (.lst (ns.map V.int))):Gr (D4 (tOp (rEqD K true) (tVar i) (tLst tNil))) σ H (!ns.isEmpty):=fun Q q=>by
 refine⟨_,hv,zxj _,fun le hle=>?_⟩;have s:=Zj (o:=.lst []) hle;refine⟨_,_,.lst (SqL.of (s _ _ hl)) (Jr _),.lst (SqL.of Ze) .nil,Hi _,Tt,_,rfl,?_⟩;rw[#[P],Lc];exact q _ s
theorem Ll.some(h:Ll ok H v x):(!#[g,v=V.non])=x.isSome:=by
 cases x with
 | none=>cases (show v=V.non from h);rfl
 | some ms=>obtain⟨l,ts,rfl,_⟩:=h;rfl
theorem zhz{h y n:Int}(h0:0<=h)(h1:h<n)(y0:1<=y)(y1:y<=n-1):0<=(h+y)%n/\(h+y)%n<n/\(h+y)%n≠h:=by
 have hn:0<n:=by omega
 refine⟨zxx _ ⋯,zxp _ hn,?_⟩;by_cases c:h+y<n
 ·rw[Int.emod_eq_of_lt ⋯ c];omega
 ·have e:(h+y)%n=h+y-n:=by
   rw[<- Int.sub_emod_right,Int.emod_eq_of_lt ⋯ ⋯]
  omega
theorem at2(x y:Int){k:Nat}(h:k<=1):∃ z,atI [V.int x,V.int y] (k:Int)=#[e,z]:=by
 match k,h with
 | 0,_=>exact#[w,x]
 | 1,_=>exact#[w,y]
def B6:#[o]:=[1,2,3,4,5,6,7,8,9,1,1,1,1,2,2,3,3,4]
theorem zcu:∀ k,k<18->1<=B6.getD k 0/\B6.getD k 0<=9:=by decide
def B7:#[o]:=[1,2,3,4,5,6,7,8,9,9,9,9,9,8,8,7,6,5]
theorem zcv:∀ k,k<18->1<=B7.getD k 0/\B7.getD k 0<=9:=by decide
theorem B8{ns:#[o]}{i:Nat}(hi:i<ns.length):ns.getD i 0=ns[i]:=by
 rw[zxb,zwp hi];rfl
theorem zh0{ns:#[o]}(nd:ns.Nodup){i j:Nat}(hi:i<ns.length)(hj:j<ns.length)(h:ns.getD i 0=ns.getD j 0):i=j:=by
 rw[B8 hi,B8 hj] at h;exact(List.getElem_inj nd).mp h
theorem T1{ns:#[o]}{i:Nat}(hi:i<ns.length):ns.getD i 0∈ns:=by
 rw[B8 hi];exact zxd hi
def Qa(mb:Bool)(s:Z4):Z4:=if mb then s else { s with gaps:=[] }
theorem zjl(h:Qa mb s=Qa mb s'):s.ms=s'.ms/\s.may=s'.may/\s.gv=s'.gv/\(mb=true->s=s'):=by
 unfold Qa at h;cases mb with
 | true=>simp at h;subst h;exact⟨rfl,rfl,rfl,fun _=>rfl⟩
 | false=>simp at h;exact⟨h.1,h.2.1,h.2.2,fun z=>nomatch z⟩
theorem zfr(mb:Bool)(s:Z4):Z9 (Qa mb s)=Z9 s:=by
 unfold Qa;cases mb<;>rfl
structure RelB(mb:Bool)(P:Pg)(S:Sea):Prop where
 len:P.len=S.len
 rest:P.rest=S.rest
 ppl:P.ppl=S.ppl
 out:P.out=S.out
 over:P.over.map (Qa mb)=S.old.map (Qa mb)
 lis:P.lis=S.cur.map (·.ms)
def Fj(S:Sea):zli:=match S.cur with|some s=>s.gaps|none=>[]
theorem zcw(h:S.cur=some s):Fj S=s.gaps:=by unfold Fj;rw[h]
theorem Me(h:S.cur=none):Fj S=[]:=by unfold Fj;rw[h]
structure Rel(mb:Bool)(P:Pg)(S:Sea):Prop where
 b:RelB mb P S
 gv:∀ s,S.cur=some s->P.gv=s.gv
 mv:mb=true->P.mv=Fj S
structure SOk(nu:#[o])(n:Nat)(S:Sea):Prop where
 cur:zhr S
 nd:(S.ppl.map (·.1)).Nodup
 ppl:∀ x∈S.ppl,x.1∈nu/\¬ badI x.1 x.2.1 x.2.2
 few:S.ppl.length<=30
 led:S.led=S.old.map Z9
 old:∀ s∈S.old,s.ms.length<=20/\s.gv.length=s.ms.length/\∀ x∈s.gv,oneV x
 len:S.led.length<=S.len/\S.len<=60/\S.rest<=10
 lt:S.cur≠none->S.led.length<S.len
 num:S.out.length<=n/\S.std.length<=n
 gp:∀ s,S.cur=some s\/s∈S.old->s.gaps.length<=n/\∀ x∈s.gaps,x.2.length<=100
theorem SOk.mono(h:SOk nu n S)(e:n<=m):SOk nu m S:=⟨h.cur,h.nd,h.ppl,h.few,h.led,h.old,h.len,h.lt,⟨zw4 h.num.1 e,zw4 h.num.2 e⟩,fun s hs=>⟨zw4 (h.gp s hs).1 e,(h.gp s hs).2⟩⟩
theorem SOk.pok(h:SOk nu n S):Od S:=⟨fun x hx=>(h.ppl x hx).2,h.few⟩
theorem SOk.olen(h:SOk nu n S):S.old.length=S.led.length:=by rw[h.led,zwo]
theorem zh1:∀ (Rs:List (List Row)),(∀ rs∈Rs,rs.length<=k)->tot Rs<=k*Rs.length
 | [],_=>by simp[tot]
 | rs :: Rs,h=>by
   have h1:=h rs (zxk);have h2:=zh1 Rs fun x hx=>h x (zxc _ hx);unfold tot at *;simp only[zw2,List.sum_cons,zw9,Nat.mul_succ];omega
theorem SOk.tot(h:SOk nu n S):G.tot S.led<=1200:=by
 have h1:=zh1 (k:=20) S.led fun rs hrs=>by
  rw[h.led] at hrs;obtain⟨s,hs,rfl⟩:=zwx.mp hrs;have:=h.old s hs;unfold Z9;rw[zy2];omega
 have:=h.len;omega
theorem RelB.rows(r:RelB mb P S):P.over.map Z9=S.old.map Z9:=by
 have e:∀ l:List Z4,l.map Z9=(l.map (Qa mb)).map Z9:=fun l=>by
  rw[zxt];exact zx7 fun s _=>(zfr mb s).symm
 rw[e,r.over,<- e]
theorem RelB.olen(r:RelB mb P S):P.over.length=S.old.length:=by
 have:=congrArg List.length r.over
 simpa using this
theorem RelB.ovok(r:RelB mb P S)(o:SOk nu n S):Mc P:=by
 have h1:=r.olen;have h2:=o.olen;have h3:=o.len;refine⟨by omega,by rw[r.rest];omega,fun s hs=>?_⟩;have:Qa mb s∈S.old.map (Qa mb):=by rw[<- r.over];exact zwx.mpr ⟨s,hs,rfl⟩
 obtain⟨s',hs',e⟩:=zwx.mp this;obtain⟨e1,e2,e3,_⟩:=zjl e;rw[<- e1,<- e3];exact o.old s' hs'
theorem RelB.may(r:RelB mb P S)(o:SOk nu n S)(ms:List P3):Sy P ms=mayS S ms :=
 zfq r.ppl (by rw[r.rows,o.led]) r.out r.rest (by unfold atV;rw[r.olen,o.olen]) ms
theorem RelB.at(r:RelB mb P S)(o:SOk nu n S):(P.over.length:Int)+1=atV S:=by unfold atV;rw[r.olen,o.olen]
theorem RelB.undrawn(r:RelB mb P S)(h:P.lis=none):S.cur=none:=by
 have:=r.lis;rw[h] at this;cases e:S.cur with
 | none=>rfl
 | some s=>rw[e] at this;cases this
theorem RelB.drawn(r:RelB mb P S)(h:P.lis=some ms):∃ s,S.cur=some s/\s.ms=ms:=by
 have:=r.lis;rw[h] at this;cases e:S.cur with
 | none=>rw[e] at this;cases this
 | some s=>rw[e] at this;exact#[q,s,(Option.some.inj this).symm]
theorem B9{l m:#[o]}(nd:l.Nodup)(h:∀ x∈l,x∈m):l.length<=m.length:=by
 induction l generalizing m with
 | nil=>exact zxj _
 | cons x l ih =>
   have hx:=h x (zxk);obtain⟨h1,h2⟩:=zxi.mp nd;have:=ih (m:=m.erase x) h2 fun y hy=>(List.mem_erase_of_ne (fun z=>h1 (by rw[<- z];exact hy))).mpr (h y (zxc _ hy));rw[List.length_erase_of_mem hx] at this;have:=List.length_pos_of_mem hx;simp only[zw9];omega
theorem zjm{mb:Bool}{P:Pg}{S:Sea}{nu cs:#[o]}{n most:Nat}{ds:#[x]}{D:Wq}(r:RelB mb P S)(o:SOk nu n S)(g:zhy P ds cs nu most D)(hlt:P.over.length<P.len)(hm:most<=20)(hnu:nu.length<=30/\∀ n∈nu,1<=n/\n<=999)(hcs:∀ c∈cs,1<=c/\c<=99)(hb:ds≠[]->S.std≠[]):Jo S D:=by
 have h1:=r.olen;have h2:=o.olen;have h3:=r.len;cases D with
 | enrol k gr c =>
   obtain⟨g1,g2,g3,g4,g5,g6⟩:=g;rw[r.ppl] at g3;refine⟨by omega,r.undrawn g1,?_,g3,?_⟩
   ·have:=hnu.2 k g2;have:=hcs c g6;unfold badI;omega
   ·have:=B9 (l:=k :: S.ppl.map (·.1)) (m:=nu) (zxi.mpr ⟨g3,o.nd⟩) fun x hx=>by
     rcases zwy.mp hx with rfl|hx
     ·exact g2
     ·obtain⟨y,hy,rfl⟩:=zwx.mp hx;exact(o.ppl y hy).1
    rw[zw9,zwo] at this;omega
 | away i k =>
   obtain⟨g1,g2,g3,g4⟩:=g;rw[r.ppl] at g3;rw[r.out] at g4;exact⟨by omega,by omega,g3,g4⟩
 | draw ms =>
   obtain⟨g1,g2,g3⟩:=g;exact⟨by omega,r.undrawn g1,by omega,g3.1,g3.2⟩
 | close =>
   refine⟨by omega,fun z=>g ?_⟩;rw[r.lis,z];rfl
 | back=>exact hb g
theorem zfs(F:Ye rows gs)(hn:∀ i:Nat,gs[i]?≠#[b,V.int,n]):Ye (without rows n) gs:=by
 refine⟨by unfold without;rw[zwo];exact F.len,F.one,fun k m h=>?_,F.inj⟩;obtain⟨r,h1,h2⟩:=F.may k m h;refine⟨r.filter fun x=>#[g,x≠n],by unfold without;rw[zws,h1];rfl,zxu.mpr ⟨h2,?_⟩⟩;refine zwu fun z=>hn k ?_;rw[h,z]
theorem zcx(T:Vw rows gs):Vw (without rows n) gs:=fun p hp=>by
 obtain⟨S,h1,h2⟩:=T p hp;refine⟨S,h1,fun q hq=>⟨by unfold without;rw[zwo];exact(h2 q hq).1,fun r hr m hm=>?_⟩⟩;unfold without at hr;rw[zws] at hr;obtain⟨r0,e1,rfl⟩:=zyu.mp hr;exact(h2 q hq).2 r0 e1 m (zxu.mp hm).1
theorem zft(h:atV S<i)(ms:List P3):mayS (Xw S i n) ms=mayS S ms:=by
 unfold mayS;refine zx7 fun m _=>?_;unfold G3;have:∀ x:P3,pIn (Xw S i n).out (atV (Xw S i n)) x=pIn S.out (atV S) x:=fun x=>by
  show #[g,(atV S,x.1)∈S.out++[(i,n)]]=#[g,(atV S,x.1)∈S.out];have:((atV S,x.1)∈S.out++[(i,n)])↔((atV S,x.1)∈S.out):=by
   simp only[zw0,zwt,Prod.mk.injEq];constructor
   ·rintro(h|⟨h,_⟩)
    ·exact h
    ·omega
   ·exact .inl
  exact decide_eq_decide.mpr this
 simp only[this];rfl
theorem zh2(o:SOk nu n S)(g:Jo S D)(af:R8 H' S D S' v)(hb:D≠.back)(hn:∀ k gr c,D=.enrol k gr c->k∈nu):SOk nu (n+1) S'/\((D=.close/\S'.std=[]/\S'.cur=none)\/(D≠.close/\Nk S S')):=by
 obtain⟨n1,n2⟩:=o.num;cases af with
 | enrol k gr c =>
   obtain⟨g1,g2,g3,g4,g5⟩:=g;refine⟨⟨fun s hs=>?_,?_,fun x hx=>?_,?_,o.led,o.old,o.len,fun _=>g1,⟨?_,?_⟩,fun s hs=>⟨zx8 (o.gp s hs).1,(o.gp s hs).2⟩⟩,.inr ⟨nofun,(("enrol":Str),k,atV S),rfl,.inl ⟨rfl,#[L,gr,c],rfl⟩,rfl,rfl,rfl,rfl⟩⟩
   ·have hs:S.cur=some s:=hs;rw[g2] at hs;cases hs
   ·show (List.map (·.1) (S.ppl++[(k,gr,c)])).Nodup;rw[zwv,List.nodup_append];refine⟨o.nd,by simp,fun x hx y hy=>?_⟩;rw[zw2,List.map_nil,zwt] at hy;subst hy;rintro rfl;exact g4 hx
   ·rcases zw0.mp hx with hx|hx
    ·exact o.ppl x hx
    ·rw[zwt.mp hx];exact⟨hn k gr c rfl,g3⟩
   ·show (S.ppl++[(k,gr,c)]).length<=30;rw[zwr];show S.ppl.length+1<=30;omega
   ·show S.out.length<=n+1;omega
   ·show (S.std++[_]).length<=n+1;rw[zwr];show S.std.length+1<=n+1;omega
 | @awayN i k l h hl =>
   obtain⟨g1,g2,g3,g4⟩:=g;refine⟨⟨fun s hs=>?_,o.nd,o.ppl,o.few,o.led,o.old,o.len,o.lt,⟨?_,?_⟩,fun s hs=>⟨zx8 (o.gp s hs).1,(o.gp s hs).2⟩⟩,.inr ⟨nofun,(("away":Str),k,i),rfl,.inr (.inl ⟨rfl,rfl,rfl,g4⟩),rfl,rfl,rfl,rfl⟩⟩
   ·have hs:S.cur=some s:=hs;rcases h with h|h
    ·rw[h] at hs;cases hs
    ·obtain⟨c1,c2,c3,c4,c5⟩:=o.cur s hs;refine⟨c1,c2,c3,by rw[zft h];exact c4,?_⟩;show s.gaps.length<=(S.std++[_]).length;rw[zwr];omega
   ·show (S.out++[_]).length<=n+1;rw[zwr];show S.out.length+1<=n+1;omega
   ·show (S.std++[_]).length<=n+1;rw[zwr];show S.std.length+1<=n+1;omega
 | @awayF k s l h hp hl =>
   obtain⟨g1,g2,g3,g4⟩:=g;obtain⟨c1,c2,c3,c4,c5⟩:=o.cur s h;refine⟨⟨fun s' hs=>?_,o.nd,o.ppl,o.few,o.led,o.old,o.len,fun _=>o.lt (by rw[h];exact nofun),⟨?_,?_⟩,fun s' hs=>?_⟩,.inr ⟨nofun,(("away":Str),k,atV S),rfl,.inr (.inl ⟨rfl,rfl,rfl,g4⟩),rfl,rfl,rfl,rfl⟩⟩
   ·have hs:some { s with may:=mayS (Xw S (atV S) k) s.ms }=some s':=hs;cases hs;have hno:∀ i:Nat,s.gv[i]?≠some (V.int k):=by
     rcases Jh s.gv k with z|⟨i,z,_⟩
     ·exact z.2
     ·rw[hp] at z;cases z
    refine⟨c1,?_,?_,rfl,?_⟩
    ·show Ye (mayS (Xw S (atV S) k) s.ms) s.gv;rw[Ua,<- c4];exact zfs c2 hno
    ·show Vw (mayS (Xw S (atV S) k) s.ms) s.gv;rw[Ua,<- c4];exact zcx c3
    ·show s.gaps.length<=(S.std++[_]).length;rw[zwr];omega
   ·show (S.out++[_]).length<=n+1;rw[zwr];show S.out.length+1<=n+1;omega
   ·show (S.std++[_]).length<=n+1;rw[zwr];show S.std.length+1<=n+1;omega
   ·have old:=o.gp s (.inl h);rcases hs with hs|hs
    ·have hs:some { s with may:=mayS (Xw S (atV S) k) s.ms }=some s':=hs;cases hs;exact⟨zx8 old.1,old.2⟩
    ·have:=o.gp s' (.inr hs);exact⟨zx8 this.1,this.2⟩
 | @awayC k s p e l us st w h hp hl tl CR =>
   obtain⟨g1,g2,g3,g4⟩:=g;obtain⟨c1,c2,c3,c4,c5⟩:=o.cur s h;refine⟨⟨fun s' hs=>?_,o.nd,o.ppl,o.few,o.led,o.old,o.len,fun _=>o.lt (by rw[h];exact nofun),⟨?_,?_⟩,fun s' hs=>?_⟩,.inr ⟨nofun,(("away":Str),k,atV S),rfl,.inr (.inl ⟨rfl,rfl,rfl,g4⟩),rfl,rfl,rfl,rfl⟩⟩
   ·have hs:some (⟨s.ms,mayS (Xw S (atV S) k) s.ms,Yj st (s.gv.set p .non),s.gaps++[(k,st)]⟩:Z4)=some s':=hs;cases hs;have hx:=Qv hp;rw[Ua,<- c4] at CR;have F0:=V7 c2 hx;have hpl:p<(without s.may k).length:=by
     unfold without;rw[zwo,<- c2.len];exact(zwq.mp hx).1
    refine⟨c1,?_,?_,rfl,?_⟩
    ·show Ye (mayS (Xw S (atV S) k) s.ms) _;rw[Ua,<- c4];exact CR.fill F0 hpl
    ·show Vw (mayS (Xw S (atV S) k) s.ms) _;rw[Ua,<- c4];exact zan c2 c3 hx CR
    ·show (s.gaps++[_]).length<=(S.std++[_]).length;rw[zwr,zwr];show s.gaps.length+1<=S.std.length+1;omega
   ·show (S.out++[_]).length<=n+1;rw[zwr];show S.out.length+1<=n+1;omega
   ·show (S.std++[_]).length<=n+1;rw[zwr];show S.std.length+1<=n+1;omega
   ·have old:=o.gp s (.inl h);rcases hs with hs|hs
    ·have hs:some (⟨s.ms,mayS (Xw S (atV S) k) s.ms,Yj st (s.gv.set p .non),s.gaps++[(k,st)]⟩:Z4)=some s':=hs;cases hs;have hx:=Qv hp;rw[Ua,<- c4] at CR;have hpl:p<(without s.may k).length:=by
      unfold without;rw[zwo,<- c2.len];exact(zwq.mp hx).1
     have hcl:=CR.len (V7 c2 hx) hpl;have hwl:(without s.may k).length=s.may.length:=by unfold without;rw[zwo]
     have hml:s.may.length=s.ms.length:=by rw[c4];unfold mayS;rw[zwo]
     refine⟨by show (s.gaps++[_]).length<=n+1;rw[zwr];show s.gaps.length+1<=n+1;omega,fun x hx'=>?_⟩;rcases zw0.mp hx' with z|z
     ·exact old.2 x z
     ·rw[zwt.mp z];show st.length<=100;omega
    ·have:=o.gp s' (.inr hs);exact⟨zx8 this.1,this.2⟩
 | @draw ms gv l hl F T =>
   obtain⟨g1,g2,g3,g4,g5⟩:=g;refine⟨⟨fun s' hs=>?_,o.nd,o.ppl,o.few,o.led,o.old,o.len,fun _=>g1,⟨?_,?_⟩,fun s' hs=>?_⟩,.inr ⟨nofun,(("draw up":Str),(ms.length:Int),atV S),rfl,.inr (.inr #[q,rfl,rfl]),rfl,rfl,rfl,rfl⟩⟩
   ·have hs:some (⟨ms,mayS S ms,gv,[]⟩:Z4)=some s':=hs;cases hs;exact⟨g3,F,T,rfl,zxj _⟩
   ·show S.out.length<=n+1;omega
   ·show (S.std++[_]).length<=n+1;rw[zwr];show S.std.length+1<=n+1;omega
   ·rcases hs with hs|hs
    ·have hs:some (⟨ms,mayS S ms,gv,[]⟩:Z4)=some s':=hs;cases hs;exact⟨zxj _,nofun⟩
    ·have:=o.gp s' (.inr hs);exact⟨zx8 this.1,this.2⟩
 | @close s h =>
   obtain⟨g1,g2⟩:=g;obtain⟨c1,c2,c3,c4,c5⟩:=o.cur s h;refine⟨⟨fun s' hs=>(by cases hs),o.nd,o.ppl,o.few,?_,fun x hx=>?_,⟨?_,o.len.2⟩,fun z=>absurd rfl z,⟨?_,zxj _⟩,fun s' hs=>?_⟩,.inl ⟨rfl,rfl,rfl⟩⟩
   ·show S.led++[Z9 s]=List.map Z9 (S.old++[s]);rw[zwv,o.led];rfl
   ·rcases zw0.mp hx with hx|hx
    ·exact o.old x hx
    ·rw[zwt.mp hx];refine⟨c1,?_,c2.one⟩;rw[c2.len,c4];unfold mayS;rw[zwo]
   ·show (S.led++[_]).length<=S.len;rw[zwr];exact g1
   ·show S.out.length<=n+1;omega
   ·rcases hs with hs|hs
    ·cases hs
    ·have hs:s'∈S.old++[s]:=hs;rcases zw0.mp hs with z|z
     ·have:=o.gp s' (.inr z);exact⟨zx8 this.1,this.2⟩
     ·rw[zwt.mp z];have:=o.gp s (.inl h);exact⟨zx8 this.1,this.2⟩
 | back h ht hs=>exact absurd rfl hb
theorem zfu(r:Rel mb P S)(o:SOk nu n S)(g:Jo S D)(af:R8 H' S D S' v)(hb:D≠.back):RelB mb (Tj P D) S':=by
 obtain⟨⟨r1,r2,r3,r4,r5,r6⟩,rg,rm⟩:=id r;cases af with
 | enrol k gr c=>exact⟨r1,r2,by show P.ppl++_=S.ppl++_;rw[r3],r4,r5,r6⟩
 | @awayN i k l h hl=>exact⟨r1,r2,r3,by show P.out++_=S.out++_;rw[r4],r5,r6⟩
 | @awayF k s l h hp hl=>exact⟨r1,r2,r3,by show P.out++_=S.out++_;rw[r4],r5,by show P.lis=_;rw[r6,h];rfl⟩
 | @awayC k s p e l us st w h hp hl tl CR=>exact⟨r1,r2,r3,by show P.out++_=S.out++_;rw[r4],r5,by show P.lis=_;rw[r6,h];rfl⟩
 | @draw ms gv l hl F T=>exact⟨r1,r2,r3,r4,r5,rfl⟩
 | @close s h =>
   have hl:P.lis=some s.ms:=by rw[r6,h];rfl
   refine⟨r1,r2,r3,r4,?_,rfl⟩;show List.map (Qa mb) (P.over++[⟨P.lis.getD [],Sy P (P.lis.getD []),P.gv,P.mv⟩])=List.map (Qa mb) (S.old++[s]);rw[zwv,zwv,r5,hl]
   congr 1
   have e1:=(o.cur s h).2.2.2.1;have e2:=r.b.may o s.ms;have e3:=rg s h;unfold Qa;cases mb with
   | true =>
     have e4:P.mv=s.gaps:=by rw[rm rfl,zcw h]
     show [(⟨s.ms,Sy P s.ms,P.gv,P.mv⟩:Z4)]=[s];rw[e2,e3,e4,<- e1]
   | false =>
     show [(⟨s.ms,Sy P s.ms,P.gv,[]⟩:Z4)]=[(⟨s.ms,s.may,s.gv,[]⟩:Z4)];rw[e2,e3,<- e1]
 | back h ht hs=>exact absurd rfl hb
theorem zfv(h1:Nk S1 S)(h2:Nk S2 S):S1=S2:=by
 obtain⟨d1,a1,a2,a3,a4,a5,a6⟩:=h1;obtain⟨d2,b1,b2,b3,b4,b5,b6⟩:=h2;have e:=a1.symm.trans b1;obtain⟨e1,e2⟩:=List.append_inj' e rfl;have e3:=List.cons.inj e2;obtain⟨e4,e5⟩:=Prod.mk.inj e3.1;subst e4;have w1:("enrol":Str)≠"away":=by decide +kernel
 have w2:("enrol":Str)≠"draw up":=by decide +kernel
 have w3:("away":Str)≠"draw up":=by decide +kernel
 have e6:S1.ppl=S2.ppl/\S1.out=S2.out:=by
  rcases a2 with ⟨x1,⟨g,c,x2⟩,x3⟩|⟨x1,x2,x3,_⟩|⟨x1,x2,x3⟩<;>rcases b2 with ⟨y1,⟨g',c',y2⟩,y3⟩|⟨y1,y2,y3,_⟩|⟨y1,y2,y3⟩
  ·exact⟨(List.append_inj' (x2.symm.trans y2) rfl).1,x3.trans y3.symm⟩
  ·exact absurd (x1.symm.trans y1) w1
  ·exact absurd (x1.symm.trans y1) w2
  ·exact absurd (y1.symm.trans x1) w1
  ·exact⟨x2.trans y2.symm,(List.append_inj' (x3.symm.trans y3) rfl).1⟩
  ·exact absurd (x1.symm.trans y1) w3
  ·exact absurd (y1.symm.trans x1) w2
  ·exact absurd (y1.symm.trans x1) w3
  ·exact⟨x2.trans y2.symm,x3.trans y3.symm⟩
 obtain⟨l1,q1,p1,d1',o1,ol1,c1,s1⟩:=S1;obtain⟨l2,q2,p2,d2',o2,ol2,c2,s2⟩:=S2;simp only at *;obtain⟨e7,e8⟩:=e6;subst e1 e5 e7 e8;rw[<- a3,<- b3,<- a4,<- b4,<- a5,<- b5,<- a6,<- b6]
structure FrN(A A':SAd)(H H':Hp):Prop where
 p:A'.p=A.p
 k:∀ b o,H b=#[d]->b∉A.fp->H' b=#[d]/\b∉A'.fp
 kt:#[al]
theorem FrN.refl(A:SAd)(H:Hp):FrN A A H H:=⟨rfl,fun b o e n=>⟨e,n⟩,fun _ _ e=>e⟩
theorem FrN.of(e:#[j]):FrN A A H H':=⟨rfl,fun b o z n=>⟨e _ _ z,n⟩,fun _ _ z=>e _ _ z⟩
theorem FrN.trans(h1:FrN A A1 H H1)(h2:FrN A1 A2 H1 H2):FrN A A2 H H2:=⟨h2.p.trans h1.p,fun b o e n=>by
 obtain⟨a1,a2⟩:=h1.k b o e n;exact h2.k b o a1 a2,fun t xs e=>h2.kt _ _ (h1.kt _ _ e)⟩
theorem G9.out(nx:G9 A A' H)(e:H b=some o)(n:b∉A.fp):b∉A'.fp:=by
 obtain⟨x,rfl,hx⟩:=nx;simp only[SAd.fp,zwy,zx2,or_false] at n ⊢;rcases hx with rfl|hx
 ·exact n
 ·have:b≠x:=Zg e hx;rintro(z|z|z|z|z|z|z)
  ·exact n (.inl z)
  ·exact n (.inr (.inl z))
  ·exact n (.inr (.inr (.inl z)))
  ·exact n (.inr (.inr (.inr (.inl z))))
  ·exact n (.inr (.inr (.inr (.inr (.inl z)))))
  ·exact n (.inr (.inr (.inr (.inr (.inr (.inl z))))))
  ·exact this z
theorem FrN.next(SA:#[O])(nx:G9 A A' H)(f:FrS A H H'):FrN A A' H H':=⟨by obtain⟨x,rfl,_⟩:=nx;rfl,fun b o e n=>⟨f b o e n,nx.out e n⟩,SA.tups f⟩
def Sb(K:Frag)(A:SAd)(H:Hp)(b:Addr)(xs:#[a]):Prop:=(Rd H b (.lst xs)/\b∉A.fp)\/∀ H',SqL K H' b xs
theorem Sb.sq{K:Frag}{A:SAd}{H:Hp}{b:Addr}{xs:#[a]}(h:Sb K A H b xs):SqL K H b xs:=by
 rcases h with h|h
 ·exact .inl h.1
 ·exact h H
theorem Sb.fr{K:Frag}{A A':SAd}{H H':Hp}{b:Addr}{xs:#[a]}(f:FrN A A' H H')(h:Sb K A H b xs):Sb K A' H' b xs:=by
 rcases h with ⟨h,n⟩|h
 ·rcases h with h|⟨o,h⟩
  ·exact #[M,.inl (f.k _ _ h n).1,(f.k _ _ h n).2]
  ·exact #[M,.inr ⟨o,(f.k _ _ h n).1⟩,(f.k _ _ h n).2]
 ·exact .inr h
theorem Sb.make{K:Frag}{H:Hp}{b:Addr}{xs:#[a]}(h:SqL K H b xs)(A:SAd)(H':Hp)(s:#[j])(hf:∀ x∈A.fp,H x=none):Sb K A H' b xs:=by
 rcases h with h|h
 ·have hn:b∉A.fp:=fun z=>by
   have:=hf b z;rcases h with h|⟨o,h⟩<;>(rw[this] at h;cases h)
  rcases h with h|⟨o,h⟩
  ·exact #[M,.inl (s _ _ h),hn]
  ·exact #[M,.inr ⟨o,s _ _ h⟩,hn]
 ·exact .inr fun _=>.inr h
structure Nl(A:SAd)(H:Hp)(t lc ln:Addr)(cs nu:#[o]):Prop where
 at_:Mb H t lc ln cs nu
 o:t∉A.fp/\lc∉A.fp/\ln∉A.fp
theorem Nl.fr{A A':SAd}{H H':Hp}{t lc ln:Addr}{cs nu:#[o]}(f:FrN A A' H H')(h:Nl A H t lc ln cs nu):Nl A' H' t lc ln cs nu:=by
 obtain⟨⟨a1,a2,a3,a4,a5,a6,a7,a8,a9⟩,o1,o2,o3⟩:=h;exact⟨⟨(f.k _ _ a1 o1).1,(f.k _ _ a2 o2).1,(f.k _ _ a3 o3).1,a4,a5,a6,a7,a8,a9⟩,(f.k _ _ a1 o1).2,(f.k _ _ a2 o2).2,(f.k _ _ a3 o3).2⟩
inductive Bk(mb:Bool)(ok:Addr->Prop)(H:Hp)(nu:#[o])(n:Nat):#[x]->Sea->Prop where
 | one {d:Addr} {P:Pg} {S:Sea} (h:PgAt ok H d P) (r:Rel mb P S) (o:SOk nu n S) (e:S.std=[]):Bk mb ok H nu n [d] S
 | snoc {ds:#[x]} {d:Addr} {P:Pg} {S S':Sea} (b:Bk mb ok H nu n ds S) (nd:d∉ds) (h:PgAt ok H d P) (r:Rel mb P S') (o:SOk nu n S') (st:Nk S S') (hd:∃ x,P.deed=some x/\S'.std=S.std++[(x,S.cur)]):Bk mb ok H nu n (ds++[d]) S'
section
variable{mb:Bool}{ok ok':Addr->Prop}{H H':Hp}{nu:#[o]}{n m:Nat}{ds:#[x]}{d:Addr}{P:Pg}{S S':Sea}
theorem Bk.keep(b:Bk mb ok H nu n ds S)(k:#[ay,x,x])(kt:#[al]):Bk mb ok H' nu n ds S:=by
 induction b with
 | one h r o e=>exact .one (h.keep k kt) r o e
 | snoc b nd h r o st hd ih=>exact .snoc ih nd (h.keep k kt) r o st hd
theorem Bk.imp(b:Bk mb ok H nu n ds S)(k:#[aB]):Bk mb ok' H nu n ds S:=by
 induction b with
 | one h r o e=>exact .one (h.imp k) r o e
 | snoc b nd h r o st hd ih=>exact .snoc ih nd (h.imp k) r o st hd
theorem Bk.mono(b:Bk mb ok H nu n ds S)(e:n<=m):Bk mb ok H nu m ds S:=by
 induction b with
 | one h r o e'=>exact .one h r (o.mono e) e'
 | snoc b nd h r o st hd ih=>exact .snoc ih nd h r (o.mono e) st hd
theorem Bk.there(b:Bk mb ok H nu n ds S):∀ d∈ds,∃ kvs,H d=#[b,.dK,kvs]:=by
 induction b with
 | one h r o e =>
   intro d hd;rw[zwt.mp hd];obtain⟨_,_,_,_,_,_,_,a,_⟩:=h.split;exact⟨_,a⟩
 | snoc b nd h r o st hd ih =>
   intro d' hd';rcases zw0.mp hd' with z|z
   ·exact ih d' z
   ·rw[zwt.mp z];obtain⟨_,_,_,_,_,_,_,a,_⟩:=h.split;exact⟨_,a⟩
theorem Bk.other(b:Bk mb ok H nu n ds S)(he:H e=#[b,.dK,kvs])(hn:e∉ds):Bk mb ok (upd H e (.dK kvs')) nu n ds S:=by
 induction b with
 | one h r o e'=>exact .one (h.other (fun z=>hn (by rw[z];exact zys _)) he) r o e'
 | snoc b nd h r o st hd ih=>exact .snoc (ih fun z=>hn (zxa _ z)) nd (h.other (fun z=>hn (by rw[z];exact zw7 _ (zys _))) he) r o st hd
structure zh3(mb:Bool)(ok:Addr->Prop)(H:Hp)(nu:#[o])(n:Nat)(ds:#[x])(d:Addr)(dd:Option Tv)(S:Sea):Prop where
 nd:d∉ds
 ex:(ds=[]/\S.std=[])\/∃ S0,Bk mb ok H nu n ds S0/\Nk S0 S/\∃ x,dd=some x/\S.std=S0.std++[(x,S0.cur)]
structure E4(mb:Bool)(ok:Addr->Prop)(H:Hp)(nu:#[o])(n:Nat)(ds:#[x])(d:Addr)(P:Pg)(S:Sea):Prop where
 pg:PgAt ok H d P
 rb:RelB mb P S
 so:SOk nu n S
 tl:#[ak,zh3,H,P.deed]
structure Ut(mb:Bool)(ok:Addr->Prop)(H:Hp)(nu:#[o])(n:Nat)(ds:#[x])(d:Addr)(P:Pg)(S:Sea):Prop where
 pg:PgAt ok H d P
 re:Rel mb P S
 so:SOk nu n S
 tl:#[ak,zh3,H,P.deed]
theorem Ut.pend(h:#[ak,Ut,H,P]):#[ak,E4,H,P]:=⟨h.pg,h.re.b,h.so,h.tl⟩
theorem Ut.bk(h:#[ak,Ut,H,P]):Bk mb ok H nu n (ds++[d]) S:=by
 obtain⟨nd,⟨rfl,e⟩|⟨S0,b,st,hd⟩⟩:=h.tl
 ·exact .one h.pg h.re h.so e
 ·exact .snoc b nd h.pg h.re h.so st hd
theorem Bk.full(b:Bk mb ok H nu n xs S):∃ ds d P,xs=ds++[d]/\#[ak,Ut,H,P]:=by
 cases b with
 | one h r o e=>exact⟨[],_,_,rfl,h,r,o,nofun,#[M,rfl,e]⟩
 | snoc b nd h r o st hd=>exact⟨_,_,_,rfl,h,r,o,nd,.inr ⟨_,b,st,hd⟩⟩
theorem zh3.keep(h:#[ak,zh3,H,dd])(k:#[ay,x,x])(kt:#[al]):#[ak,zh3,H',dd]:=by
 obtain⟨nd,e|⟨S0,b,r⟩⟩:=h
 ·exact⟨nd,.inl e⟩
 ·exact⟨nd,.inr ⟨S0,b.keep k kt,r⟩⟩
theorem E4.same(h:#[ak,E4,H,P])(e:#[j]):#[ak,E4,H',P]:=⟨h.pg.same e,h.rb,h.so,h.tl.keep (fun _ _ _ q=>e _ _ q) fun _ _ q=>e _ _ q⟩
theorem Ut.same(h:#[ak,Ut,H,P])(e:#[j]):#[ak,Ut,H',P]:=⟨h.pg.same e,h.re,h.so,h.tl.keep (fun _ _ _ q=>e _ _ q) fun _ _ q=>e _ _ q⟩
theorem E4.full(h:#[ak,E4,H,P])(hg:∀ s,S.cur=some s->P.gv=s.gv)(hm:mb=true->P.mv=Fj S):#[ak,Ut,H,P]:=⟨h.pg,⟨h.rb,hg,hm⟩,h.so,h.tl⟩
end
theorem zh4(r:RelB mb P S)(o:SOk nu n S)(af:R8 H' S D S' v)(hb:D≠.back)(hc:D≠.close):∃ x,(Tj P D).deed=some x/\S'.std=S.std++[(x,S.cur)]:=by
 have e:=r.at o;cases af with
 | enrol k gr c=>exact#[q,_,by rw[e]]
 | awayN h hl=>exact#[q,_,rfl]
 | awayF h hp hl=>exact#[q,_,rfl]
 | awayC h hp hl tl CR=>exact#[q,_,rfl]
 | draw hl F T=>exact#[q,_,by rw[e];rfl]
 | close h=>exact absurd rfl hc
 | back h ht hs=>exact absurd rfl hb
theorem turn(F:Ut mb (·∉A.fp) H nu n ds d P S)(SA:#[O])(af:R8 H1 S D S' v)(SA1:Z1 ca H1 A' S')(nx:G9 A A' H)(fr:FrS A H H1)(g:Jo S D)(hn:∀ k gr c,D=.enrol k gr c->k∈nu)
  (pg:D≠.back->PgAt (fun x=>x∉A'.fp\/H1 x=none) H2 d' (Tj P D)) (s2:Same H1 H2) (fd:H1 d'=none) :
  ∃ ds2 d2 P2,B4 ds d d' D=ds2++[d2]/\E4 mb (·∉A'.fp) H2 nu (n+1) ds2 d2 P2 S'/\(D≠.back->P2=Tj P D)/\(D=.back\/D=.close->(∀ s,S'.cur=some s->P2.gv=s.gv)/\(mb=true->P2.mv=Fj S')):=by
 have mv:∀ {xs:List Addr} {S0:Sea},Bk mb (·∉A.fp) H nu n xs S0->Bk mb (·∉A'.fp) H2 nu (n+1) xs S0:=fun b=>by
  have b1:=b.imp (ok':=fun x=>x∉A.fp/\x∉A'.fp) fun x ⟨o,e⟩ z=>⟨z,nx.out e z⟩
  have b2:=b1.keep (H':=H2) (fun x o z e=>s2 _ _ (fr x o e z.1)) fun t xs e=>s2 _ _ (SA.tups fr t xs e);exact(b2.imp fun x _ z=>z.2).mono (Nat.le_succ n)
 have hd1:∀ x∈ds++[d],x≠d':=fun x hx z=>by
  have b1:=F.bk.imp (ok':=fun x=>x∉A.fp/\x∉A'.fp) fun x ⟨o,e⟩ z=>⟨z,nx.out e z⟩
  have b2:=b1.keep (H':=H1) (fun x o z e=>fr x o e z.1) fun t xs e=>SA.tups fr t xs e;obtain⟨kvs,e⟩:=b2.there x hx;rw[z,fd] at e;cases e
 by_cases hb:D=.back
 ·subst hb;cases af with
  | @back S0' dd t h ht hs =>
    obtain⟨nd,⟨_,e⟩|⟨S0,b,st,_⟩⟩:=F.tl
    ·exact absurd e g
    ·have es:=zfv hs st;subst es;obtain⟨ds2,d2,P2,e,F2⟩:=(mv b).full;exact⟨ds2,d2,P2,e,F2.pend,fun z=>absurd rfl z,fun _=>⟨F2.re.gv,F2.re.mv⟩⟩
 ·have pg':PgAt (·∉A'.fp) H2 d' (Tj P D):=(pg hb).imp fun x hx z=>by
   rcases z with z|z
   ·exact z
   ·exact SA1.newOk x z
  obtain⟨o',ho⟩:=zh2 F.so g af hb hn;have rb:=zfu F.re F.so g af hb;rcases ho with ⟨rfl,e1,e2⟩|⟨hc,st⟩
  ·exact⟨[],d',_,rfl,⟨pg',rb,o',nofun,#[M,rfl,e1]⟩,fun _=>rfl,fun _=>⟨fun s hs=>(by rw[e2] at hs;cases hs),fun _=>(by rw[Me e2];rfl)⟩⟩
  ·have hk:B4 ds d d' D=(ds++[d])++[d']:=by
    cases D with
    | back=>exact absurd rfl hb
    | close=>exact absurd rfl hc
    | enrol _ _ _=>rfl
    | away _ _=>rfl
    | draw _=>rfl
   refine⟨ds++[d],d',_,hk,⟨pg',rb,o',fun z=>hd1 d' z rfl,.inr ⟨S,mv F.bk,st,zh4 F.re.b F.so af hb hc⟩⟩,fun _=>rfl,?_⟩;rintro(z|z)
   ·exact absurd z hb
   ·exact absurd z hc
section
variable{mb:Bool}{ok ok':Addr->Prop}{A A':SAd}{H H':Hp}{nu:#[o]}{n m:Nat}{ds:#[x]}{d:Addr}{P:Pg}{S S':Sea}{D:Wq}
theorem PgAt.fr(f:FrN A A' H H')(h:PgAt (·∉A.fp) H d P):PgAt (·∉A'.fp) H' d P:=by
 have b1:=h.imp (ok':=fun x=>x∉A.fp/\x∉A'.fp) fun x ⟨o,e⟩ z=>⟨z,(f.k x o e z).2⟩
 have b2:=b1.keep (H':=H') (fun x o z e=>(f.k x o e z.1).1) f.kt;exact b2.imp fun x _ z=>z.2
theorem W0.fr(f:FrN A A' H H')(h:W0 (·∉A.fp) H t D):W0 (·∉A'.fp) H' t D:=by
 cases D with
 | enrol a b c=>exact f.kt _ _ h
 | away a b=>exact f.kt _ _ h
 | draw ms =>
   obtain⟨l,ts,a1,a2,a3,a4⟩:=h;exact⟨l,ts,f.kt _ _ a1,(f.k _ _ a2 a4).1,a3.mono f.kt,(f.k _ _ a2 a4).2⟩
 | close=>exact f.kt _ _ h
 | back=>exact f.kt _ _ h
theorem W0.same(e:#[j])(h:W0 ok H t D):W0 ok H' t D:=by
 cases D with
 | enrol a b c=>exact e _ _ h
 | away a b=>exact e _ _ h
 | draw ms =>
   obtain⟨l,ts,a1,a2,a3,a4⟩:=h;exact⟨l,ts,e _ _ a1,e _ _ a2,a3.mono fun _ _ z=>e _ _ z,a4⟩
 | close=>exact e _ _ h
 | back=>exact e _ _ h
theorem W0.imp(k:∀ x,ok x->ok' x)(h:W0 ok H t D):W0 ok' H t D:=by
 cases D with
 | enrol a b c=>exact h
 | away a b=>exact h
 | draw ms =>
   obtain⟨l,ts,a1,a2,a3,a4⟩:=h;exact⟨l,ts,a1,a2,a3,k _ a4⟩
 | close=>exact h
 | back=>exact h
theorem Bk.len(b:Bk mb ok H nu n ds S):ds.length=S.std.length+1:=by
 induction b with
 | one h r o e=>rw[e];rfl
 | snoc b nd h r o st hd ih =>
   obtain⟨x,_,e⟩:=hd;rw[e,zwr,zwr,ih];rfl
theorem Ut.len(F:#[ak,Ut,H,P]):ds.length=S.std.length:=by
 have:=F.bk.len;rw[zwr] at this;have h1:[d].length=1:=rfl;omega
theorem Ut.pre(F:#[ak,Ut,H,P])(g:Jo S D)(hn:n<100):zhr S/\Od S/\S.std.length<100/\S.out.length<=100000/\2*(tot S.led+1000)<=100000/\S.led.length<=1000/\S.old.length<=1000/\S.len<=1000/\(∀ i k,D=.away i k->Yq k)/\(D=.back->∃ S0,Nk S0 S):=by
 have h1:=F.so.num;have h2:=F.so.len;have h3:=F.so.olen;have h4:=F.so.tot;refine⟨F.so.cur,F.so.pok,by omega,by omega,by omega,by omega,by omega,by omega,?_,?_⟩
 ·rintro i k rfl;obtain⟨_,_,g3,_⟩:=g;obtain⟨x,hx,rfl⟩:=zwx.mp g3;exact F.so.pok.small x hx
 ·rintro rfl;obtain⟨nd,⟨_,e⟩|⟨S0,b,st,_⟩⟩:=F.tl
  ·exact absurd e g
  ·exact⟨S0,st⟩
theorem Ut.pre2(F:#[ak,Ut,H,P])(g:Jo S D)(hn:n<100):Mc P/\P.ppl.length<=100/\P.out.length<=900/\ds.length<=900/\(D=.close->∃ ms,P.lis=some ms/\ms.length<=100):=by
 have h1:=F.so.num;have h2:=F.len;have h3:=F.so.few;refine⟨F.re.b.ovok F.so,by rw[F.re.b.ppl];omega,by rw[F.re.b.out];omega,by omega,?_⟩;rintro rfl;obtain⟨_,g2⟩:=g;cases e:S.cur with
 | none=>exact absurd e g2
 | some s=>exact⟨s.ms,by rw[F.re.b.lis,e];rfl,zw4 (F.so.cur s e).1 ⋯⟩
theorem Ut.back(F:#[ak,Ut,H,P])(h:ds≠[]):S.std≠[]:=by
 obtain⟨nd,⟨e,_⟩|⟨S0,b,st,x,_,e⟩⟩:=F.tl
 ·exact absurd e h
 ·rw[e];simp
end
inductive Fl(K:Frag)(ca:CA)(vs:#[a])(H:Hp)(Q:VK)(_:XK):Prop where
 | mk(mb:Bool)(A:SAd)(l le:Addr)(ts:#[a])(es:List P3)(ds:#[x])(d:Addr)(P:Pg)(S:Sea)(nu:#[o])(n:Nat)(_:vs=[.ref A.p,.ref l,.ref le])(_:#[O])(_:H l=some (.lst ((ds++[d]).map V.ref)))(_:l∉A.fp)(_:Ut mb (·∉A.fp) H nu n ds d P S)(_:#[y,H,le,ts])(_:le∉A.fp)(_:Z7 H ts (es.map enV))(_:(es.map (·.1)).Nodup)(_:(∀ x∈es,x.1∈nu/\¬ badI x.1 x.2.1 x.2.2/\x.1∉S.ppl.map (·.1)))(_:S.ppl.length+es.length<=30)(_:n+es.length<=90)(_:S.cur=none)(_:S.led.length<S.len)(_:∀ A' l' ds' d' P' S' H',Z1 ca H' A' S'->H' l'=#[I,(ds'++[d']).map,V.ref]->l'∉A'.fp->Ut mb (·∉A'.fp) H' nu (n+es.length) ds' d' P' S'->FrN A A' H H'->S'.cur=none->S'.led=S.led->S'.len=S.len->#[S,l'])
theorem zcy(pg:PgAt ok H d (zcs r q))(hr:r<=60)(hq:q<=10):Ut mb ok H nu n [] d (zcs r q) (zhm r q) :=
 ⟨pg,⟨⟨rfl,rfl,rfl,rfl,rfl,rfl⟩,nofun,fun _=>rfl⟩,⟨nofun,.nil,nofun,zxj _,rfl,nofun,⟨zxj _,hr,hq⟩,fun z=>absurd rfl z,⟨zxj _,zxj _⟩,fun s hs=>(by rcases hs with z|z<;>cases z)⟩,nofun,.inl ⟨rfl,rfl⟩⟩
theorem Aa{lo:Int}{n:Nat}{g:TG}{tb:TS}{D:Pp}{σ:L2.St}{H:Hp}(Pv:Nat->L2.St->Hp->Prop)(h0:Pv 0 σ H)
  (hs:∀ N:L2.St->Hp->Prop,(∀ i σ H,Pv i σ H->N σ H)->∀ i σ H,i<n->Pv i σ H->g (.int (lo+i)) σ H fun σ2 H2=>tb { D with nx:=Pv (i+1),ct:=Pv (i+1),bk:=N } σ2 H2) (hd:∀ i σ H,Pv i σ H->D.nx σ H) :
  ∃ W:Nat->Nat->L2.St->Hp->Prop,(∃ m,W 0 m σ H)/\∀ i m σ H,W i m σ H ->
    ((Itr lo n).stop i H/\D.nx σ H)\/((Itr lo n).go i H/\∃ N:L2.St->Hp->Prop,(∀ σ' H',N σ' H'->∃ m',m' < m/\W (i+1) m' σ' H')/\∀ x H',(Itr lo n).yld i H x H'->g x σ H' fun σ2 H2=>tb { D with nx:=N,ct:=N,bk:=D.nx } σ2 H2) :=
 Xb Pv h0 (hs D.nx hd) (fun σ H p=>hd n σ H p)
theorem zfw(S:Sea):V9 S (atV S)=S.cur:=by
 unfold V9 atV;rw[if_neg ⋯,if_neg ⋯]
theorem zh5(o:SOk nu n S)(h:S.cur=some s)(hk:k s):B2 ca H S (atV S) E k:=by
 have h1:=o.len;have h2:=o.lt (by rw[h];exact nofun);have h3:atV S=(S.led.length:Int)+1:=rfl;refine⟨Yv ⋯ ⋯,o.olen,?_⟩;rw[if_neg ⋯,zfw];exact⟨fun z=>(by rw[h] at z;cases z),fun s' hs=>(by rw[h] at hs;cases hs;exact hk)⟩
theorem zjn(SA:#[O])(h:W0 (fun x=>H x=none) H' t D):W0 (·∉A.fp) H' t D:=h.imp fun x hx=>SA.newOk x hx
def Fm(H H':Hp):Prop:=Vk H H'/\∀ x c e f,H x=some (.ins c e f)->H' x=some (.ins c e f)
theorem Fm.dict(h:H d=#[b,.dK,kvs]):Fm H (upd H d (.dK kvs')) :=
 ⟨.dict h,fun x c e f z=>by rw[Zh (Y6 z h (by intro z;cases z))];exact z⟩
theorem ShAt.keepI(k:Fm H H')(h:ShAt C ok H q s):ShAt C ok H' q s:=by
 obtain⟨dx,l1,l2,l3,l4,ts,ls,gts,a1,a2,a3,a4,a5,a6,a7,a8,o1,o2,o3,o4,o5,o6⟩:=h;exact⟨dx,l1,l2,l3,l4,ts,ls,gts,k.2 _ _ _ _ a1,k.1.1 _ _ a2,a3.mono k.1.2,k.1.1 _ _ a4,ILs.keepL k.1 a5,k.1.1 _ _ a6,k.1.1 _ _ a7,a8.keepL k.1,o1,o2,o3,o4,o5,o6⟩
theorem ShO.keepI(k:Fm H H')(h:ShO C ok H v s):ShO C ok H' v s:=by
 cases s with
 | none=>exact h
 | some s=>obtain⟨q,e,h⟩:=h;exact⟨q,e,h.keepI k⟩
theorem ShL.keepI(k:Fm H H'):∀ {vs:List V} {ss:List Z4},ShL C ok H vs ss->ShL C ok H' vs ss
 | _,_,.nil=>.nil
 | _,_,.cons h r=>.cons (h.keepI k) (ShL.keepI k r)
theorem Us.keepI(k:Fm H H'):∀ {vs:List V} {ss:List (Tv×Option Z4)},Us C ok H vs ss->Us C ok H' vs ss
 | _,_,.nil=>.nil
 | _,_,.cons h hu hs r=>.cons (k.1.2 _ _ h) (k.1.2 _ _ hu) (hs.keepI k) (Us.keepI k r)
theorem Z1.dictW(h:#[O])(hd:H d=#[b,.dK,kvs])(n:d∉A.fp):Z1 ca (upd H d (.dK kvs')) A S:=by
 have k:=Fm.dict hd (kvs':=kvs');have hn:∀ x∈A.fp,∀ o,H x=#[d]->upd H d (.dK kvs') x=#[d]:=fun x hx o e=>by rw[Zh fun z=>n (by rw[<- z];exact hx)];exact e
 obtain⟨⟨dx,v,a1,a2⟩,b,c,⟨kvs0,d1,d2⟩,⟨vs,f1,f2⟩,⟨us,g1,g2⟩,nd,np⟩:=h;have hp:A.p∈A.fp:=by simp[SAd.fp]
 have hdr:A.dr∈A.fp:=by simp[SAd.fp]
 have hlr:A.lr∈A.fp:=by simp[SAd.fp]
 have hld:A.ld∈A.fp:=by simp[SAd.fp]
 have hda:A.da∈A.fp:=by simp[SAd.fp]
 have hls:A.ls∈A.fp:=by simp[SAd.fp]
 have hlt:A.lt∈A.fp:=by simp[SAd.fp]
 obtain⟨⟨dxr,kvr,r1,r2,r3⟩,ndr⟩:=b;obtain⟨⟨dxl,l1⟩,l2,l3⟩:=id c;refine⟨⟨dx,v,hn _ hp _ a1,a2.keepI k⟩,⟨⟨dxr,kvr,k.2 _ _ _ _ r1,hn _ hdr _ r2,r3.mono k.1.2⟩,ndr⟩,c.keep (fun o e=>?_) (hn _ hlr) (hn _ hld) k.1.2,⟨kvs0,hn _ hda _ d1,d2⟩,⟨vs,hn _ hls _ f1,f2.keepI k⟩,⟨us,hn _ hlt _ g1,g2.keepI k⟩,nd,np⟩;rw[l1] at e;cases e;exact k.2 _ _ _ _ l1
theorem FrN.dictW{A:SAd}{H:Hp}{d:Addr}{kvs kvs':#[U]}(hd:H d=#[b,.dK,kvs]){b:Addr}{o:HO}(e:H b=some o)(h:∀ k,o≠.dK k):upd H d (.dK kvs') b=some o:=by
 rw[Zh (Y6 e hd (by intro z;exact h _ z))];exact e
theorem Sb.dictW{K:Frag}{A:SAd}{H:Hp}{d b:Addr}{kvs kvs':#[U]}{xs:#[a]}(h:Sb K A H b xs)(hd:H d=#[b,.dK,kvs]):Sb K A (upd H d (.dK kvs')) b xs:=by
 rcases h with ⟨h|⟨o,h⟩,n⟩|h
 ·exact #[M,.inl (FrN.dictW (A:=A) hd h (by intro k z;cases z)),n]
 ·exact #[M,.inr ⟨o,FrN.dictW (A:=A) hd h (by intro k z;cases z)⟩,n]
 ·exact .inr h
theorem Nl.dictW{A:SAd}{H:Hp}{d t lc ln:Addr}{cs nu:#[o]}{kvs kvs':#[U]}(h:Nl A H t lc ln cs nu)(hd:H d=#[b,.dK,kvs]):Nl A (upd H d (.dK kvs')) t lc ln cs nu:=by
 have k:=Vk.dict hd (kvs':=kvs');obtain⟨⟨a1,a2,a3,a4,a5,a6,a7,a8,a9⟩,o⟩:=h;exact⟨⟨k.2 _ _ a1,k.1 _ _ a2,k.1 _ _ a3,a4,a5,a6,a7,a8,a9⟩,o⟩
theorem zbk(FP:Ye rows gs)(T:Vw rows gs):zao rows gs:=fun p hp q k hw hf=>by
 obtain⟨S,h1,h2⟩:=T p hp;have hS:S q:=by
  clear hf
  induction hw with
  | nil=>exact h1
  | snoc w a ih =>
    obtain⟨⟨r,e1,e2⟩,e3⟩:=a;obtain⟨q',_,e4,e5⟩:=(h2 _ ih).2 r e1 _ e2;rw[FP.inj _ _ _ e3 e4];exact e5
 obtain⟨n,⟨r,e1,e2⟩,e3⟩:=hf;obtain⟨q',_,e4,_⟩:=(h2 q hS).2 r e1 n e2;exact e3 q' e4
end G
namespace L2
open PySem PySem.Spec PyProof.Rows
theorem fnS(a:sc.kind=.function:=by rfl)(b:sc.isCoroutine=false:=by rfl)(c:sc.isGenerator=false:=by rfl)(d:N.Nodup:=by decide +kernel)(e:N.take P.length=P:=by rfl)(f:∀ x∈P,sc.names.lookup x=some .local\/sc.names.lookup x=some .cell:=by decide +kernel)(g:∀ y∈sc.names,y.2≠.free:=by decide +kernel):Zm N P sc:=⟨a,b,c,d,e,f,g⟩
section
variable{X:Cx}{k j:Nat}{C:Addr}{ps:List Str}{sp:Sp}{E:XK}{x m:Str}{p pos pos' apos:Pos}{e o a b:Expr}{es:List Expr}{ta tb te:TE}{t:TA}{r:R2}
theorem pS(i:Nat)(hN:X.N.Nodup)(he:PE X e te)(hi:X.N[i]?=some x:=by rfl)(hx:Loc X.env.scope x:=by first|exact Or.inl rfl|exact Or.inr rfl)(hs:swapsWith e (some (.Name x pos')) pos.line X.env=pure false:=by rfl)(hf:zby X i x:=by first|exact⟨.inl rfl,W6⟩|exact⟨.inr rfl,W6⟩|assumption|exact⟨.inl rfl,by assumption⟩|exact⟨.inr rfl,by assumption⟩) :
  PS X (.Assign [.Name x pos'] e pos) (zeg te (Vp i)):=zkb hN hi hx he hs hf
theorem pN(i:Nat)(hN:X.N.Nodup)(hi:X.N[i]?=some x:=by rfl)(hx:Loc X.env.scope x:=by first|exact Or.inl rfl|exact Or.inr rfl)(hf:zby X i x:=by first|exact⟨.inl rfl,W6⟩|exact⟨.inr rfl,W6⟩|assumption|exact⟨.inl rfl,by assumption⟩|exact⟨.inr rfl,by assumption⟩):PG X (.Name x pos) (Vp i):=V6 hN hi hx hf
theorem pI(hr:IxR X r)(ha:PE X a ta)(hb:PE X b tb)(hs:zdf b:=by exact fun _ _=>rfl):PE X (.Subscript a b pos) (tOp r ta tb):=zmc hr ha hb hs
theorem pD(hu:X.A.units+1<cLine)(ho:PE X a ta)(hi:PE X b tb)(hs:zki b:=by exact fun _ _=>rfl):PE X (.Subscript a b pos) (A6 ta tb):=zis hu ho hi hs
theorem pF(D:Z2 X.prog X.w X.K X.mg X.base x k ps sp)(hr:Vq j X.A)(ha:PA X (e :: es) t)(hk:k<=j:=by decide)(hx:Vv (CX1 X.prog X.w) X E:=by exact Zn)(hg:Gl X x:=by rfl)(hdb:(x == ("__debug__":Str))=false:=by decide)
  (he:starEach (e :: es) X.env=(false,#[G,e]) :: starEach es X.env:=by rfl) (hpl:#[aA]=false:=by rfl):PE X (.Call (.Name x p) (e :: es) [] pos) (Hv sp [] E t):=zdj D (hr.mono hk) hx hg ha hdb he hpl
theorem iL(K:Frag)(h:X.K=K:=by rfl):IxR X (Et K):=zgw h
theorem iU(K:Frag)(h:X.K=K:=by rfl):IxR X (zeq K):=zi2 h
theorem cL(K:Frag)(h:X.K=K:=by rfl):V5 X (.builtin "len") (fun xs H Q=>∃ p ys,xs=[.ref p]/\(SqL K H p ys\/SqT K H p ys)/\Q (.int ys.length) H):=Ez h
end
theorem cT(ys:List Str)(js:#[B])(a:closureFor scope X.env=pure cl:=by rfl)(b:scope.kind=.function:=by rfl)(c:∀ y∈scope.names,y.2=.local->scope.names.lookup y.1=some .local:=by decide +kernel)(d:∀ y∈scope.names,y.2≠.cell:=by decide +kernel)(e:scope.names.lookup x=some .local:=by rfl)(f:(x :: ys).Nodup:=by decide +kernel)(g:js.map (X.N[·]?)=ys.map some:=by rfl)
  (h:Ey (fun y=>X.env.kindOf y=some .cell/\(relabel scope X.env).names.lookup y=some .cell/\cl.lookup y=#[ah,y]) ys:=by repeat' (first|exact True.intro|apply And.intro|rfl)) (i:Ey (fun p=>#[ah,p.1]=some p.2) cl:=by repeat' (first|exact True.intro|apply And.intro|rfl)) (j:∀ y∈scope.names,y.2=.free->y.1∈ys:=by decide +kernel):zdi X x scope cl ys js:=⟨a,b,c,d,e,f,g,h,i,j⟩
abbrev LkF(K:Frag)(f:Addr)(x q:Str)(st:Stmt)(oc kV dc pm cd ct:Value)(od an:Option Addr)(sl:Array (Option Value)):Prop:=K.lookup f=some ⟨oc,od,.func (PySem.W.fnOf x q (Sz st) (Zv st) (Zi st) .none kV dc pm an cd ct),sl⟩
abbrev NsB(K:Frag)(x:Str)(f:Addr):Prop:=PySem.W.nsIn K mainGlobals x=some #[c,f]
abbrev FdB(K:Frag)(c:Addr)(x:Str)(f:Addr):Prop:=PySem.W.findIn K (.ref c) x=some #[c,f]
abbrev BnA(x q:Str)(st:Stmt)(ps:List Str):Prop:=∀ (kV doc pm:Value) (an:Option Addr) (cdv ct:Value) (us:List Value),us.length=ps.length->bindArgs (PySem.W.fnOf x q (Sz st) (Zv st) (Zi st) .none kV doc pm an cdv ct) ⟨us,[]⟩=pure (ps.zip us)
abbrev BnE(x q:Str)(st:Stmt)(ps:List Str)(us:#[Q]):Prop:=∀ (kV doc pm:Value) (an:Option Addr) (cdv ct:Value),bindArgs (PySem.W.fnOf x q (Sz st) (Zv st) (Zi st) .none kV doc pm an cdv ct) ⟨us,[]⟩=pure (ps.zip us)
section
variable{x q a b c d e g:Str}{st:Stmt}
theorem bnS{us:#[Q]}{n:Nat}(h:us.length=n+1):∃ u vs,us=u :: vs/\vs.length=n:=by
 cases us with
 | nil=>cases h
 | cons u vs=>exact⟨u,vs,rfl,Nat.succ.inj h⟩
theorem bn1(h:∀ u,BnE x q st [a] [u]:=by intros _ _ _ _ _ _ _;rfl):BnA x q st [a]:=fun _ _ _ _ _ _ us hl=>by obtain⟨_,us,rfl,l0⟩:=bnS hl;cases us with|nil=>exact h _ _ _ _ _ _ _|cons _ _=>cases l0
theorem bn2(h:∀ u v,BnE x q st [a,b] [u,v]:=by intros _ _ _ _ _ _ _ _;rfl):BnA x q st [a,b]:=fun _ _ _ _ _ _ us hl=>by obtain⟨_,us,rfl,l0⟩:=bnS hl;obtain⟨_,us,rfl,l1⟩:=bnS l0;cases us with|nil=>exact h _ _ _ _ _ _ _ _|cons _ _=>cases l1
theorem bn3(h:∀ u v w,BnE x q st [a,b,c] [u,v,w]:=by intros _ _ _ _ _ _ _ _ _;rfl):BnA x q st [a,b,c]:=fun _ _ _ _ _ _ us hl=>by obtain⟨_,us,rfl,l0⟩:=bnS hl;obtain⟨_,us,rfl,l1⟩:=bnS l0;obtain⟨_,us,rfl,l2⟩:=bnS l1;cases us with|nil=>exact h _ _ _ _ _ _ _ _ _|cons _ _=>cases l2
theorem bn4(h:∀ u v w y,BnE x q st [a,b,c,d] [u,v,w,y]:=by intros _ _ _ _ _ _ _ _ _ _;rfl):BnA x q st [a,b,c,d]:=fun _ _ _ _ _ _ us hl=>by obtain⟨_,us,rfl,l0⟩:=bnS hl;obtain⟨_,us,rfl,l1⟩:=bnS l0;obtain⟨_,us,rfl,l2⟩:=bnS l1;obtain⟨_,us,rfl,l3⟩:=bnS l2;cases us with|nil=>exact h _ _ _ _ _ _ _ _ _ _|cons _ _=>cases l3
theorem bn5(h:∀ u v w y z,BnE x q st [a,b,c,d,e] [u,v,w,y,z]:=by intros _ _ _ _ _ _ _ _ _ _ _;rfl):BnA x q st [a,b,c,d,e]:=fun _ _ _ _ _ _ us hl=>by obtain⟨_,us,rfl,l0⟩:=bnS hl;obtain⟨_,us,rfl,l1⟩:=bnS l0;obtain⟨_,us,rfl,l2⟩:=bnS l1;obtain⟨_,us,rfl,l3⟩:=bnS l2;obtain⟨_,us,rfl,l4⟩:=bnS l3;cases us with|nil=>exact h _ _ _ _ _ _ _ _ _ _ _|cons _ _=>cases l4
end
section
variable{K:Frag}{mg:#[R]}{x y q m:Str}{k:Nat}{ps:List Str}{sp:Sp}{C:Addr}{st:Stmt}{f:Addr}{fd:FuncData}
theorem dMk(P:Program)(w:World)(base:Heap)(F:#[i,x,q,st])(ok:FnOk P w K mg base #[f] k f fd ps sp)(b:mg y=#[b,.ref,f])(hb:BnA x q st ps:=by first|exact bn1|exact bn2|exact bn3|exact bn4|exact bn5):Z2 P w K mg base y k ps sp:=⟨f,fd,ok,b,F.kp,F.binds hb⟩
theorem mMk(P:Program)(w:World)(base:Heap)(F:#[i,x,q,st])(ok:FnOk P w K mg base #[f] k f fd ps sp)(b:zgg K C m f)(hb:BnA x q st ps:=by first|exact bn1|exact bn2|exact bn3|exact bn4|exact bn5):Zx P w K mg base C m k ps sp:=⟨f,fd,ok,b,F.binds hb⟩
theorem nMk(P:Program)(w:World)(base:Heap)(F:#[i,x,q,st])(ok:FnOk P w K mg base #[f] k f fd ps sp)(b:Mk K C f)(c:mg y=#[b,.ref,C])(hb:BnA x q st ps:=by first|exact bn1|exact bn2|exact bn3|exact bn4|exact bn5):T6 P w K mg base y C k ps sp:=⟨f,fd,ok,b,c,F.binds hb⟩
end
structure LN(K:Frag)(x q:Str)(st:Stmt)(f:Addr)(oc kV dc pm cd ct:Value)(od an:Option Addr)(sl:Array (Option Value)):Prop where
 b:NsB K x f
 l:LkF K f x q st oc kV dc pm cd ct od an sl
 c:PySem.W.codeIn K cd q=true
 k:PySem.W.keepIn K (.ref f)=true
structure LM(K:Frag)(C:Addr)(x q:Str)(st:Stmt)(f:Addr)(oc kV dc pm cd ct:Value)(od an:Option Addr)(sl:Array (Option Value)):Prop where
 b:FdB K C x f
 l:LkF K f x q st oc kV dc pm cd ct od an sl
 c:PySem.W.codeIn K cd q=true
 k:PySem.W.keepIn K (.ref f)=true
 i:PySem.W.isFn K (.ref f)=true
abbrev XcB(K:Frag)(c:Addr):Prop:=PySem.W.excIn K c [.type "ValueError",.type "Exception",.type "BaseException",.type "object"] "ValueError.__new__"=true
abbrev NzB(K:Frag)(x:Str):Prop:=PySem.W.nsIn K mainGlobals x=some none
structure XG(P:Program)(w:World)(base:Heap)(K:Frag)(mg:#[R])(h:Heap):Prop where
 X:K.In h
 G:h.Ns mainGlobals mg
section
variable{P:Program}{w:World}{base h:Heap}{K:Frag}{mg:#[R]}{x y q:Str}{k:Nat}{ps:List Str}{sp:Sp}{C:Addr}{st:Stmt}{f:Addr}{oc kV dc pm cd ct:Value}{od an:Option Addr}{sl:Array (Option Value)}
theorem dN(Z:XG P w base K mg h)(l:LN K x q st f oc kV dc pm cd ct od an sl)(ok:∀ {fd},#[i,x,q,st]->FnOk P w K mg base #[f] k f fd ps sp)(hb:BnA x q st ps:=by first|exact bn1|exact bn2|exact bn3|exact bn4|exact bn5):Z2 P w K mg base x k ps sp :=
 dMk P w base (Nv l.l l.c l.k) (ok (Nv l.l l.c l.k)) (PySem.W.mg_of Z.X Z.G l.b) hb
theorem mM(_:XG P w base K mg h)(l:LM K C x q st f oc kV dc pm cd ct od an sl)(ok:∀ {fd},#[i,x,q,st]->FnOk P w K mg base #[f] k f fd ps sp)(hb:BnA x q st ps:=by first|exact bn1|exact bn2|exact bn3|exact bn4|exact bn5):Zx P w K mg base C x k ps sp :=
 mMk P w base (Nv l.l l.c l.k) (ok (Nv l.l l.c l.k)) ⟨l.b,l.i,l.k⟩ hb
theorem nM(Z:XG P w base K mg h)(l:LM K C "__init__" q st f oc kV dc pm cd ct od an sl)(m:PySem.W.makesIn K C=true)(kc:PySem.W.keepIn K (.ref C)=true)(c:PySem.W.nsIn K mainGlobals y=some #[c,C])(ok:∀ {fd},#[i,"__init__",q,st]->FnOk P w K mg base #[f] k f fd ps sp)(hb:BnA "__init__" q st ps:=by first|exact bn1|exact bn2|exact bn3|exact bn4|exact bn5):T6 P w K mg base y C k ps sp :=
 nMk P w base (Nv l.l l.c l.k) (ok (Nv l.l l.c l.k)) ⟨m,l.b,l.i,kc⟩ (PySem.W.mg_of Z.X Z.G c) hb
end
section
variable{X:Cx}{elt iter:Expr}{x:Str}{px pos:Pos}{ifs:List Expr}{scope:Scope}{cl:List (Str×Addr)}{ys:List Str}{js:#[B]}
theorem Fn{pins:#[C]}{σ:St}{H:Hp}{s:Shared}{tt:TT}{te:TE}{it:Addr}{fp:#[x]}{tn:Nat->Heap->Prop}{J:It}{W:Nat->Nat->#[a]->Hp->Prop}{m0:Nat}{Q:VK}{E:Value->Shared->Prop}{RR:Value->Addr->Result->Shared->Prop}
  (hcm:X.calm=true) (c:zdi X x scope cl ys js) (ht:∀ pn s₀ H₀ fp C,PTs (Y8 X pn (x :: ys) scope cl s₀ H₀ fp C) ifs tt) (hgt:∀ pn s₀ H₀ fp C,PG (Y8 X pn (x :: ys) scope cl s₀ H₀ fp C) (.Name x px) (Vp 0)) (he:∀ pn s₀ H₀ fp C,PE (Y8 X pn (x :: ys) scope cl s₀ H₀ fp C) elt te)
  (I:#[l]) (T:Au X.prog X.w X.K (.Name x px) J fp it tn) (st0:tn 0 s.heap) (hf:∀ b∈fp,FpOk X pins H b) (w0:W 0 m0 [] H)
  (turn:∀ i m ys H,W i m ys H->(J.stop i H/\ys.length<=sizeLine/\∀ p,H p=none->Q (.ref p) (upd H p (.lst ys))) \/
   (J.go i H/\ys.length<sizeLine/\∃ N:#[a]->Hp->Prop,(∀ ys' H',N ys' H'->∃ m',m' < m/\W (i+1) m' ys' H')/\∀ x H',J.yld i H x H'->tt (cs js σ x) H' fun b H2=>if b=true then te (cs js σ x) H2 fun y H3=>N (ys++[y]) H3 else N ys H2))
  (hRR:∀ D C s' m,s'.heap.Ns C m->(∀ h',Heap.SameBut C s'.heap h'->∃ H',Inv X pins σ H' { s' with heap:=h' }/\Q (.ref D) H')->(∃ H',Inv X pins σ H' s'/\Q (.ref D) H'/\H' C=none)->s.heap.objs.size<=C->RR (.ref D) C (.ok .next) s') :
  wpAny (model X.prog X.w) X.A (newList []) (fun acc s₃=>#[am,newFunctionEnv scope X.env.globals cl [] X.env.qual none .none (some X.env),(fun cenv s₄ =>
   codeAny (model X.prog X.w) X.A (.compStart (.ListComp elt [⟨.Name x px,iter,ifs,0⟩] scope pos) 0 (.ref it) acc { cenv with scope:=relabel scope X.env }) (RR acc cenv.locals) s₄),E,s₃]) E s :=
 Gp (xo:=[x]) (g:=Vp 0) hcm ⟨c.clos,c.kind,c.names,c.nocell,c.at_,c.free,c.only,c.vis⟩ ht hgt he I T st0 hf w0 (fun i m ys H w=>(turn i m ys H w).imp id fun ⟨a,b,N,n1,n2⟩=>⟨a,b,N,n1,fun y H' hy=>⟨#[q,[some y],rfl],n2 y H' hy⟩⟩) hRR
variable{wi:TI}{tt:TT}{te:TE}
theorem Vb(hcm:X.calm=true)(c:zdi X x scope cl ys js)(hi:PI X (.Name x px) iter wi)(ht:∀ pn s₀ H₀ fp C,PTs (Y8 X pn (x :: ys) scope cl s₀ H₀ fp C) ifs tt)(he:∀ pn s₀ H₀ fp C,PE (Y8 X pn (x :: ys) scope cl s₀ H₀ fp C) elt te)
  (hx:∀ C,(compEnvC scope cl C X.env).scope.names.lookup x=some .local:=by intro _;rfl) (hs:∀ x,foldedSetIterable iter X.env x=pure x:=by intro _;rfl):PE X (.ListComp elt [⟨.Name x px,iter,ifs,0⟩] scope pos) (zdh wi js tt te):=by
 intro pins s σ H Q I h;rw[eval_ListComp];refine wpAny_comprehension_free (use:=none) rfl hs c.clos c.kind c.names (thn (hi pins s σ H _ I h) fun v s1 h1=>thn h1 fun itv s2 h2=>?_);obtain⟨it,fp,tn,J,H2,e,I2,T,st2,f2,W,⟨m0,w0⟩,turn⟩:=h2;subst e;exact Fn (RR:=fun acc C=>compPost (model X.prog X.w) X.A X.xe none (EP X pins σ Q) acc C) hcm c ht (fun _ _ _ _ C=>V6 (X:=Y8 X _ (x :: ys) scope cl _ _ _ C) c.nd rfl (.inl (hx C)) ⟨.inr (hx C),W6⟩) he I2 T st2 f2 w0 turn fun D C s' m hn hS _ _=>⟨m,hn,fun h' hs'=>let ⟨H',I',q⟩:=hS h' hs';⟨.ref D,H',I',rfl,q⟩⟩
theorem Td{y:Str}{py spos:Pos}{i:Nat}(hN:X.N.Nodup)(hy:X.N[i]?=some y)(hk:X.env.scope.names.lookup y=some .local)(hcm:X.calm=true)(c:zdi X x scope cl ys js)(hi:PI X (.Name x px) iter wi)(ht:∀ pn s₀ H₀ fp C,PTs (Y8 X pn (x :: ys) scope cl s₀ H₀ fp C) ifs tt)
  (he:∀ pn s₀ H₀ fp C,PE (Y8 X pn (x :: ys) scope cl s₀ H₀ fp C) elt te)
  (hx:∀ C,(compEnvC scope cl C X.env).scope.names.lookup x=some .local:=by intro _;rfl) (hsw:swapsWith (.ListComp elt [⟨.Name x px,iter,ifs,0⟩] scope pos) (some (.Name y py)) spos.line X.env=pure true:=by rfl) (hs:∀ x,foldedSetIterable iter X.env x=pure x:=by intro _;rfl)
  (hf:zby X i y:=by first|exact⟨.inr rfl,W6⟩|assumption|exact⟨.inr rfl,by assumption⟩) :
  PS X (.Assign [.Name y py] (.ListComp elt [⟨.Name x px,iter,ifs,0⟩] scope pos) spos) (zeg (zdh wi js tt te) (Vp i)):=by
 intro pins s σ H D0 I h;rw[exec_Assign_Name_used _ _ _ _ hsw];refine wpAny_bind (wpAny_standAt (wpAny_bind ?_));show wpAny _ X.A (do let _ <- comprehension (.ListComp elt [⟨.Name x px,iter,ifs,0⟩] scope pos) scope X.env _ (newList []) false #[G,iter] (some (assign (.Name y py) X.env))) _ _ s;refine wpAny_bind (wpAny_mono (wpAny_comprehension_free (use:=some (assign (.Name y py) X.env)) (Q:=fun _ s'=>SP X pins D0 .next s') rfl hs c.clos c.kind c.names
  (thn (hi pins s σ H _ I h) fun v s1 h1=>thn h1 fun itv s2 h2=>?_)) (fun _ s' hq=>wpAny_pure (wpAny_pure hq)) fun _ _ e=>e)
 obtain⟨it,fp,tn,J,H2,e,I2,T,st2,f2,W,⟨m0,w0⟩,turn⟩:=h2;subst e;refine Fn (Q:=fun x H1=>D0.nx (σ.set i (some x)) H1) (RR:=fun acc C=>compPost (model X.prog X.w) X.A X.xe (some (assign (.Name y py) X.env)) (fun _ s'=>SP X pins D0 .next s') acc C) hcm c ht (fun _ _ _ _ C=>V6 (X:=Y8 X _ (x :: ys) scope cl _ _ _ C) c.nd rfl (.inl (hx C)) ⟨.inr (hx C),W6⟩) he I2 T st2 f2 w0 turn fun D C s' m hn _ hS hC=>?_;obtain⟨H',I',q,fC⟩:=hS;show wpAny _ X.A (assign (.Name y py) X.env (.ref D)) _ _ _;have ltC:∀ b o,s2.heap.get? b=#[d]->b≠C:=fun b o e=>zxh (zxf (Heap.lt_size e) hC);have neL:C≠X.env.locals:=by
  obtain⟨_,⟨o,_,_,ho,_⟩,_⟩:=I2.loc;exact Ne.symm (ltC _ o ho)
 have neK:∀ z a,#[ah,z]=some a->a≠C:=fun z a e=>by
  obtain⟨_,o,ho,_⟩:=I2.cell z a e;exact ltC a o ho
 refine wpAny_assign_Name (D2 I' hN hy (.inl hk) (v:=.ref D) (show RelV (.ref D) (.ref D) from rfl) (fun s4 I4 ⟨a,hs4,ha⟩=>?_) hf);have naC:C≠a:=by
  rcases ha with ha|ha
  ·rw[ha];exact neL
  ·exact Ne.symm (neK _ _ ha)
 refine⟨m,hn.sameBut hs4 naC,fun h5 hs5=>⟨_,H',?_,q⟩⟩;refine I4.turned (t':=s4.toks) (it:=C) (fun b o hb e=>hs5.extBut b o hb e) fC neL (.inr (zw4 I2.sz hC)) neK fun p hp=>?_;obtain⟨e,_⟩:=I2.pin p hp;exact ltC _ _ e
end
end L2
namespace G
open PySem PySem.Spec PyProof.Rows L2
def Fo:Wq->Str
 | .enrol _ _ _=>"enrol"
 | .away _ _=>"away"
 | .draw _=>"draw up"
 | .close=>"close"
 | .back=>"take back"
theorem W0.word(h:W0 ok H t D):∃ r,H t=#[J,.str (Fo D) :: r]:=by
 cases D with
 | enrol a b c=>exact⟨_,h⟩
 | away a b=>exact⟨_,h⟩
 | draw ms=>obtain⟨l,ts,a1,_⟩:=h;exact⟨_,a1⟩
 | close=>exact⟨_,h⟩
 | back=>exact⟨_,h⟩
theorem C6:#[g,V.str (Fo D)=V.str "draw up"]=match D with|.draw _=>true|_=>false:=by
 cases D with
 | draw ms=>exact zcq
 | enrol a b c=>exact R9 (show #[g,("enrol":Str)="draw up"]=false by decide +kernel)
 | away a b=>exact R9 (show #[g,("away":Str)="draw up"]=false by decide +kernel)
 | close=>exact R9 (show #[g,("close":Str)="draw up"]=false by decide +kernel)
 | back=>exact R9 (show #[g,("take back":Str)="draw up"]=false by decide +kernel)
theorem O6:#[g,V.str (Fo D)=V.str "away"]=match D with|.away _ _=>true|_=>false:=by
 cases D with
 | away a b=>exact zcq
 | enrol a b c=>exact R9 (show #[g,("enrol":Str)="away"]=false by decide +kernel)
 | draw ms=>exact R9 (show #[g,("draw up":Str)="away"]=false by decide +kernel)
 | close=>exact R9 (show #[g,("close":Str)="away"]=false by decide +kernel)
 | back=>exact R9 (show #[g,("take back":Str)="away"]=false by decide +kernel)
theorem zfx(af:R8 H' S (.draw ms) S' v)(hc:S'.cur=some s):∃ l,v=.ref l/\H' l=#[r,s.gv]:=by
 cases af with
 | draw hl F T =>
   have hc:some (⟨ms,mayS S ms,_,[]⟩:Z4)=some s:=hc;cases hc;exact#[q,_,hl]
inductive Jt(K:Frag)(vs:#[a])(H:Hp)(Q:VK)(_:XK):Prop where
 | mk(ok:Addr->Prop)(d lg t lt:Addr)(P:Pg)(gs us:#[a])(i n:Int)(_:vs=[.ref d,.ref lg,.ref t,.ref lt])(_:PgAt ok H d P)(_:Mc P)(_:P.ppl.length<=100)(_:(∀ ms,P.lis=some ms->ms.length<=100))(_:#[y,H,lg,gs])(_:(P.lis≠none->(∀ x∈gs,oneV x)/\gs.length<=100))(_:#[N,H,t,[.str "away",.int i,.int n]])(_:#[y,H,lt,us])(_:((P.lis=none\/i≠(P.over.length:Int)+1\/Wh gs n=none)/\us=[]\/∃ ms nu p e st w,P.lis=some ms/\i=(P.over.length:Int)+1/\Wh gs n=some p/\Uv (Sy P ms) nu/\Ye (Sy P ms) (gs.set p .non)/\p<(Sy P ms).length/\Z7 H us (st.map Wz)/\Y4 (Sy P ms) (gs.set p .non) p st e w))(_:∀ H',Same H H'->Q (.bl true) H')
theorem zfy{rows:#[A]}{gs:#[a]}{p e:Nat}{st:#[E]}{w:#[D]}(C:Y4 rows (gs.set p .non) p st e w):Yj st (gs.set p .non)=Yj st gs/\st≠[]:=by
 obtain⟨x,r,rfl⟩:=C.ch.hd;refine⟨?_,by simp⟩;unfold Yj;rw[List.set_set]
theorem RelB.setGv(h:RelB mb P S)(gv:#[a]):RelB mb { P with gv:=gv } S:=⟨h.len,h.rest,h.ppl,h.out,h.over,h.lis⟩
theorem E4.setGoes(h:#[ak,E4,H,P])(hl:#[y,H,l,xs])(ol:ok l):∃ kvs,H d=#[b,.dK,kvs]/\kvs.length<sizeLine/\#[ak,E4,upd H d (.dK (putK kvs (.inr "goes") (.ref l))),{ P with gv:=xs }]:=by
 obtain⟨kvs,a1,a2,a3⟩:=h.pg.setGoes hl ol;refine⟨kvs,a1,a2,a3,h.rb.setGv xs,h.so,?_⟩;obtain⟨nd,e|⟨S0,b,r⟩⟩:=h.tl
 ·exact⟨nd,.inl e⟩
 ·exact⟨nd,.inr ⟨S0,b.other a1 nd,r⟩⟩
def stD(s:Nat×Option Int):Dt:=.tup [.int (s.1:Nat),match s.2 with|none=>.non|some n=>.int n]
theorem zbl{K:Frag}{H:Hp}:∀ {us:List V} {st:List (Nat×Option Int)},Z7 H us (st.map Wz)->T5 K H us (st.map stD)
 | _,[],h=>by cases h;exact .nil
 | _,(p,w) :: st,h=>by
   cases h with
   | cons h1 h2 =>
     refine .cons (.tup (SqT.of h1) (.cons (.int _) (.cons ?_ .nil))) (zbl h2);cases w with
     | none=>exact .non
     | some n=>exact .int n
theorem zh6(st:#[E]):shD (.lst (st.map stD)):=by
 have h:PyData.canLayAll0 (Xq (st.map stD))=true/\PyData.depthAll (Xq (st.map stD))<=2:=by
  induction st with
  | nil=>exact⟨rfl,by decide⟩
  | cons s r ih =>
    obtain⟨h1,h2⟩:=ih;obtain⟨p,w⟩:=s;refine⟨?_,?_⟩
    ·rw[zw2,Xq,PyData.canLayAll0,h1];cases w<;>simp[stD,toPy,Xq,PyData.canLay0,PyData.canLayAll0]
    ·rw[zw2,Xq,PyData.depthAll];have:PyData.depth (toPy (stD (p,w)))<=2:=by cases w<;>simp[stD,toPy,Xq,PyData.depth,PyData.depthAll]
     omega
 unfold shD SeqAt.shaped;rw[toPy,PyData.canLay0,h.1,Bool.true_and];refine zwu ?_;rw[PyData.depth];have:=h.2;omega
theorem Hl(h:¬ ∃ i n,D=.away i n):#[g,V.str (Fo D)=V.str "away"]=false:=by
 rw[O6];cases D with
 | away i n=>exact absurd #[L,_,_] h
 | enrol _ _ _=>rfl
 | draw _=>rfl
 | close=>rfl
 | back=>rfl
theorem zh7(h:¬ ∃ m0,D=.draw m0):#[g,V.str (Fo D)=V.str "draw up"]=false:=by
 rw[C6];cases D with
 | draw m0=>exact absurd #[w,_] h
 | enrol _ _ _=>rfl
 | away _ _=>rfl
 | close=>rfl
 | back=>rfl
inductive RwL(H:Hp):#[x]->#[Z]->Prop where
 | nil:RwL H [] []
 | cons {l:Addr} {ls:#[x]} {ts:#[a]} {rs:List Row} {Rs:#[Z]} (h:#[y,H,l,ts]) (t:Z7 H ts (rs.map row4)) (n:RwL H ls Rs):RwL H (l :: ls) (rs :: Rs)
theorem RwL.same(e:#[j]):∀ {ls:List Addr} {Rs:List (List Row)},RwL H ls Rs->RwL H' ls Rs
 | _,_,.nil=>.nil
 | _,_,.cons h t n=>.cons (e _ _ h) (t.same e) (RwL.same e n)
theorem RwL.length:∀ {ls:List Addr} {Rs:List (List Row)},RwL H ls Rs->ls.length=Rs.length
 | _,_,.nil=>rfl
 | _,_,.cons _ _ n=>by simp[RwL.length n]
theorem RwL.snoc(h:#[y,H,l,ts])(t:Z7 H ts (rs.map row4)):∀ {ls:List Addr} {Rs:List (List Row)},RwL H ls Rs->RwL H (ls++[l]) (Rs++[rs])
 | _,_,.nil=>.cons h t .nil
 | _,_,.cons h' t' n=>.cons h' t' (RwL.snoc h t n)
theorem RwL.getR:∀ {ls:List Addr} {Rs:List (List Row)} {i:Nat} {rs:List Row},RwL H ls Rs->Rs[i]?=some rs->∃ l ts,ls[i]?=some l/\H l=#[r,ts]/\Z7 H ts (rs.map row4)
 | _,_,_,_,.nil,e=>by simp at e
 | _,_,0,_,.cons h t n,e=>by simp at e;subst e;exact⟨_,_,rfl,h,t⟩
 | _,_,i+1,rs,.cons h t n,e=>by
   obtain⟨l,ts,h1,h2⟩:=RwL.getR (i:=i) (rs:=rs) n (by simpa using e);exact⟨l,ts,by simpa using h1,h2⟩
inductive Kt(ca:CA)(vs:#[a])(H:Hp)(Q:VK)(_:XK):Prop where
 | mk(A:SAd)(S:Sea)(_:vs=[.ref A.p])(_:#[O])(_:S.led.length<=900)(_:∀ l ls H',H' l=#[I,ls.map,V.ref]->RwL H' ls S.led->#[j]->H l=none->(∀ x∈ls,H x=none)->#[S,l])
inductive Mf(K:Frag)(vs:#[a])(H:Hp)(Q:VK)(_:XK):Prop where
 | mk(ok:Addr->Prop)(l d:Addr)(ls:#[x])(P:Pg)(_:vs=[.ref l,.ref d])(_:#[ap,l])(_:PgAt ok H d P)(_:Mc P)(_:RwL H ls (P.over.map Z9))(_:∀ H',Same H H'->Q (.bl true) H')
inductive zbm(vs:#[a])(H:Hp)(Q:VK)(_:XK):Prop where
 | mk(t1 t2:Addr)(d:Tv)(_:vs=[.ref t1,.ref t2])(_:H t1=some (.tup (Vj d)))(_:H t2=some (.tup (Vj d)))(_:Q (.bl true) H)
inductive Qw(K:Frag)(vs:#[a])(H:Hp)(Q:VK)(_:XK):Prop where
 | mk(b c:Addr)(ts us:#[a])(ds:List Tv)(_:vs=[.ref b,.ref c])(_:#[y,H,b,ts])(_:#[y,H,c,us])(_:Z7 H ts (ds.map Vj))(_:Z7 H us (ds.map Vj))(_:ds.length<=1000)(_:Q (.bl true) H)
end G
namespace G
open PySem PySem.Spec PyProof.Rows L2
inductive Ref where
 | out|known|many|unk|manyM|same|noMatch|noRound|over|seaOver|away|drawn|notDrawn|nothing|manyD
 deriving DecidableEq
def Ref.cls(ca:CA):Ref->Addr
 | .out=>ca.out|.known=>ca.known|.many=>ca.many|.unk=>ca.unk|.manyM=>ca.manyM|.same=>ca.same|.noMatch=>ca.noMatch|.noRound=>ca.noRound
 | .over=>ca.over|.seaOver=>ca.seaOver|.away=>ca.away|.drawn=>ca.drawn|.notDrawn=>ca.notDrawn|.nothing=>ca.nothing|.manyD=>ca.manyD
open Classical in
def zcz:Wq->Prop
 | .enrol n g c=>Bu n g c
 | .away i n=>Yq i/\Yq n
 | .draw ms=>(∀ m∈ms,G4 m)/\ms.length<=1000
 | _=>True
end G
namespace G
open PySem PySem.Spec PyProof.Rows L2
structure I21(r i:Nat)(noted:#[o])(S:Sea):Prop where
 len:S.len=r
 led:S.led=[]
 cur:S.cur=none
 old:S.old=[]
 std:∀ x∈S.std,x.2=none
 sl:S.std.length<=i
 ol:S.out.length<=i
 z:(noted=[]/\S.ppl=[]/\S.std=[]/\S.out=[])\/∃ ds,noted=0 :: ds/\S.ppl=[(5,5,5)]/\S.out=ds.map fun i=>(i,5)
 e:i<=10->noted=[]
end G
namespace G
open PySem PySem.Spec PyProof.Rows L2
structure znx(n:Nat)(s:Z4):Prop where
 ms:s.ms.length<=20
 ml:s.may.length=s.ms.length
 fi:Ye s.may s.gv
 st:Vw s.may s.gv
 mo:∃ nu,Uv s.may nu
 gp:s.gaps.length<=n/\∀ x∈s.gaps,x.2.length<=100
theorem Bk.deeds(b:Bk mb ok H nu n ds S):S.std.length+1=ds.length/\∀ j,j<S.std.length->∃ (e:Addr) (P:Pg) (x:Tv),ds[j+1]?=some e/\PgAt ok H e P/\P.deed=some x/\(S.std.map (·.1))[j]?=some x:=by
 induction b with
 | one h r o e=>exact⟨by rw[e];rfl,fun j hj=>by rw[e] at hj;exact absurd hj (zyc _)⟩
 | @snoc ds d P S S' b nd h r o st hd ih =>
   obtain⟨i1,i2⟩:=ih;obtain⟨x,hx,hs⟩:=hd;refine⟨by rw[hs,zwr,zwr,<- i1];rfl,fun j hj=>?_⟩;rw[hs,zwr] at hj;by_cases hlt:j<S.std.length
   ·obtain⟨e,P',x',e1,e2,e3,e4⟩:=i2 j hlt;refine⟨e,P',x',?_,e2,e3,?_⟩
    ·rw[zxm ⋯];exact e1
    ·rw[hs,zwv,zxm (by rw[zwo];exact hlt)];exact e4
   ·have hj':j=S.std.length:=by simp only[zw9,zy4] at hj;omega
    refine⟨d,P,x,?_,h,hx,?_⟩
    ·rw[zxl ⋯,show j+1-ds.length=0 by omega];rfl
    ·rw[hs,zwv,zxl (by rw[zwo];omega),zwo,show j-S.std.length=0 by omega];rfl
theorem zfz(xs:#[a]):Jx xs (some 1) none=xs.drop 1:=by
 unfold Jx;have e:HT.sIx xs.length 0 (some 1)=min 1 xs.length:=HT.sIx_nat _ _ 1;rw[e,HT.sIx_none];cases xs with
 | nil=>rfl
 | cons x xs =>
   rw[show min 1 (x :: xs).length=1 by rw[zw9];omega];exact List.take_of_length_le (by rw[zyt];exact zw1 _)
inductive Of(K:Frag)(ca:CA)(vs:#[a])(H:Hp)(Q:VK)(_:XK):Prop where
 | mk(mb:Bool)(A:SAd)(S:Sea)(d:Addr)(P:Pg)(sh:Z4)(nu:#[o])(n:Nat)(_:vs=[.ref A.p,.ref d])(_:#[O])(_:PgAt (·∉A.fp) H d P)(_:Rel mb P S)(_:SOk nu n S)(_:n<=500)(_:S.cur=some sh)(_:∀ H',Same H H'->Q (.bl true) H')
section
variable{rows:#[A]}{gs0 hs:#[a]}{p:Nat}{n0:Int}
structure znq(rows:#[A])(gs0 hs:#[a])(p:Nat)(i:Nat)(L:#[B])(q:Nat):Prop where
 len:L.length=i+1
 nd:L.Nodup
 mem:q∈L
 walk:Walk rows (gs0.set p .non) p q i
 df:∀ k∈L,k<gs0.length/\gs0[k]?≠hs[k]?
 back:∀ y∈L,y≠p->∃ x∈L,x≠q/\∃ n,hs[x]?=#[e,n]/\(gs0.set p .non)[y]?=#[e,n]
 full:∀ y∈L,gs0[y]?≠some .non
end
open Classical in
noncomputable def eq1(x y:V):Nat:=if x=y then 1 else 0
inductive StK(N:#[o]):#[A]->#[a]->Nat->Nat->Nat->Prop where
 | nil:StK N [] [] 0 0 0
 | skip {rows:#[A]} {r:#[o]} {ah:#[a]} {v:V} {f u k:Nat} (h:StK N rows ah f u k):StK N (rows++[r]) (ah++[v]) (2*f) u (k+eq1 .non v)
 | take {rows:#[A]} {r:#[o]} {ah:#[a]} {v:V} {f u k b:Nat} {n:Int} (h:StK N rows ah f u k) (hb:N[b]?=some n) (hn:n∈r) (hu:u/2 ^ b%2=0):StK N (rows++[r]) (ah++[v]) (2*f+1) (u+2 ^ b) (k+eq1 (.int n) v)
structure znr(N:#[o])(rows:#[A])(ah:#[a])(best kept:Nat):Prop where
 at_:∃ u,StK N rows ah best u kept
 top:∀ f u k,StK N rows ah f u k->f<=best
 most:∀ u k,StK N rows ah best u k->k<=kept
open Classical in
structure zny(R:Nat×Nat->Nat->Prop)(ps:List (Nat×Nat))(g:Nat×Nat->Nat):Prop where
 mem:∀ q,q∈ps↔∃ k,R q k
 at_:∀ q∈ps,R q (g q)
 top:∀ q k,R q k->k<=g q
section
variable{mb:Bool}{ok ok':Addr->Prop}{A A':SAd}{H H':Hp}{nu:#[o]}{n m:Nat}{ds:#[x]}{d:Addr}{P:Pg}{S S':Sea}{D:Wq}
structure znj(ok:Addr->Prop)(H:Hp)(ts:#[a])(Ds:List Wq):Prop where
 len:ts.length=Ds.length
 at_:∀ (i:Nat) x,ts[i]?=some x->∃ t D,x=.ref t/\Ds[i]?=some D/\W0 ok H t D
end
structure PgR(mb:Bool)(ok:Addr->Prop)(H:Hp)(nu:#[o])(n:Nat)(d:Addr)(P:Pg)(S:Sea):Prop where
 pg:PgAt ok H d P
 rb:RelB mb P S
 so:SOk nu n S
open Classical in
def zmv(r o:Int)(dr:Bool)(lp ll:Addr):#[U]:=[(.inr "rounds",.int r),(.inr "over",.int o),(.inr "drawn",.bl dr),(.inr "people",.ref lp),(.inr "log",.ref ll)]
structure znk(H:Hp)(d lp ll:Addr)(S:Sea):Prop where
 dd:H d=#[b,.dK,zmv S.len S.led.length S.cur.isSome lp ll]
 pp:∃ pts,H lp=#[r,pts]/\Z7 H pts (S.ppl.map pV)
 gg:∃ lts,H ll=#[r,lts]/\Z7 H lts (S.std.map fun x=>Vj x.1)
 ne:lp≠ll
structure I22(S:Sea):Prop where
 out:S.out=[]
 std:∀ x∈S.std,x.2=none/\(x.1.1=("enrol":Str)\/x.1.1=("draw up":Str))
 last:∀ std0 x,S.std=std0++[x]->x.1.1=("enrol":Str)->S.cur=none
def dxs:HO->#[x]
 | .ins _ dx _=>[dx]
 | .frz _ u=>dxs u
 | _=>[]
open Classical in
noncomputable def zjo(B:Addr->Prop)(H:Hp):Hp:=fun b=>if B b then none else H b
open Classical in
structure znl(B:Addr->Prop)(H:Hp):Prop where
 th:∀ b,B b->H b≠none
 cl:∀ a o,H a=#[d]->B a->∀ dx∈dxs o,B dx
 own:∀ a b,H b=#[b,.own,a]->B b->B a
 tup:∀ t xs,B t->H t≠#[J,xs]
inductive zjp(nu:#[o])(n:Nat):Sea->Prop where
 | nil {S:Sea} (e:S.std=[]) (o:SOk nu n S):zjp nu n S
 | snoc {S0 S:Sea} (h:zjp nu n S0) (st:Nk S0 S) (o:SOk nu n S):zjp nu n S
structure D22(nu:#[o])(D:Wq):Prop where
 aw:∀ i n,D≠.away i n
 dr:∀ ms,D=.draw ms->ms=[]
 sm:zcz D
 en:∀ k g c,D=.enrol k g c->k∈nu\/badI k g c
def B22(d lp ll ln le:Addr):Addr->Prop:=fun x=>x=d\/x=lp\/x=ll\/x=ln\/x=le
structure znz(ca:CA)(nu:#[o])(d lp ll ln le:Addr)(A:SAd)(S:Sea)(n:Nat)(H:Hp):Prop where
 sea:Z1 ca (zjo (B22 d lp ll ln le) H) A S
 st:znk H d lp ll S
 i:I22 S
 hi:zjp nu n S
 lv:H ln=some (.lst (nu.map V.int))
 lw:∃ ys,H le=#[r,ys]
 nl:lp≠ln/\ll≠ln
 ne:lp≠le/\ll≠le
end G
namespace G
open PySem PySem.Spec PyProof.Rows L2
def DrX(S0 S:Sea):Prop:=∀ d y,S.std=S0.std++[(d,y)]->(d.1=("draw up":Str)/\S0.cur=none)\/(d.1≠("draw up":Str)/\S0.cur.isSome=S.cur.isSome)
inductive zd8(E:Sea->Prop)(nu:#[o])(n:Nat):Sea->Prop where
 | nil {S:Sea} (e:S.std=[]) (o:SOk nu n S) (x:E S):zd8 E nu n S
 | snoc {S0 S:Sea} (h:zd8 E nu n S0) (st:Nk S0 S) (dr:DrX S0 S) (o:SOk nu n S) (x:E S):zd8 E nu n S
def zmw(r o:Int)(dr:Bool)(lp lo ll:Addr):#[U]:=[(.inr "rounds",.int r),(.inr "over",.int o),(.inr "drawn",.bl dr),(.inr "people",.ref lp),(.inr "out",.ref lo),(.inr "log",.ref ll)]
structure znm(H:Hp)(d lp lo ll:Addr)(S:Sea):Prop where
 dd:H d=#[b,.dK,zmw S.len S.led.length S.cur.isSome lp lo ll]
 pp:H lp=some (.lst ((S.ppl.map (·.1)).map V.int))
 oo:∃ ots,H lo=#[r,ots]/\Z7 H ots (S.out.map oiV)
 gg:∃ lts,H ll=#[r,lts]/\Z7 H lts (S.std.map fun x=>Vj x.1)
 n1:lp≠lo
 n2:lp≠ll
 n3:lo≠ll
def B23(d lp lo ll:Addr)(X:Addr->Prop):Addr->Prop:=fun x=>x=d\/x=lp\/x=lo\/x=ll\/X x
structure zn0(ca:CA)(E:Sea->Prop)(nu:#[o])(d lp lo ll:Addr)(X:Addr->Prop)(A:SAd)(S:Sea)(n:Nat)(H:Hp):Prop where
 sea:Z1 ca (zjo (B23 d lp lo ll X) H) A S
 st:znm H d lp lo ll S
 hi:zd8 E nu n S
 xs:∀ x,X x->∃ ys,H x=#[r,ys]
 nx:∀ x,X x->x≠lp/\x≠lo/\x≠ll
structure D23(nu:#[o])(j:Nat)(D:Wq):Prop where
 dr:∀ ms,D=.draw ms->ms=[]
 sm:zcz D
 en:∀ k g c,D=.enrol k g c->nu[j]?=some k/\1<=g/\g<=9/\1<=c/\c<=99
structure E24(S:Sea):Prop where
 ppl:S.ppl=[]
 out:S.out=[]
 st:(S.cur=none/\S.std=[])\/∃ s,S.cur=some s/\S.std=[((("draw up":Str),(s.ms.length:Int),atV S),none)]
 gv:∀ s,S.cur=some s\/s∈S.old->s.gv=List.replicate s.ms.length V.non
inductive zjq(ok:Addr->Prop)(H:Hp):#[a]->List Z4->Prop where
 | nil:zjq ok H [] []
 | cons {l:Addr} {ts:#[a]} {ls:#[a]} {s:Z4} {ss:List Z4} (h:#[y,H,l,ts]) (q:Z7 H ts (s.ms.map pV)) (o:ok l) (r:zjq ok H ls ss):zjq ok H (.ref l :: ls) (s :: ss)
def zmx(r:Int)(lv:Addr)(v:V):#[U]:=[(.inr "rounds",.int r),(.inr "over",.ref lv),(.inr "listed",v)]
structure znn(ok:Addr->Prop)(H:Hp)(d lv:Addr)(v:V)(S:Sea):Prop where
 dd:H d=#[b,.dK,zmx S.len lv v]
 vv:∃ ls,H lv=#[r,ls]/\zjq ok H ls S.old
 li:Ll ok H v (S.cur.map (·.ms))
def B24(d lv lc:Addr):Addr->Prop:=fun x=>x=d\/x=lv\/x=lc
structure zn1(K:Frag)(ca:CA)(d lv lc b:Addr)(cs ns:#[o])(v:V)(A:SAd)(S:Sea)(n:Nat)(H:Hp):Prop where
 sea:Z1 ca (zjo (B24 d lv lc) H) A S
 st:znn (fun x=>x∉A.fp/\¬ B24 d lv lc x) H d lv v S
 e:E24 S
 so:SOk [] n S
 cl:H lc=some (.lst (cs.map V.int))
 sc:Sb K A (zjo (B24 d lv lc) H) b (ns.map V.int)
section
variable{S S' S1:Sea}{D:Wq}{Ds Es:List Wq}{v:V}{H H':Hp}{nu:#[o]}{n:Nat}
structure zn2(S S':Sea):Prop where
 len:S'.len=S.len
 led:S'.led=S.led
 ppl:S'.ppl=S.ppl
end
structure D25(nu:#[o])(D:Wq):Prop where
 sm:zcz D
 dr:∀ ms,D=.draw ms->ms.length<=100
 en:∀ n g c,D=.enrol n g c->1<=n/\1<=g/\1<=c/\c<=99/\(¬ badI n g c->n∈nu)
structure zns(S S1:Sea)(es:List P3)(k:Nat)(ps:List (Int×Int)):Prop where
 std:∃ std0 w1 w2,S1.std.map (·.1)=std0++[w1]++[w2]/\std0.length=98/\w1.1≠("enrol":Str)/\w2.1≠("enrol":Str)
 led:S1.led=S.led
 len:S1.len=S.len
 ppl:S1.ppl=es
 out:∀ p∈S1.out,p∈ps.take (k+1)
structure Sm(S:Sea):Prop where
 std:∀ x∈S.std,Yq x.1.2.1/\Yq x.1.2.2
 led:S.led.length<=S.len
 len:S.len<=60
end G
namespace G
open PySem PySem.Spec PyProof.Rows L2
section
variable{K:Frag}{σ:L2.St}{H:Hp}{t:Addr}{w w':Str}{rw:#[a]}{A y:TS}{D:Pp}
theorem Mg(hs:σ[1]?=some #[c,t])(ht:#[N,H,t,(.str w :: rw)])(hw:#[g,w=w']=false)(h:y D σ H):Zw (L8 (D4 (tOp rEq (tOp (zeq K) (tVar 1) (tC (V.int 0))) (tC (V.str w')))) A Ho) y D σ H :=
 Yk (Y9 (b:=false) (fun Q q=>⟨_,hs,t,_,_,_,rfl,rfl,SqT.of ht,Zz (j:=0) rfl,rfl,_,by rw[R9 hw],q⟩) (iteF (Zu h)))
end
end G
namespace L2
open PySem PySem.Spec PyProof.Rows G
inductive LNe(K:Frag)(x:Str)(st:Stmt):Prop where
 | mk {f:Addr} {oc kV dc pm cd ct:Value} {od an:Option Addr} {sl:Array (Option Value)} (b:NsB K x f) (l:LkF K f x x st oc kV dc pm cd ct od an sl) (c:PySem.W.codeIn K cd x=true) (k:PySem.W.keepIn K (.ref f)=true)
inductive LMe(K:Frag)(C:Addr)(x q:Str)(st:Stmt):Prop where
 | mk {f:Addr} {oc kV dc pm cd ct:Value} {od an:Option Addr} {sl:Array (Option Value)} (b:FdB K C x f) (l:LkF K f x q st oc kV dc pm cd ct od an sl) (c:PySem.W.codeIn K cd q=true) (k:PySem.W.keepIn K (.ref f)=true) (i:PySem.W.isFn K (.ref f)=true)
structure zh8(K:Frag)(C:Addr):Prop where
 pg:PySem.W.plainGet K C Str.empty=true
 hd:PySem.W.hasDictIn K C=true
 po:PySem.W.plainOver K C=true
 sa:PySem.W.findIn K (.ref C) "__setattr__"=some #[b,.builtin,"object.__setattr__"]
 mk_:PySem.W.makesIn K C=true
 kc:PySem.W.keepIn K (.ref C)=true
structure zn3(K:Frag)(c:CA)(e:Addr)(N:Ref->Prop):Prop where
 ga:∀ r:Ref,N r->PySem.W.findIn K (.ref (r.cls c)) "__getattribute__"=some #[b,.builtin,"BaseException.__getattribute__"]
 gk:∀ r:Ref,N r->PySem.W.findIn K (.ref (r.cls c)) "__getattr__"=some none
 at_:∀ r:Ref,N r->PySem.W.findIn K (.ref (r.cls c)) "__class__"=some #[b,.builtin,"object.__class__"]
 mx:∀ r:Ref,N r->PySem.W.mroIn K (r.cls c) (.type "BaseException")=some true
 mo:∀ r:Ref,N r->PySem.W.mroIn K (r.cls c) (.type "object")=some true
 mB:∀ r:Ref,N r->PySem.W.mroIn K (r.cls c) (.ref e)=some true
 kit:∀ r t:Ref,N r->PySem.W.kitOne K (.ref (r.cls c)) (.ref (t.cls c))=some #[g,r=t]
 kitV:∀ r:Ref,N r->PySem.W.kitOne K (.ref (r.cls c)) (.type "ValueError")=some true
section
variable{P:Program}{w:World}{base h:Heap}{K:Frag}{mg:#[R]}{x y q:Str}{k:Nat}{ps:List Str}{sp:Sp}{C:Addr}{st:Stmt}
theorem dE(Z:XG P w base K mg h)(l:LNe K x st)(ok:∀ {f fd},#[i,x,x,st]->FnOk P w K mg base #[f] k f fd ps sp)(hb:BnA x x st ps:=by first|exact bn1|exact bn2|exact bn3|exact bn4|exact bn5):Z2 P w K mg base x k ps sp:=by
 cases l with
 | mk b l c k=>exact dN Z ⟨b,l,c,k⟩ ok hb
theorem mE(Z:XG P w base K mg h)(l:LMe K C x q st)(ok:∀ {f fd},#[i,x,q,st]->FnOk P w K mg base #[f] k f fd ps sp)(hb:BnA x q st ps:=by first|exact bn1|exact bn2|exact bn3|exact bn4|exact bn5):Zx P w K mg base C x k ps sp:=by
 cases l with
 | mk b l c k i=>exact mM Z ⟨b,l,c,k,i⟩ ok hb
theorem nE(Z:XG P w base K mg h)(l:LMe K C "__init__" q st)(o:zh8 K C)(c:PySem.W.nsIn K mainGlobals y=some #[c,C])(ok:∀ {f fd},#[i,"__init__",q,st]->FnOk P w K mg base #[f] k f fd ps sp)(hb:BnA "__init__" q st ps:=by first|exact bn1|exact bn2|exact bn3|exact bn4|exact bn5):T6 P w K mg base y C k ps sp:=by
 cases l with
 | mk b l c' k i=>exact nM Z ⟨b,l,c',k,i⟩ o.mk_ o.kc c ok hb
end
end L2
namespace G
open PySem PySem.Spec PyProof.Rows L2
@[elab_as_elim] theorem al{H:Hp}{l:Addr}{o:HO}{p:Hp->Prop}(X:Hp)(f:H l=none)(e:X=upd H l o)(h:∀ H',H' l=#[d]->#[j]->p H'):p X:=e▸h _ Ze (Zj f)
section
variable{D:Pp}{σ:L2.St}{ok:Addr->Prop}{Hs H:Hp}{d:Addr}{P P':Pg}
theorem pgw(P':Pg)(hj:σ[j]?=some #[c,d])(h:PgAt ok H d P)(fd:Hs d=none)(s:Same Hs H)
  (f:∀ {lp lo lv:Addr} {dv li:V} {lg lm:Addr} {H':Hp},Vk H H'->PgB ok H' P lp lo lv dv li lg lm->∃ lp' lo' lv' dv' li' lg' lm',putK (pgF P.len P.rest lp lo lv dv li lg lm) (.inr k) x=pgF P'.len P'.rest lp' lo' lv' dv' li' lg' lm'/\PgB ok H' P' lp' lo' lv' dv' li' lg' lm')
  (g:∀ H',PgAt ok H' d P'->Same Hs H'->D.nx σ H'):zju (tVar j) (tC (.str k)) (fun _ H Q=>Q x H) D σ H:=by
 obtain⟨lp,lo,lv,dv,li,lg,lm,a1,B,okd⟩:=h.split;have kk:=Vk.dict a1 (kvs':=putK (pgF P.len P.rest lp lo lv dv li lg lm) (.inr k) x);obtain⟨_,_,_,_,_,_,_,e,B'⟩:=f kk (B.keepL kk);exact⟨_,hj,d,_,rfl,DPut.k (k:=.inr k) a1 zhu,g _ (.join (by rw[Ze,e]) B' okd) (Yb fd s)⟩
variable{K:Frag}{t:Addr}{w w':Str}{rw:#[a]}{A B:TS}
theorem zlk(hs:σ[1]?=some #[c,t])(ht:#[N,H,t,(.str w :: rw)])(hw:#[g,w=w']=false)(h:B D σ H):L8 (D4 (tOp rEq (tOp (zeq K) (tVar 1) (tC (V.int 0))) (tC (V.str w')))) A B D σ H :=
 Y9 (b:=false) (fun Q q=>⟨_,hs,t,_,_,_,rfl,rfl,SqT.of ht,Zz (j:=0) rfl,rfl,_,by rw[R9 hw],q⟩) (iteF h)
theorem zd9(hs:σ[1]?=some #[c,t])(ht:#[N,H,t,(.str w :: rw)])(h:A D σ H):L8 (D4 (tOp rEq (tOp (zeq K) (tVar 1) (tC (V.int 0))) (tC (V.str w)))) A B D σ H :=
 Y9 (b:=true) (fun Q q=>⟨_,hs,t,_,_,_,rfl,rfl,SqT.of ht,Zz (j:=0) rfl,rfl,_,by rw[zcq],q⟩) (iteT h)
end
end G
namespace K42
open PySem PySem.Spec PyProof.Rows L2 G
def top(i:Nat):Stmt:=PySem.Challenge.pw_whistlebook_k42_whole_season.main.body.getD i (.Pass ⟨0,0,0,0⟩)
structure Ad where
 zrs:Addr
 zop:Addr
 zo4:Addr
 zou:Addr
 zoz:Addr
 zoy:Addr
 zp5:Addr
 zo8:Addr
 zo1:Addr
 zpr:Addr
 zpe:Addr
 zo9:Addr
 zq4:Addr
 zp0:Addr
 zol:Addr
 zo5:Addr
 zn7:Addr
 zn9:Addr
 zn8:Addr
 zn4:Addr
abbrev ca(a:Ad):CA:=⟨a.zn4,a.zn8,a.zn9,a.zn7,a.zop,a.zo4,a.zou,a.zoz,a.zoy,a.zp5,a.zo8,a.zo1,a.zpr,a.zpe,a.zo9,a.zq4,a.zp0,a.zol,a.zo5⟩
structure Tx(K:Frag)(mg:#[R])(a:Ad):Prop where
 zos:Cls K a.zn7
 zp7:Wf K a.zn7 "rounds"
 zp4:Wf K a.zn7 "meetings"
 zor:Cls K a.zn9
 zpb:Wf K a.zn9 "entries"
 zof:Cls K a.zn8
 zp9:Wf K a.zn8 "listed"
 zsw:Wf K a.zn8 "lists"
 zqi:Wf K a.zn8 "given"
 zs0:Wf K a.zn8 "gaps"
 zn5:Cls K a.zn4
 zsd:Wf K a.zn4 "length"
 ztr:Wf K a.zn4 "rest"
 zpm:Wf K a.zn4 "roster"
 zpl:Wf K a.zn4 "ledger"
 zq0:Wf K a.zn4 "absent"
 zr4:Wf K a.zn4 "sheets"
 zo2:Wf K a.zn4 "sheet"
 zpa:Wf K a.zn4 "standing"
 zsi:Pq K mg "NoSuchRound" a.zo1
 ztq:Pq K mg "OutOfRange" a.zop
 zsz:Pq K mg "TooManyMatches" a.zoy
 zty:Pq K mg "SameClub" a.zp5
 zte:Pq K mg "KnownReferee" a.zo4
 zsu:Pq K mg "TooManyReferees" a.zou
 zs3:Pq K mg "UnknownReferee" a.zoz
 zti:Pq K mg "NoSuchMatch" a.zo8
 zts:Pq K mg "SeasonOver" a.zpe
 zt2:Pq K mg "DrawnUp" a.zq4
 zs6:Pq K mg "TooManyDeeds" a.zo5
 ztg:Pq K mg "NotDrawn" a.zp0
 ztu:Pq K mg "RoundOver" a.zpr
 ztj:Pq K mg "AwayAlready" a.zo9
 zsf:Pq K mg "NothingToTakeBack" a.zol
 zto:mg "max"=none
 zoa:mg "len"=none
 zrr:mg "tuple"=none
 zo3:mg "list"=none
 zq6:mg "enumerate"=none
 zoq:mg "range"=none
 zsa:mg "sorted"=none
 zt3:mg "zip"=none
 zod:mg "isinstance"=none
 ztv:mg "int"=none
 ztz:mg "bool"=none
 ztt:mg "min"=none
 zt4:mg "str"=none
 zt1:mg "dict"=none
 gc_BookError:mg "BookError"=#[b,.ref,a.zrs]
 gc_OutOfRange:mg "OutOfRange"=#[b,.ref,a.zop]
 gc_KnownReferee:mg "KnownReferee"=#[b,.ref,a.zo4]
 gc_TooManyReferees:mg "TooManyReferees"=#[b,.ref,a.zou]
 gc_UnknownReferee:mg "UnknownReferee"=#[b,.ref,a.zoz]
 gc_TooManyMatches:mg "TooManyMatches"=#[b,.ref,a.zoy]
 gc_SameClub:mg "SameClub"=#[b,.ref,a.zp5]
 gc_NoSuchMatch:mg "NoSuchMatch"=#[b,.ref,a.zo8]
 gc_NoSuchRound:mg "NoSuchRound"=#[b,.ref,a.zo1]
 gc_RoundOver:mg "RoundOver"=#[b,.ref,a.zpr]
 gc_SeasonOver:mg "SeasonOver"=#[b,.ref,a.zpe]
 gc_AwayAlready:mg "AwayAlready"=#[b,.ref,a.zo9]
 gc_DrawnUp:mg "DrawnUp"=#[b,.ref,a.zq4]
 gc_NotDrawn:mg "NotDrawn"=#[b,.ref,a.zp0]
 gc_NothingToTakeBack:mg "NothingToTakeBack"=#[b,.ref,a.zol]
 gc_TooManyDeeds:mg "TooManyDeeds"=#[b,.ref,a.zo5]
 gc_Ledger:mg "Ledger"=#[b,.ref,a.zn7]
 gc_Roster:mg "Roster"=#[b,.ref,a.zn9]
 gc_Sheet:mg "Sheet"=#[b,.ref,a.zn8]
 gc_Season:mg "Season"=#[b,.ref,a.zn4]
 zrf:∃ t,mg "MOST_NUMBER"=some (.int 999 t)
 zqg:∃ t,mg "MOST_GRADE"=some (.int 9 t)
 zp8:∃ t,mg "MOST_CLUB"=some (.int 99 t)
 zpn:∃ t,mg "MOST_REFEREES"=some (.int 30 t)
 zpu:∃ t,mg "MOST_MATCHES"=some (.int 20 t)
 zq8:∃ t,mg "MOST_ROUNDS"=some (.int 60 t)
 zr7:∃ t,mg "MOST_REST"=some (.int 10 t)
 zqk:∃ t,mg "MOST_DEEDS"=some (.int 100 t)
end K42
set_option maxHeartbeats 64000000
namespace K42
open PySem PySem.Spec PyProof.Rows L2 G
local macro_rules | `(tactic| walk_at "rd")=>`(tactic| repeat (first|(refine⟨_,rfl,?_⟩)|(refine⟨_,_,rfl,rfl,?_⟩)|(refine And.intro (show CMul _ _ from Or.inr (And.intro (by decide) (by decide))) ?_)|(refine And.intro (show CMul _ _ from Or.inl (And.intro (by decide) (by decide))) ?_)|(refine And.intro (show CDiv _ _ from(And.intro (by decide) (by decide))) ?_)|(refine And.intro (show CPow _ _ from(And.intro (by decide) (And.intro (by decide) (by decide)))) ?_)|(refine And.intro (show (0:Int)<_ from(by decide)) ?_)))
local macro_rules | `(tactic| walk_at "if")=>`(tactic| dsimp only[Vp,List.set])
local macro_rules | `(tactic| walk_at "ar")=>`(tactic| (intro _ _ _ _ h;first|(cases h;subst_vars;rfl)|repeat (first|(obtain⟨h1,_⟩:=h;subst h1;rfl)|(obtain⟨_,h⟩:=h))))
section
variable{P:Program}{w:World}{K:Frag}{mg:#[R]}{base:Heap}{a:Ad}{f:Addr}{fd:FuncData}
abbrev Qx:Stmt:=top 2
theorem Nm:#[p,["number","club","ledger","rest","rested"],["number","club","ledger","rest"],Qx]:=fnS
theorem E5(F:#[i,"met_lately","met_lately",Qx])(T:#[k])(zoc:Zx P w K mg base a.zn7 "over" 1 ["self"] (Kf a.zn7))(zrz:Zx P w K mg base a.zn7 "met" 1 ["self","number","club"] (zjx a.zn7)):FnOk P w K mg base #[f] 2 f fd ["number","club","ledger","rest"] (zag a.zn7):=by
 refine #[n,Nm];obtain⟨p,lr,ld,Rs,n,c,rest,rfl,LA,h⟩:=h;refine⟨_,(Zb (pS 4 Nm.nd (Zk (D5 rfl) (by rfl) T.zto PyProof.Rows.boot_max (Za (Zt Py (Yp (pv 2) T.zos zoc (hr.mono ⋯) Zn) (pv 3)) (Za Zf Zc))))
 (Zd (Zl (Wa T2 (Xs (pv 2) T.zos zrz (hr.mono ⋯) Zn (Za (pv 0) (Za (pv 1) Zc))) (pv 4) (Zq _))))),?_⟩
 obtain⟨⟨dx,hp⟩,_,_⟩:=id LA;refine⟨_,rfl,p,dx,_,rfl,hp,Jg ⋯ ⋯,p,lr,ld,Rs,rfl,LA,_,rfl,_,_,rfl,rfl,_,_,rfl,?_⟩;refine⟨_,rfl,p,dx,_,rfl,hp,Jg ⋯ ⋯,_,rfl,_,rfl,p,lr,ld,Rs,n,c,rfl,LA,fun H' s'=>#[Y,_,_,_,rfl,h H' s']⟩
abbrev Ku:Stmt:=top 3
theorem Vc:#[p,["referee","match","out","ledger","rest","number","grade","club","home","guest","asked","told"],["referee","match","out","ledger","rest"],Ku]:=fnS
theorem zc0(F:#[i,"reasons","reasons",Ku])(T:#[k])(zqj:Z2 P w K mg base "met_lately" 2 ["number","club","ledger","rest"] (zag a.zn7)):FnOk P w K mg base #[f] 3 f fd ["referee","match","out","ledger","rest"] (Cm K a.zn7):=by
 refine #[n,Vc];obtain⟨t1,t2,p,lr,ld,Rs,n,g,c,h,gu,d,rest,o,rfl,h1,h2,LA,hq⟩:=h;refine⟨_,(Zb (pS 5 Vc.nd (pI (iU K) (pv 0) Zf))
 (Zb (pS 6 Vc.nd (pI (iU K) (pv 0) Zf))
 (Zb (pS 7 Vc.nd (pI (iU K) (pv 0) Zf))
 (Zb (pS 8 Vc.nd (pI (iU K) (pv 1) Zf))
 (Zb (pS 9 Vc.nd (pI (iU K) (pv 1) Zf))
 (Zb (pS 10 Vc.nd (pI (iU K) (pv 1) Zf))
 (Zb (pS 11 Vc.nd (Z6 Zc))
 (Zb (Zy (Yo (pv 2))
  (Zd (Yu (pv 11) Zr))
  Zp)
 (Zb (Zy (Zo T2 (pv 10) (pv 6) (Zq _))
  (Zd (Yu (pv 11) Zr))
  Zp)
 (Zb (Zy (PW.pt (X8 (Zo Xv (pv 7) (pv 8) (Zq _)) (Xu (Zo Xv (pv 7) (pv 9) (Zq _)))))
  (Zd (Yu (pv 11) Zr))
  Zp)
 (Zb (Zy (PW.pt (X8 (Yo (pF zqj hr (Za (pv 5) (Za (pv 8) (Za (pv 3) (Za (pv 4) Zc)))))) (Xu (Yo (pF zqj hr (Za (pv 5) (Za (pv 9) (Za (pv 3) (Za (pv 4) Zc)))))))))
  (Zd (Yu (pv 11) Zr))
  Zp)
 (Zd (Zl (pv 11)))))))))))))),?_⟩
 show let y1:TS:=_;let y2:TS:=Zw _ y1;let y3:TS:=Zw _ y2;let y4:TS:=Zw _ y3;let y5:TS:=Zw _ y4;let y6:TS:=Zw _ y5;let y7:TS:=Zw _ y6;let y8:TS:=Zw _ y7;let y9:TS:=Zw _ y8;let y10:TS:=Zw _ y9;let y11:TS:=Zw _ y10;Zw _ y11 _ _ _;intro y1 y2 y3 y4 y5 y6 y7 y8 y9 y10 y11;refine⟨_,rfl,t1,_,_,_,rfl,rfl,SqT.of h1,show atI [V.int n,V.int g,V.int c] 0=some _ from rfl,_,rfl,t1,_,_,_,rfl,rfl,SqT.of h1,show atI [V.int n,V.int g,V.int c] 1=some _ from rfl,_,rfl,t1,_,_,_,rfl,rfl,SqT.of h1,show atI [V.int n,V.int g,V.int c] 2=some _ from rfl,?_⟩;refine⟨_,rfl,t2,_,_,_,rfl,rfl,SqT.of h2,show atI [V.int h,V.int gu,V.int d] 0=some _ from rfl,_,rfl,t2,_,_,_,rfl,rfl,SqT.of h2,show atI [V.int h,V.int gu,V.int d] 1=some _ from rfl,_,rfl,t2,_,_,_,rfl,rfl,SqT.of h2,show atI [V.int h,V.int gu,V.int d] 2=some _ from rfl,?_⟩;refine#[aq,fun l hl=>?_];refine al (upd _ l _) hl rfl fun H1 TH1 s1=>?_;have q1:H1 l=some (.lst (([]:List Str).map V.str)):=TH1;walk_at "if";have b1:=Ki o "away";have b2:=Ki (decide (g<d)) "grade";have b3:=Ki (#[g,c=h]||#[g,c=gu]) "club";refine S4 (b:=o) (H0:=H) (Qk fun Q q=>⟨_,rfl,_,rfl,q⟩) hl s1 q1 ⋯ rfl fun H2 s2 q2 _=>?_;rw[List.nil_append] at q2;refine S4 (b:=decide (g<d)) (H0:=H) (Qk fun Q q=>⟨_,rfl,_,rfl,_,_,rfl,rfl,_,rfl,q⟩) hl s2 q2 ⋯ rfl fun H3 s3 q3 _=>?_;refine S4 (b:=decide (c=h)||decide (c=gu)) (H0:=H) (Qk (Wc (fun Q q=>⟨_,rfl,_,rfl,rfl,_,rfl,Ry▸q⟩) fun Q q=>⟨_,rfl,_,rfl,rfl,_,rfl,Ry▸q⟩)) hl s3 q3 (by rw[zwr];omega) rfl fun H4 s4 q4 _=>?_;refine S4 (b:=Pk Rs n h rest||Pk Rs n gu rest) (H0:=H) (zah (fun Q q=>⟨_,rfl,_,rfl,_,rfl,_,rfl,p,lr,ld,Rs,n,h,rest,rfl,LA.same s4,fun H5 s5=>#[q,_,q H5 s5]⟩) fun H5 s5 Q q=>⟨_,rfl,_,rfl,_,rfl,_,rfl,p,lr,ld,Rs,n,gu,rest,rfl,LA.same (s4.trans s5),fun H6 s6=>#[q,_,q H6 s6]⟩) hl s4 q4 (by rw[zwr,zwr];omega) rfl fun H5 s5 q5 _=>?_;refine#[q,_,hq l H5 ?_ s5 hl];unfold whyS;rw[q5,zxw,zxw]
abbrev Uc:Stmt:=Z5 (top 23) 0
theorem Mh:#[an,Uc]:=fnS
theorem Mi(F:#[i,"__init__","Ledger.__init__",Uc])(T:#[k]):FnOk P w K mg base #[f] 1 f fd ["self"] (zdo a.zn7):=by
 refine #[n,Mh];obtain⟨p,dx,rfl,hp,h⟩:=h;refine⟨_,(Zb (Xk (K:=K) rfl (pv 0) (Z6 Zc) rfl)
 (Zd (Xk (K:=K) rfl (pv 0) Gd rfl))),?_⟩
 refine#[aq,fun lr hlr=>?_];have np:p≠lr:=Zg hp hlr;refine⟨_,rfl,p,a.zn7,dx,[],rfl,(by rw[Zh np];exact hp),T.zos,T.zp7,⋯,?_⟩;intro ld hld;have n1:ld≠p:=fun z=>by rw[z,Ze] at hld;cases hld
 have n2:ld≠lr:=fun z=>by rw[z,Zh (Ne.symm np),Ze] at hld;cases hld
 have hld0:H ld=none:=by rw[Zh n1,Zh n2] at hld;exact hld
 refine⟨_,rfl,p,a.zn7,dx,[("rounds",.ref lr)],rfl,(by rw[Zh (Ne.symm n1),Ze];rfl),T.zos,T.zp4,(by show 1<1000;decide),?_⟩;rw[zmo];refine h lr ld _ ⟨⟨dx,Ze⟩,⟨[],?_,.nil⟩,⟨[],?_,fun n c=>rfl,zxj _⟩⟩ (fun b o e hb=>?_) hlr hld0 (Ne.symm n2)
 ·rw[Zh (Ne.symm np),Zh (Ne.symm n2),Zh (Ne.symm np),Ze]
 ·rw[Zh n1,Ze]
 ·rw[Zh hb,Zh (Zg e hld0),Zh hb,Zh (Zg e hlr)];exact e
abbrev Sd:Stmt:=Z5 (top 23) 1
theorem X6:#[p,["self","rows","at","home","guest","grade","referee"],["self","rows"],Sd]:=fnS
theorem J2(F:#[i,"write","Ledger.write",Sd])(T:#[k]):FnOk P w K mg base #[f] 1 f fd ["self","rows"] (zav a.zn7):=by
 refine #[n,X6];obtain⟨p,lr,ld,Rs,b,ts,rs,rfl,LA,hb,nb,tl,hl,hl2,h⟩:=h;have hu:=Xy hr;refine⟨_,(Zb (Yu #[ae,Zs,0] (Yx (Gj (K:=K) rfl) (by rfl) T.zrr PyProof.Rows.boot_tuple (Za (pv 1) Zc)))
 (Zb (pS 2 X6.nd (Zk (cL K) (by rfl) T.zoa PySem.boot_len (Za (Zs (K:=K) rfl (pv 0) rfl) Zc)))
 (Zd (Yi PassesOwn.leaving rfl (Z8 (K:=K) rfl (pv 1)) (Wb (K:=K) (n:=4) rfl rfl (Z0 (pN 3 X6.nd) (Z0 (pN 4 X6.nd) (Z0 (pN 5 X6.nd) (Z0 (pN 6 X6.nd) X9)))))
  (Zd (Zy (Zo Vs (pv 6) Yn (Zq _))
   (Zb (Ym hu (Zs (K:=K) rfl (pv 0) rfl) (Yc (Za (pv 6) (Za (pv 3) Zc))) (pv 2) rfl)
   (Zd (Ym hu (Zs (K:=K) rfl (pv 0) rfl) (Yc (Za (pv 6) (Za (pv 4) Zc))) (pv 2) rfl)))
   Zp)))))),?_⟩
 obtain⟨⟨dx,hp⟩,⟨rr,hlr,rl⟩,⟨kvs,hd,mt,kl⟩⟩:=LA;have hlen:ts.length=rs.length:=by rw[tl.length,zwo]
 have nrd:lr≠ld:=Y6 hlr hd (by intro z;cases z);have nrp:p≠lr:=Y6 hp hlr (by intro z;cases z);have npd:p≠ld:=Y6 hp hd (by intro z;cases z);have nbd:b≠ld:=Y6 hb hd (by intro z;cases z);refine⟨_,rfl,p,a.zn7,dx,_,_,rfl,hp,T.zos,T.zp7,Rz,lr,rr,rfl,hlr,_,rfl,b,ts,rfl,#[M,SqL.of hb,fun t ht=>⟨rr,(by rw[Zh (Zg hlr ht)];exact hlr),X4 (by rw[rl.length];omega),?_⟩]⟩;have ntr:t≠lr:=Ne.symm (Zg hlr ht);have k1:∀ x o,H x=#[d]->x≠lr->upd (upd H t (.tup ts)) lr (.lst (rr++[.ref t])) x=#[d]:=fun x o e n=>by rw[Zh n,Zh (Zg e ht)];exact e
 have t1:∀ x xs,H x=#[J,xs]->upd (upd H t (.tup ts)) lr (.lst (rr++[.ref t])) x=#[J,xs]:=fun x xs e=>k1 x _ e (Y6 e hlr (by intro z;cases z));have r1:upd (upd H t (.tup ts)) lr (.lst (rr++[.ref t])) lr=#[b,.lst,rr++[.ref t]]:=Ze;have rl1:Qj (upd (upd H t (.tup ts)) lr (.lst (rr++[.ref t]))) (rr++[.ref t]) (Rs++[rs]):=(rl.mono t1).snoc (by rw[Zh ntr,Ze]) (tl.mono t1);have tl1:=tl.mono t1;generalize upd (upd H t (.tup ts)) lr (.lst (rr++[.ref t]))=H1 at k1 t1 r1 rl1 tl1;have hp1:=k1 _ _ hp nrp;have hb1:=k1 _ _ hb nb;have hd1:=k1 _ _ hd (Ne.symm nrd);refine⟨_,rfl,p,a.zn7,dx,_,_,rfl,hp1,T.zos,T.zp7,Rz,lr,_,rfl,#[t,r1],?_⟩;have hN:(((rr++[V.ref t]).length:Nat):Int)=((Rs.length+1:Nat):Int):=by rw[zwr,rl.length];rfl
 rw[hN];refine⟨_,rfl,b,rfl,⟨_,SqL.of hb1⟩,Xd (K:=K) (a:=b) (xs:=ts) (fun i σ H'=>(∃ v1 v2 v3 v4,σ=[#[c,p],#[c,b],#[e,((Rs.length+1:Nat):Int)],v1,v2,v3,v4])/\(∀ x o,H1 x=#[d]->x≠ld->H' x=#[d]) /\
  ∃ kvs',H' ld=#[b,.dT,kvs']/\zaf kvs' (Kg Rs rs i)/\kvs'.length<=2*(tot Rs+i)) ⟨⟨_,_,_,_,rfl⟩,fun _ _ e _=>e,kvs,hd1,by rw[ze2];exact mt,by omega⟩ (fun i σ H' _ ⟨_,k,_⟩=>SqL.of (k _ _ hb1 nbd)) ?_ ?_⟩
 ·rintro i x σ H' hx ⟨⟨v1,v2,v3,v4,rfl⟩,k2,kvs',hd2,mt2,kl2⟩;obtain⟨tr,r,rfl,hr3,htr⟩:=zk4 tl1 hx;have hi:i<rs.length:=(zwq.mp hr3).1;have htr2:=k2 _ _ htr (Y6 htr hd1 (by intro z;cases z));refine⟨tr,_,rfl,SqT.of htr2,rfl,_,_,rfl,_,_,rfl,_,_,rfl,_,_,rfl,rfl,?_⟩;refine⟨_,rfl,rfl,_,rfl,?_⟩;cases hw:r.w with
  | none =>
    refine iteF ?_;exact⟨⟨_,_,_,_,rfl⟩,k2,kvs',hd2,by rw[ze3 hr3 hw];exact mt2,by omega⟩
  | some w =>
    refine iteT ?_;have hp2:=k2 _ _ hp1 npd;refine⟨_,rfl,_,rfl,p,a.zn7,dx,_,_,rfl,hp2,T.zos,T.zp4,P8,_,rfl,_,rfl,sz2,fun t2 ht2=>⟨ld,_,rfl,DPut.t (k:=[inl w,inl r.h]) (by rw[Zh (Zg hd2 ht2)];exact hd2) Ze ((Nat.lt_trans (zye (show _<=200000 by omega) ⋯) T9)),?_⟩⟩;have k3:∀ x o,H1 x=#[d]->x≠ld->upd (upd H' t2 (.tup [oV (some w),.int r.h])) ld (.dT (putK kvs' [inl w,inl r.h] (.int ((Rs.length+1:Nat):Int)))) x=#[d]:=fun x o e n=>by
     have:=k2 x o e n;rw[Zh n,Zh (Zg this ht2)];exact this
    have hd3:upd (upd H' t2 (.tup [oV (some w),.int r.h])) ld (.dT (putK kvs' [inl w,inl r.h] (.int ((Rs.length+1:Nat):Int)))) ld=#[b,.dT,putK kvs' [inl w,inl r.h] (.int ((Rs.length+1:Nat):Int))]:=Ze;have l3:=Xm kvs' ([inl w,inl r.h]:List Key) (.int ((Rs.length+1:Nat):Int));generalize upd (upd H' t2 (.tup [oV (some w),.int r.h])) ld (.dT (putK kvs' [inl w,inl r.h] (.int ((Rs.length+1:Nat):Int))))=H3 at k3 hd3;have hp3:=k3 _ _ hp1 npd;refine⟨_,rfl,_,rfl,p,a.zn7,dx,_,_,rfl,hp3,T.zos,T.zp4,P8,_,rfl,_,rfl,sz2,fun t4 ht4=>⟨ld,_,rfl,DPut.t (k:=[inl w,inl r.g]) (by rw[Zh (Zg hd3 ht4)];exact hd3) Ze ((Nat.lt_trans (zye (show _<=200000 by omega) ⋯) T9)),?_⟩⟩;refine⟨⟨_,_,_,_,rfl⟩,fun x o e n=>?_,_,Ze,?_,?_⟩
    ·have:=k3 x o e n;rw[Zh n,Zh (Zg this ht4)];exact this
    ·rw[<- ze4 hr3 hw];exact(mt2.put w r.h _ (Nat.succ_pos _)).put w r.g _ (Nat.succ_pos _)
    ·have:=Xm (putK kvs' ([inl w,inl r.h]:List Key) (.int ((Rs.length+1:Nat):Int))) ([inl w,inl r.g]:List Key) (.int ((Rs.length+1:Nat):Int));omega
 ·rintro σ H' ⟨⟨v1,v2,v3,v4,rfl⟩,k2,kvs',hd2,mt2,kl2⟩;rw[hlen] at mt2 kl2;rw[zgz] at mt2;refine h H' ⟨⟨dx,k2 _ _ hp1 npd⟩,⟨_,k2 _ _ r1 nrd,rl1.mono fun x xs e=>k2 _ _ e (Y6 e hd1 (by intro z;cases z))⟩,kvs',hd2,mt2,by rw[zgy];exact kl2⟩ fun x o e n1 n2=>k2 x o (k1 x o e n1) n2
abbrev Rc:Stmt:=Z5 (top 23) 2
theorem Fp:#[an,Rc]:=fnS
theorem Fq(F:#[i,"over","Ledger.over",Rc])(T:#[k]):FnOk P w K mg base #[f] 1 f fd ["self"] (Kf a.zn7):=by
 refine #[n,Fp];obtain⟨p,lr,ld,Rs,rfl,LA,h⟩:=h;refine⟨_,Zd (Zl #[ag,Zk,cL K,T.zoa,Za (Zs (K:=K) rfl (pv 0) rfl) Zc]),?_⟩;obtain⟨⟨dx,hp⟩,⟨rr,hlr,rl⟩,_⟩:=LA;refine⟨_,rfl,p,a.zn7,dx,_,_,rfl,hp,T.zos,T.zp7,Rz,lr,_,rfl,#[t,hlr],?_⟩;rw[rl.length];exact h
abbrev Se:Stmt:=Z5 (top 23) 3
theorem J3:#[p,["self","at"],["self","at"],Se]:=fnS
theorem J4(F:#[i,"facts","Ledger.facts",Se])(T:#[k]):FnOk P w K mg base #[f] 1 f fd ["self","at"] (zdp a.zn7 a.zo1):=by
 refine #[n,J3];obtain⟨p,lr,ld,Rs,i,rfl,LA,si,h1,h2⟩:=h;refine⟨_,(Zb (Zy (PW.pt (X8 (Zo Hq (pv 1) Zf (Zq _)) (Xu (Zo T2 (pv 1) #[ag,Zk,cL K,T.zoa,Za (Zs (K:=K) rfl (pv 0) rfl) Zc] (Zq _)))))
  (Zd (Xo Xn rfl T.zsi rfl (Za (Vi (Z3 (Xz ⋯) (Z3 (W7 (pv 1)) (Z3 (Xz ⋯) Vh))) ⋯) Zc)))
  Zp)
 (Zd (Zl (Yx (Y0 (K:=K) rfl) (by rfl) T.zo3 PyProof.Rows.boot_list (Za (pI (iL K) (Zs (K:=K) rfl (pv 0) rfl) (Zt Py (pv 1) Zf)) Zc))))),?_⟩
 obtain⟨⟨dx,hp⟩,⟨rr,hlr,rl⟩,_⟩:=LA;refine⟨_,rfl,_,_,rfl,rfl,_,rfl,?_⟩;refine itD (fun hc=>?_) fun hc=>?_
 ·refine iteT ?_;exact#[ax,_,_,si,h1 (.inl hc)]
 refine⟨_,rfl,_,rfl,p,a.zn7,dx,_,_,rfl,hp,T.zos,T.zp7,Rz,lr,_,rfl,#[t,hlr],_,_,rfl,rfl,_,rfl,?_⟩;rw[rl.length];refine itD (fun hc2=>?_) fun hc2=>?_
 ·exact#[ax,_,_,si,h1 (.inr hc2)]
 obtain⟨k,rfl⟩:∃ k:Nat,i=(k:Int)+1:=⟨(i-1).toNat,by omega⟩;have hk:k<Rs.length:=by omega
 obtain⟨t,xs,e1,e2,e3⟩:=rl.getR (zwp hk);refine⟨_,rfl,p,a.zn7,dx,_,_,rfl,hp,T.zos,T.zp7,Rz,_,rfl,_,_,rfl,rfl,lr,_,_,_,rfl,rfl,SqL.of hlr,(show atI rr ((k:Int)+1-1)=some (.ref t) by rw[show (k:Int)+1-1=(k:Int) by omega];exact Zz e1),t,xs,rfl,.inr (SqT.of e2),fun l hl=>h2 k _ rfl (zwp hk) l xs hl e3⟩
abbrev Qy:Stmt:=Z5 (top 23) 4
theorem E6:#[p,["self","number","club"],["self","number","club"],Qy]:=fnS
theorem E7(F:#[i,"met","Ledger.met",Qy])(T:#[k]):FnOk P w K mg base #[f] 1 f fd ["self","number","club"] (zjx a.zn7):=by
 refine #[n,E6];obtain⟨p,lr,ld,Rs,n,c,rfl,LA,h⟩:=h;have hu:=Xy hr;refine⟨_,Zd (Zl (zgm hu #[ae,Zs,0] (Yc (Za (pv 1) (Za (pv 2) Zc))) Zf ⟨rfl,rfl,rfl,rfl⟩)),?_⟩;obtain⟨⟨dx,hp⟩,_,⟨kvs,hd,mt,kl⟩⟩:=LA;refine⟨_,rfl,p,a.zn7,dx,_,_,rfl,hp,T.zos,T.zp4,P8,ld,rfl,.inr ⟨kvs,.inl hd⟩,_,rfl,_,rfl,sz2,fun t ht=>⟨_,DGet.t (k:=[inl n,inl c]) (by rw[Zh (Zg hd ht)];exact hd) Ze,?_⟩⟩;have e:((valV kvs ([inl n,inl c]:List Key)).getD (.int 0))=.int (metS Rs n c:Nat):=by
  rw[mt n c];split
  ·rename_i z;rw[z];rfl
  ·rfl
 rw[e];exact h _ (Zj ht)
abbrev Rf:Stmt:=top 25
theorem Fs:#[p,["value","least","most"],["value","least","most"],Rf]:=fnS
theorem Ft(F:#[i,"check_range","check_range",Rf])(T:#[k]):FnOk P w K mg base #[f] 1 f fd ["value","least","most"] (Li a.zop):=by
 refine #[n,Fs];obtain⟨v,lo,m,rfl,s1,s2,s3,h⟩:=h;refine⟨_,(Zd (Zy (PW.pt (X8 (Zo Hq (pv 0) (pv 1) (Zq _)) (Xu (Zo T2 (pv 0) (pv 2) (Zq _)))))
  (Zd (Xo Xn rfl T.ztq rfl (Za (Vi (Z3 (W7 (pv 0)) (Z3 (Xz ⋯) (Z3 (W7 (pv 1)) (Z3 (Xz ⋯) (Z3 (W7 (pv 2)) Vh))))) ⋯) Zc)))
  Zp)),?_⟩
 walk_at "rd";refine itD (fun h1=>?_) fun h1=>?_
 ·rw[if_pos (Or.inl h1)] at h;refine iteT ?_;walk_at "rd";refine⟨.inl ⟨_,rfl,s1⟩,_,rfl,.inl ⟨_,rfl,s2⟩,_,rfl,.inl ⟨_,rfl,s3⟩,fun z=>⟨sz1,h⟩⟩
 ·walk_at "rd";refine itD (fun h2=>?_) fun h2=>?_
  ·rw[if_pos (Or.inr h2)] at h;walk_at "rd";refine⟨.inl ⟨_,rfl,s1⟩,_,rfl,.inl ⟨_,rfl,s2⟩,_,rfl,.inl ⟨_,rfl,s3⟩,fun z=>⟨sz1,h⟩⟩
  ·rw[#[h,fun z=>z.elim h1 h2]] at h;exact h
abbrev Rg:Stmt:=top 35
theorem Og:#[p,["matches","count"],["matches"],Rg]:=fnS
theorem Fu(F:#[i,"check_count","check_count",Rg])(T:#[k]):FnOk P w K mg base #[f] 1 f fd ["matches"] (za2 K (ca a)):=by
 refine #[n,Og];obtain⟨b,ts,rfl,hs,hl,h1,h2⟩:=h;refine⟨_,(Zb (pS 1 Og.nd #[ag,Zk,cL K,T.zoa,Za (pv 0) Zc])
 (Zd (Zy (Zo T2 (pv 1) (W4 rfl T.zpu) (Zq _))
  (Zd (Xo Xn rfl T.zsz rfl (Za (Vi (Z3 (W7 (pv 1)) (Z3 (Xz ⋯) (Z3 (W7 (W4 rfl T.zpu)) Vh))) ⋯) Zc)))
  Zp))),?_⟩
 refine#[Y,_,b,_,.inl hs,?_];walk_at "rd";refine itD (fun hc=>?_) fun hc=>?_
 ·walk_at "rd";exact⟨.inl ⟨_,rfl,Yv ⋯ ⋯⟩,.inl ⟨_,rfl,Yl ⋯⟩,fun z=>⟨sz1,h1 ⋯⟩⟩
 ·exact h2 ⋯
abbrev Sf:Stmt:=top 36
theorem Vt:#[p,["matches","home","guest","grade"],["matches"],Sf]:=fnS
theorem J5(F:#[i,"check_ranges","check_ranges",Sf])(T:#[k])(zog:Z2 P w K mg base "check_range" 1 ["value","least","most"] (Li a.zop)):FnOk P w K mg base #[f] 2 f fd ["matches"] (C3 K (ca a)):=by
 refine #[n,Vt];obtain⟨b,ts,Ms,rfl,hs,tl,sm,h1,h2⟩:=h;refine⟨_,(Zd (Yi PassesOwn.leaving rfl (Z8 (K:=K) rfl (pv 0)) (Wb (K:=K) (n:=3) rfl rfl (Z0 (pN 1 Vt.nd) (Z0 (pN 2 Vt.nd) (Z0 (pN 3 Vt.nd) X9))))
  (Zb (Ya (pF zog hr (Za (pv 1) (Za Zf (Za (W4 rfl T.zp8) Zc)))))
  (Zb (Ya (pF zog hr (Za (pv 2) (Za Zf (Za (W4 rfl T.zp8) Zc)))))
  (Zd (Ya (pF zog hr (Za (pv 3) (Za Zf (Za (W4 rfl T.zqg) Zc)))))))))),?_⟩
 have hlen:ts.length=Ms.length:=by rw[tl.length,zwo]
 let jv1:Nat->L2.St->Hp->Prop:=fun i σ H'=>H'=H/\(∃ v1 v2 v3,σ=[some (.ref b),v1,v2,v3])/\∀ m∈Ms.take i,¬ badM m
 refine⟨_,rfl,b,rfl,⟨_,hs⟩,Xd (K:=K) (a:=b) (xs:=ts) jv1 ⟨rfl,⟨_,_,_,rfl⟩,by simp⟩ (fun i σ H' _ ⟨e,_⟩=>e▸hs) ?_ ?_⟩
 ·rintro i x σ H' hx ⟨rfl,⟨v1,v2,v3,rfl⟩,hi⟩;obtain⟨t,m,rfl,hm,ht⟩:=Jz tl hx;have hmem:=zww hm;obtain⟨s1,s2,s3⟩:=sm m hmem;have bad:badM m->E (.ref a.zop) none H':=fun hb=>h1 ⟨m,hmem,hb⟩;refine⟨t,_,rfl,SqT.of ht,rfl,_,_,rfl,_,_,rfl,_,_,rfl,rfl,?_⟩;refine⟨_,rfl,_,1,99,rfl,s1,Yl ⋯,Yl ⋯,?_⟩;refine Bj (fun b1=>bad (by unfold badM;omega)) fun b1=>?_;refine⟨_,rfl,_,1,99,rfl,s2,Yl ⋯,Yl ⋯,?_⟩;refine Bj (fun b2=>bad (by unfold badM;omega)) fun b2=>?_;refine⟨_,rfl,_,1,9,rfl,s3,Yl ⋯,Yl ⋯,?_⟩;refine Bj (fun b3=>bad (by unfold badM;omega)) fun b3=>?_;exact⟨rfl,⟨_,_,_,rfl⟩,C2 hm hi (by unfold badM;omega)⟩
 ·rintro σ H' ⟨rfl,⟨v1,v2,v3,rfl⟩,hi⟩;rw[hlen,zw6] at hi;exact h2 fun ⟨m,hm,hb⟩=>hi m hm hb
abbrev Rh:Stmt:=top 37
theorem Ud:#[p,["matches","home","guest","grade"],["matches"],Rh]:=fnS
theorem Fv(F:#[i,"check_clubs","check_clubs",Rh])(T:#[k]):FnOk P w K mg base #[f] 1 f fd ["matches"] (za3 K (ca a)):=by
 refine #[n,Ud];obtain⟨b,ts,Ms,rfl,hs,tl,sm,h1,h2⟩:=h;refine⟨_,(Zd (Yi PassesOwn.leaving rfl (Z8 (K:=K) rfl (pv 0)) (Wb (K:=K) (n:=3) rfl rfl (Z0 (pN 1 Ud.nd) (Z0 (pN 2 Ud.nd) (Z0 (pN 3 Ud.nd) X9))))
  (Zd (Zy (Zo Xv (pv 1) (pv 2) (Zq _))
   (Zd (Xo Xn rfl T.zty rfl (Za (Vi (Z3 (Xz ⋯) (Z3 (W7 (pv 1)) (Z3 (Xz ⋯) Vh))) ⋯) Zc)))
   Zp)))),?_⟩
 have hlen:ts.length=Ms.length:=by rw[tl.length,zwo]
 let jv2:Nat->L2.St->Hp->Prop:=fun i σ H'=>H'=H/\(∃ v1 v2 v3,σ=[some (.ref b),v1,v2,v3])/\∀ m∈Ms.take i,¬ (m.1=m.2.1)
 refine⟨_,rfl,b,rfl,⟨_,hs⟩,Xd (K:=K) (a:=b) (xs:=ts) jv2 ⟨rfl,⟨_,_,_,rfl⟩,by simp⟩ (fun i σ H' _ ⟨e,_⟩=>e▸hs) ?_ ?_⟩
 ·rintro i x σ H' hx ⟨rfl,⟨v1,v2,v3,rfl⟩,hi⟩;obtain⟨t,m,rfl,hm,ht⟩:=Jz tl hx;have hmem:=zww hm;obtain⟨s1,s2,s3⟩:=sm m hmem;refine⟨t,_,rfl,SqT.of ht,rfl,_,_,rfl,_,_,rfl,_,_,rfl,rfl,?_⟩;refine⟨_,rfl,_,rfl,rfl,_,rfl,?_⟩;refine itV (fun he=>?_) fun he=>?_
  ·exact#[ax,_,_,s1,h1 ⟨m,hmem,he⟩]
  ·exact⟨rfl,⟨_,_,_,rfl⟩,C2 (p:=fun m=>m.1=m.2.1) hm hi he⟩
 ·rintro σ H' ⟨rfl,⟨v1,v2,v3,rfl⟩,hi⟩;rw[hlen,zw6] at hi;exact h2 fun ⟨m,hm,hb⟩=>hi m hm hb
abbrev Kv:Stmt:=top 38
theorem zc1:#[p,["matches"],["matches"],Kv]:=fnS
theorem zc2(F:#[i,"checked","checked",Kv])(T:#[k])(zrd:Z2 P w K mg base "check_count" 1 ["matches"] (za2 K (ca a)))(zqn:Z2 P w K mg base "check_ranges" 2 ["matches"] (C3 K (ca a)))(zrg:Z2 P w K mg base "check_clubs" 1 ["matches"] (za3 K (ca a))):FnOk P w K mg base #[f] 3 f fd ["matches"] (G5 K (ca a)):=by
 refine #[n,zc1];obtain⟨b,ts,Ms,rfl,hs,tl,sm,hl,h1,h2,h3,h4⟩:=h;refine⟨_,(Zb (Ya (pF zrd hr (Za (pv 0) Zc)))
 (Zb (Ya (pF zqn hr (Za (pv 0) Zc)))
 (Zb (Ya (pF zrg hr (Za (pv 0) Zc)))
 (Zd (Zl (Yx (Y0 (K:=K) rfl) (by rfl) T.zo3 PyProof.Rows.boot_list (Za (pv 0) Zc))))))),?_⟩
 have hlen:ts.length=Ms.length:=by rw[tl.length,zwo]
 refine⟨_,rfl,b,ts,rfl,hs,by omega,fun hc=>h1 ⋯,fun hc=>?_⟩;refine⟨_,rfl,b,ts,Ms,rfl,hs,tl,sm,fun hb=>h2 ⋯ hb,fun hb=>?_⟩;refine⟨_,rfl,b,ts,Ms,rfl,hs,tl,sm,fun hb2=>h3 ⋯ hb hb2,fun hb2=>?_⟩;exact#[Y,_,b,ts,.inl hs,h4 ⋯ hb hb2]
abbrev Ue:Stmt:=Z5 (top 40) 0
theorem Mj:#[an,Ue]:=fnS
theorem Ml(F:#[i,"__init__","Roster.__init__",Ue])(T:#[k]):FnOk P w K mg base #[f] 1 f fd ["self"] (zdx (ca a)):=by
 refine #[n,Mj];obtain⟨p,dx,rfl,hp,h⟩:=h;refine⟨_,Zd (Xk (K:=K) rfl (pv 0) T4 rfl),?_⟩;intro d hd;exact⟨_,rfl,p,a.zn9,dx,[],rfl,(by rw[Zh (Zg hp hd)];exact hp),T.zor,T.zpb,⋯,h d hd⟩
abbrev Vz:Stmt:=Z5 (top 40) 1
theorem Nb:#[p,#[as],#[as],Vz]:=fnS
theorem Nd(F:#[i,"check_new","Roster.check_new",Vz])(T:#[k])(zog:Z2 P w K mg base "check_range" 1 ["value","least","most"] (Li a.zop)):FnOk P w K mg base #[f] 2 f fd #[as] (N7 (ca a)):=by
 refine #[n,Nb];obtain⟨p,d,R,n,g,c,rfl,RA,sm,h⟩:=h;have hu:=Xy hr;refine⟨_,(Zb (Ya (pF zog hr (Za (pv 1) (Za Zf (Za (W4 rfl T.zrf) Zc)))))
 (Zb (Ya (pF zog hr (Za (pv 2) (Za Zf (Za (W4 rfl T.zqg) Zc)))))
 (Zb (Ya (pF zog hr (Za (pv 3) (Za Zf (Za (W4 rfl T.zp8) Zc)))))
 (Zb (Zy (Tf (Nu hu (pv 1) (Zs (K:=K) rfl (pv 0) rfl)))
  (Zd (Xo Xn rfl T.zte rfl (Za (Vi (Z3 (Xz ⋯) (Z3 (W7 (pv 1)) (Z3 (Xz ⋯) Vh))) ⋯) Zc)))
  Zp)
 (Zd (Zy (Zo zdb (Zk zew (by rfl) T.zoa PySem.boot_len (Za (Zs (K:=K) rfl (pv 0) rfl) Zc)) (W4 rfl T.zpn) (Zq _))
  (Zd (Xo Xn rfl T.zsu rfl (Za (Vi (Z3 (Xz ⋯) (Z3 (W7 (W4 rfl T.zpn)) (Z3 (Xz ⋯) Vh))) ⋯) Zc)))
  Zp)))))),?_⟩
 obtain⟨sn,sg,sc⟩:=sm;obtain⟨⟨dx,kvs,hp,hd,en⟩,nd⟩:=id RA;have bad:∀ {A B:Prop},(badI n g c->(if badI n g c then A else B)->A):=fun hb z=>by rw[if_pos hb] at z;exact z
 refine⟨_,rfl,n,1,999,rfl,sn,Yl ⋯,Yl ⋯,?_⟩;refine Bj (fun b1=>bad (by unfold badI;omega) h) fun b1=>?_;refine⟨_,rfl,g,1,9,rfl,sg,Yl ⋯,Yl ⋯,?_⟩;refine Bj (fun b2=>bad (by unfold badI;omega) h) fun b2=>?_;refine⟨_,rfl,c,1,99,rfl,sc,Yl ⋯,Yl ⋯,?_⟩;refine Bj (fun b3=>bad (by unfold badI;omega) h) fun b3=>?_;rw[#[h,(by unfold badI;omega)]] at h;refine⟨_,rfl,_,rfl,p,a.zn9,dx,_,_,rfl,hp,T.zor,T.zpb,Vy,d,_,rfl,DGet.k (k:=inl n) hd,_,rfl,?_⟩;rw[en.isSome nd];refine itD (fun hn=>?_) fun hn=>?_
 ·rw[if_pos hn] at h;exact#[ax,_,_,sn,h]
 rw[#[h,hn]] at h;refine⟨_,rfl,p,a.zn9,dx,_,_,rfl,hp,T.zor,T.zpb,Vy,d,_,rfl,hd,_,_,rfl,rfl,_,rfl,?_⟩;rw[en.length];refine itD (fun hz=>?_) fun hz=>?_
 ·rw[if_pos ⋯] at h;exact⟨.inl ⟨_,rfl,Yl ⋯⟩,fun z=>⟨sz1,h⟩⟩
 rw[if_neg ⋯] at h;exact h
abbrev Vd:Stmt:=Z5 (top 40) 2
theorem Pr:#[p,#[ad],#[ad],Vd]:=fnS
theorem Pt(F:#[i,"check_known","Roster.check_known",Vd])(T:#[k]):FnOk P w K mg base #[f] 1 f fd #[ad] (Qr (ca a)):=by
 refine #[n,Pr];obtain⟨p,d,R,n,rfl,RA,sn,h⟩:=h;have hu:=Xy hr;refine⟨_,(Zd (Zy (Tf (Rw hu (pv 1) #[ae,Zs,0]))
  (Zd (Xo Xn rfl T.zs3 rfl (Za (Vi (Z3 (Xz ⋯) (Z3 (W7 (pv 1)) (Z3 (Xz ⋯) Vh))) ⋯) Zc)))
  Zp)),?_⟩
 obtain⟨⟨dx,kvs,hp,hd,en⟩,nd⟩:=id RA;refine⟨_,rfl,_,rfl,p,a.zn9,dx,_,_,rfl,hp,T.zor,T.zpb,Vy,d,_,rfl,DGet.k (k:=inl n) hd,_,rfl,?_⟩;rw[en.isSome nd];by_cases hn:n∈R.map (·.1)
 ·rw[zwu hn];rw[if_pos hn] at h;exact iteF h
 ·rw[zwz hn];rw[#[h,hn]] at h;exact iteT #[ax,_,_,sn,h]
abbrev Qz:Stmt:=Z5 (top 40) 3
theorem E8:#[p,#[as],#[as],Qz]:=fnS
theorem E9(F:#[i,"add","Roster.add",Qz])(T:#[k])(zov:Zx P w K mg base a.zn9 "check_new" 2 #[as] (N7 (ca a))):FnOk P w K mg base #[f] 3 f fd #[as] (zhk (ca a)):=by
 refine #[n,E8];obtain⟨p,d,R,n,g,c,rfl,RA,sm,hl,h⟩:=h;have hu:=Xy hr;refine⟨_,(Zb (Ya (Xs (pv 0) T.zor zov (hr.mono ⋯) Zn (Za (pv 1) (Za (pv 2) (Za (pv 3) Zc)))))
 (Zd (Ym hu (Zs (K:=K) rfl (pv 0) rfl) (pv 1) (Yc (Za (pv 2) (Za (pv 3) Zc))) rfl))),?_⟩
 obtain⟨⟨dx,kvs,hp,hd,en⟩,nd⟩:=id RA;refine⟨_,rfl,p,dx,_,rfl,hp,X0.no ⋯,_,rfl,_,rfl,_,rfl,p,d,R,n,g,c,rfl,RA,sm,?_⟩;refine it2 h (fun _ z=>z) fun hb h=>it2 h (fun _ z=>z) fun hn h=>it2 h (fun _ z=>z) fun hz h=>?_;refine⟨_,rfl,_,rfl,sz2,fun t ht=>?_⟩;have ntp:p≠t:=Zg hp ht;have ntd:d≠t:=Zg hd ht;have npd:p≠d:=Y6 hp hd (by intro z;cases z);refine⟨_,rfl,p,a.zn9,dx,_,_,rfl,(by rw[Zh ntp];exact hp),T.zor,T.zpb,Vy,_,rfl,d,_,rfl,DPut.k (k:=inl n) (by rw[Zh ntd];exact hd) (X4 (by rw[en.length];exact hl)),?_⟩;rw[zfh (en.val_none hn)];refine h _ ⟨⟨dx,_,(by rw[Zh npd,Zh ntp];exact hp),Ze,?_⟩,?_⟩ fun b o e hb=>(by rw[Zh hb,Zh (Zg e ht)];exact e)
 ·refine Vx.snoc (by rw[Zh (Ne.symm ntd)];exact Ze) (en.mono fun b xs e=>?_);rw[Zh (Y6 e hd (by intro z;cases z)),Zh (Zg e ht)];exact e
 ·rw[zwv];exact Hf nd hn
abbrev Tn:Stmt:=Z5 (top 40) 4
theorem Kw:#[p,#[ad],#[ad],Tn]:=fnS
theorem Kx(F:#[i,"strike","Roster.strike",Tn])(T:#[k]):FnOk P w K mg base #[f] 1 f fd #[ad] (zar (ca a)):=by
 refine #[n,Kw];obtain⟨p,d,R,n,g,c,rfl,RA,h⟩:=h;refine⟨_,Zd (Ya (zgn #[ae,Zs,0] (pv 1) ⟨rfl,rfl,rfl,rfl⟩)),?_⟩;obtain⟨⟨dx,kvs,hp,hd,en⟩,nd⟩:=id RA;have npd:p≠d:=Y6 hp hd (by intro z;cases z);obtain⟨t,e1,e2⟩:=en.val_some nd (show (n,g,c)∈R++[(n,g,c)] by simp);have hn:n∉R.map (·.1):=by
  rw[zwv,List.nodup_append] at nd;exact fun z=>nd.2.2 n z n (by simp) rfl
 refine⟨_,rfl,p,a.zn9,dx,_,_,rfl,hp,T.zor,T.zpb,Vy,d,rfl,#[M,kvs,.inl hd],_,rfl,kvs,inl n,_,hd,rfl,e1,?_⟩;refine h _ ⟨⟨dx,_,(by rw[Zh npd];exact hp),Ze,(en.unsnoc hn).mono fun b xs e=>?_⟩,?_⟩ fun b o e hb=>(by rw[Zh hb];exact e)
 ·rw[Zh (Y6 e hd (by intro z;cases z))];exact e
 ·rw[zwv,List.nodup_append] at nd;exact nd.1
abbrev Uz:Stmt:=Z5 (top 40) 6
theorem Ln:#[an,Uz]:=fnS
theorem Lo(F:#[i,"numbers","Roster.numbers",Uz])(T:#[k]):FnOk P w K mg base #[f] 1 f fd ["self"] (Gy (ca a)):=by
 refine #[n,Ln];obtain⟨p,d,R,rfl,RA,h⟩:=h;refine⟨_,Zd (Zl (Yx (Nz rfl) (by rfl) T.zo3 PyProof.Rows.boot_list (Za (Zs (K:=K) rfl (pv 0) rfl) Zc))),?_⟩;obtain⟨⟨dx,kvs,hp,hd,en⟩,nd⟩:=id RA;refine⟨_,rfl,p,a.zn9,dx,_,_,rfl,hp,T.zor,T.zpb,Vy,d,kvs,rfl,.inl hd,fun l hl=>?_⟩;rw[en.keys];exact h l hl
abbrev Sg:Stmt:=Z5 (top 40) 7
theorem J6:#[p,#[ad],#[ad],Sg]:=fnS
theorem J7(F:#[i,"entry","Roster.entry",Sg])(T:#[k])(zom:Zx P w K mg base a.zn9 "check_known" 1 #[ad] (Qr (ca a))):FnOk P w K mg base #[f] 2 f fd #[ad] (zas (ca a)):=by
 refine #[n,J6];obtain⟨p,d,R,n,rfl,RA,sn,h1,h2⟩:=h;have hu:=Xy hr;refine⟨_,(Zb (Ya (Xs (pv 0) T.zor zom (hr.mono ⋯) Zn (Za (pv 1) Zc)))
 (Zd (Zl (pD hu (Zs (K:=K) rfl (pv 0) rfl) (pv 1))))),?_⟩
 obtain⟨⟨dx,kvs,hp,hd,en⟩,nd⟩:=id RA;refine⟨_,rfl,p,dx,_,rfl,hp,X0.no ⋯,_,rfl,p,d,R,n,rfl,RA,sn,?_⟩;refine Bj (fun hn=>?_) fun hn=>h1 hn;obtain⟨⟨m,g,c⟩,q,rfl⟩:=zwx.mp hn;obtain⟨t,e1,e2⟩:=en.val_some nd q;exact⟨_,rfl,p,a.zn9,dx,_,_,rfl,hp,T.zor,T.zpb,Vy,_,rfl,d,_,rfl,(by rw[<- e1];exact DGet.k (k:=inl m) hd),h2 g c t q e2⟩
abbrev To:Stmt:=Z5 (top 40) 10
theorem Ky:#[p,#[ad],#[ad],To]:=fnS
theorem Kz(F:#[i,"person","Roster.person",To])(T:#[k])(zq2:Zx P w K mg base a.zn9 "entry" 2 #[ad] (zas (ca a))):FnOk P w K mg base #[f] 3 f fd #[ad] (zat (ca a)):=by
 refine #[n,Ky];obtain⟨p,d,R,n,rfl,RA,sn,h1,h2⟩:=h;refine⟨_,Zd (Zl (Zt (zau (K:=K) rfl) (Yc (Za (pv 1) Zc)) (Xs (pv 0) T.zor zq2 (hr.mono ⋯) Zn (Za (pv 1) Zc)))),?_⟩;obtain⟨⟨dx,kvs,hp,hd,en⟩,nd⟩:=id RA;refine⟨_,rfl,sz1,fun t1 ht1=>?_⟩;refine al (upd _ t1 _) ht1 rfl fun H1 q1 s1=>?_;refine⟨_,rfl,p,dx,_,rfl,s1 _ _ hp,X0.no ⋯,_,rfl,p,d,R,n,rfl,RA.same s1,sn,fun hn=>h1 hn H1 s1,fun g c t q ht=>?_⟩;refine⟨t1,t,_,_,rfl,rfl,SqT.of q1,SqT.of ht,by simp,by show 1+2<=sizeLine;exact sz3,fun z=>absurd z (by simp),fun _ t2 ht2=>?_⟩;exact h2 g c t2 _ q Ze (s1.trans (Zj ht2)) (s1.free ht2)
abbrev Fw:Stmt:=top 4
theorem zf0:#[p,["people","match","out","ledger","rest"],["people","match","out","ledger","rest"],Fw]:=fnS
theorem zf1(F:#[i,"takers","takers",Fw])(T:#[k])(zsy:Z2 P w K mg base "reasons" 3 ["referee","match","out","ledger","rest"] (Cm K a.zn7)):FnOk P w K mg base #[f] 4 f fd ["people","match","out","ledger","rest"] (zai K a.zn7):=by
 refine #[n,zf0];obtain⟨lp,lo,tm,p,lr,ld,Rs,ts,Ms,os,h,gu,d,rest,rfl,hp,tl,ho,hoo,ht,LA,hl,hq⟩:=h;refine⟨_,Zd (Zl (Vb rfl (cT ["match","ledger","rest","out"] [1,3,4,2]) (Z8 (K:=K) rfl (pv 0)) (fun _ _ _ _ _=>Qi (Yt (Cf (K:=K) rfl (zdj zsy (hr.mono ⋯) zad rfl (Za (pv 0) (Za (pv 1) (Za (Wa (N1 (K:=K) rfl) (pI (iU K) (pv 0) Zf) (pv 4) (by with_unfolding_all rfl)) (Za (pv 2) (Za (pv 3) Zc)))))) fun _=>rfl))) fun _ _ _ _ _=>(pI (iU K) (pv 0) Zf))),?_⟩;have hlen:ts.length=Ms.length:=by rw[tl.length,zwo]
 refine⟨_,rfl,lp,rfl,⟨_,SqL.of hp⟩,?_⟩;refine X5 (K:=K) (a:=lp) (xs:=ts) (fun i ys H'=>#[j]/\ys=((Ms.take i).filter (P9 Rs h gu d os rest)).map fun m=>V.int m.1) #[w,Same.refl _] (fun i ys H' _ ⟨s,_⟩=>#[F,s,hp]) (by rw[hlen];exact szN hl) (fun i ys H' ⟨_,e⟩=>by rw[e,zwo];exact zw4 (zxn _ _) (zx1 _ _)) ?_ ?_
 ·rintro i x ys H' hx ⟨sm,rfl⟩;obtain⟨t,m,rfl,hm,htt⟩:=Jz tl hx;have htt':=sm _ _ htt;refine⟨_,rfl,_,rfl,_,rfl,t,_,_,_,rfl,rfl,SqT.of htt',show atI (pV m) 0=some _ from rfl,_,rfl,lo,os,rfl,#[t,sm _ _ ho],rfl,zyb.mpr fun y hy=>M9 (hoo y hy),_,rfl,_,rfl,t,tm,p,lr,ld,Rs,m.1,m.2.1,m.2.2,h,gu,d,rest,inV (.int m.1) os,rfl,htt',sm _ _ ht,LA.same sm,fun l H2 hl2 s2 _=>?_⟩;refine⟨_,.inl ⟨_,SqL.of hl2,rfl⟩,?_⟩;have e:((whyS Rs m.1 m.2.1 m.2.2 h gu d (inV (.int m.1) os) rest).map V.str).isEmpty=P9 Rs h gu d os rest m:=by unfold P9;rw[List.isEmpty_map]
  have hys:∀ ys',((Ms.take (i+1)).filter (P9 Rs h gu d os rest)).map (fun m=>V.int m.1)=((Ms.take i).filter (P9 Rs h gu d os rest)).map (fun m=>V.int m.1)++ys'↔ys'=if P9 Rs h gu d os rest m then [V.int m.1] else []:=fun ys'=>by
   rw[zx3,hm,zyf,zwv,List.append_cancel_left_eq];cases q:P9 Rs h gu d os rest m<;>simp[q,eq_comm]
  dsimp only;rw[e];refine itB (fun hb=>?_) fun hb=>?_
  ·rw[Bool.not_not] at hb;refine⟨_,rfl,t,_,_,_,rfl,rfl,SqT.of (s2 _ _ htt'),show atI (pV m) 0=some _ from rfl,sm.trans s2,?_⟩;exact((hys [V.int m.1]).mpr (by rw[hb];rfl)).symm
  ·rw[Bool.not_not] at hb;refine⟨sm.trans s2,?_⟩;have:=(hys []).mpr (by rw[hb];rfl);rw[zx4] at this;exact this.symm
 ·rintro ys H' ⟨sm,rfl⟩ l hl';rw[hlen,zw6];exact hq l _ Ze (sm.trans (Zj hl')) (sm.free hl')
abbrev Sh:Stmt:=top 42
theorem Vu:#[p,["given","taken","place","number"],["given"],Sh]:=fnS
theorem J8(F:#[i,"places_taken","places_taken",Sh])(T:#[k]):FnOk P w K mg base #[f] 1 f fd ["given"] (Bt K):=by
 refine #[n,Vu];obtain⟨b,gs,rfl,hb,ho,hinj,hl,h⟩:=h;have hu:=Xy hr;refine⟨_,(Zb (pS 1 Vu.nd T4)
 (Zb (Yi PassesOwn.leaving rfl (zds (K:=K) rfl rfl T.zq6 (Za (pv 0) Zc)) (Wb (K:=K) (n:=2) rfl rfl (Z0 (pN 2 Vu.nd) (Z0 (pN 3 Vu.nd) X9)))
  (Zd (Zy (Zo Vs (pv 3) Yn (Zq _))
   (Zd (Ym hu (pv 1) (pv 3) (pv 2) rfl))
   Zp)))
 (Zd (Zl (pv 1))))),?_⟩
 have line:100<sizeLine:=by rw[sizeLine_eq];decide
 intro d hd
 let jv1:Nat->L2.St->Hp->Prop:=fun i σ' H'=>(∃ u v,σ'=[some (.ref b),some (.ref d),u,v])/\#[j]/\∃ kvs,H' d=#[b,.dK,kvs]/\kvs.length<=i/\(∀ (n:Int) (j:Nat),j<i->gs[j]?=some (.int n)->valV kvs (inl n:Key)=some (.int (j:Nat)))/\(∀ n:Int,(∀ j:Nat,j<i->gs[j]?≠some (.int n))->valV kvs (inl n:Key)=none)
 refine⟨_,rfl,b,rfl,⟨gs,SqL.of (Zj hd _ _ hb)⟩,zg7 (xs:=gs) jv1
  ⟨⟨none,none,rfl⟩,Zj hd,[],Ze,zw1 _,fun n j hj=>absurd hj (zyc _),fun n _=>rfl⟩ (fun i σ' H' hi p=>#[F,p.2.1,hb]) (fun i x t σ' H' hx p htn=>?_) (fun σ' H' p=>?_)⟩
 ·obtain⟨⟨u,v,rfl⟩,hs,kvs,hk,hkl,h1,h2⟩:=p;have s2:=hs.trans (Zj (o:=.tup [.int (i:Nat),x]) htn);have hk2:=Zj (o:=.tup [.int (i:Nat),x]) htn _ _ hk;refine⟨t,_,rfl,SqT.of Ze,rfl,_,_,rfl,_,_,rfl,rfl,?_⟩;generalize upd H' t (.tup [.int (i:Nat),x])=H2 at s2 hk2;have hi:i<gs.length:=(zwq.mp hx).1;refine Y9 (b:=!decide (x=.non)) (fun Q k=>⟨_,rfl,rfl,_,rfl,k⟩) ?_;rcases ho x (zww hx) with rfl|⟨n,rfl⟩
  ·refine iteF (Zu ⟨#[L,_,_],s2,kvs,hk2,by omega,fun n j hj hg=>?_,fun n hn=>h2 n fun j hj=>hn j ⋯⟩);by_cases e:j=i
   ·subst e;rw[hx] at hg;cases hg
   ·exact h1 n j ⋯ hg
  ·refine iteT ⟨_,rfl,_,rfl,_,rfl,d,_,rfl,DPut.k (k:=inl n) hk2 ⋯,#[L,_,_],?_,_,Ze,?_,fun m j hj hg=>?_,fun m hm=>?_⟩
   ·exact Yb hd s2
   ·exact zw4 (Xm kvs _ _) ⋯
   ·rw[Vr];by_cases e:j=i
    ·subst e;rw[hx] at hg;cases hg;rw[#[P]]
    ·have hne:¬ ((inl m:Key)=inl n):=fun z=>by
      rw[inl.inj z] at hg;exact e (hinj j i n hg hx)
     rw[#[h,hne]];exact h1 m j ⋯ hg
   ·have hne:¬ ((inl m:Key)=inl n):=fun z=>by
     rw[inl.inj z] at hm;exact hm i ⋯ hx
    rw[Vr,#[h,hne]];exact h2 m fun j hj=>hm j ⋯
 ·obtain⟨⟨u,v,rfl⟩,hs,kvs,hk,hkl,h1,h2⟩:=p;exact#[q,_,h d kvs H' hk ⟨fun n j hj=>h1 n j (zwq.mp hj).1 hj,fun n hn=>h2 n fun j _=>hn j⟩ hs hd]
abbrev Q4:Stmt:=top 43
theorem Wk:#[p,["may","taken","start","into","waiting","done","place","number"],["may","taken","start"],Q4]:=fnS
theorem Dc(F:#[i,"steps_into","steps_into",Q4])(T:#[k]):FnOk P w K mg base #[f] 1 f fd ["may","taken","start"] (zck K):=by
 refine #[n,Wk];obtain⟨l,d,ls,rows,kvs,gs,p,rfl,hl,il,hrl,hd,tk,FP,hp,h⟩:=h;have hu:=Xy hr;refine⟨_,(Zb (pS 3 Wk.nd (Bb (Ta (pv 2) Yn Ba) rfl rfl (by simp) ⋯))
 (Zb (pS 4 Wk.nd (Z6 (Za (pv 2) Zc)))
 (Zb (pS 5 Wk.nd Zf)
 (Zb (Mz PassesOwn.leaving (Zo Hq (pv 5) (Zk (cL K) (by rfl) T.zoa PySem.boot_len (Za (pv 4) Zc)) (Zq _))
  (Zb (pS 6 Wk.nd (pI (iL K) (pv 4) (pv 5)))
  (Zb (pS 5 Wk.nd (Zt Yy (pv 5) Zf))
  (Zd (Yi PassesOwn.leaving rfl (Z8 (K:=K) rfl (pI (iL K) (pv 0) (pv 6))) (pN 7 Wk.nd)
   (Zd (Zy (PW.pt (S9 (Tf (Nu hu (pv 7) (pv 1))) (U8 (Tf (Rw hu (pD hu (pv 1) (pv 7)) (pv 3))))))
    (Zb (Ym hu (pv 3) (pD hu (pv 1) (pv 7)) (Yc (Za (pv 6) (Za (pv 7) Zc))) rfl)
    (Zd (Yu (pv 4) (pD hu (pv 1) (pv 7)))))
    Zp)))))))
 (Zd (Zl (pv 3))))))),?_⟩
 show let y1:TS:=_;let y2:TS:=Zw _ y1;let y3:TS:=_;let y4:TS:=Zw (C9 _ (Zw _ y2)) y3;let y5:TS:=Zw _ y4;let y6:TS:=Zw _ y5;Zw _ y6 _ _ _;intro y1 y2 y3 y4 y5 y6;have line0:200<sizeLine:=by rw[sizeLine_eq];decide
 intro ld hld;refine#[Y,_,Ze,[(inl (p:Int),.non)],(by show 1<=15;decide),?_];have s0:Same H (upd (upd H ld (.dK [])) ld (.dK (Vl [] [(inl (p:Int),.non)]))):=Yb hld (Zj hld);have q0:upd (upd H ld (.dK [])) ld (.dK (Vl [] [(inl (p:Int),.non)])) ld=#[b,.dK,[((inl (p:Int):Key),V.non)]]:=Ze;generalize upd (upd H ld (.dK [])) ld (.dK (Vl [] [(inl (p:Int),.non)]))=H1 at s0 q0;refine⟨_,rfl,sz1,fun ln hln=>?_⟩;refine #[z,ln,hln,fun H2 TH2 s1=>?_];have e1:H2 ln=some (.lst (Yf [p])):=TH2;have q1:=s1 _ _ q0;have s01:=s0.trans s1;have nln:ld≠ln:=Zg q0 hln;have fln:H ln=none:=s0.free hln;have hbound:∀ line:#[B],line.Nodup->(∀ c∈line,c<rows.length)->line.length<=rows.length:=fun line nd hc=>by
  have:=#[aD,zxr.mpr (hc c hcc)];rw[zxo] at this;exact this
 refine⟨fun m σ' H'=>∃ (line:#[B]) (dep:Nat->Nat) (fr:Nat->Option (Nat×Int)) (into:#[U]) (dn:Nat) (v6 v7:Option V),m=rows.length-dn/\dn<=line.length/\σ'=[#[c,l],#[c,d],#[e,p],#[c,ld],#[c,ln],#[e,(dn:Nat)],v6,v7]/\#[j]/\H' ld=#[b,.dK,into]/\H' ln=#[I,Yf,line]/\Wj H' into line fr/\#[ar]/\Done rows gs line dep dn/\T7 rows gs p line dep fr/\(∀ q∈line,q<rows.length)/\∀ here,line[dn]?=some here->∀ x∈line,dep x<=dep here+1,
  ⟨_,[p],fun _=>0,fun _=>none,_,0,_,_,rfl,zxj _,rfl,s01,q1,e1,zcl _ _,Cp rows gs p,fun i q hi=>absurd hi (zyc _),zcm,by simpa using hp,fun here _ x _=>zxj _⟩,?_⟩
 rintro m σ Ha ⟨line,dep,fr,into,dn,v6,v7,rfl,hdn,rfl,sa,hda,hna,io,B,Dn,fo,hlt,near⟩;have hll:=hbound _ B.nodup hlt;have hnl:(Yf line).length=line.length:=by unfold Yf;rw[zwo]
 refine⟨_,rfl,_,rfl,ln,_,rfl,#[t,hna],_,_,rfl,rfl,_,rfl,?_⟩;rw[hnl];by_cases hlt2:dn<line.length
 ·rw[zwu (show ((dn:Nat):Int)<(line.length:Nat) by omega)];refine iteT ?_;obtain⟨here,hh⟩:∃ here,line[dn]?=some here:=⟨_,zwp hlt2⟩;have hhm:=zww hh;have hhere:=hlt here hhm;have hhv:(Yf line)[dn]?=#[e,(here:Nat)]:=by unfold Yf;rw[zws,hh];rfl
  refine⟨fun σ' H'=>∃ (line:#[B]) (dep:Nat->Nat) (fr:Nat->Option (Nat×Int)) (into:#[U]) (v6 v7:Option V),dn+1<=line.length/\σ'=[#[c,l],#[c,d],#[e,p],#[c,ld],#[c,ln],#[e,((dn+1:Nat):Int)],v6,v7]/\#[j]/\H' ld=#[b,.dK,into]/\H' ln=#[I,Yf,line]/\Wj H' into line fr/\#[ar]/\Done rows gs line dep (dn+1)/\T7 rows gs p line dep fr/\(∀ q∈line,q<rows.length)/\∀ here,line[dn+1]?=some here->∀ x∈line,dep x<=dep here+1,
   (by rintro σ' H' ⟨line,dep,fr,into,v6,v7,a1,a2⟩;exact⟨rows.length-(dn+1),by omega,line,dep,fr,into,dn+1,v6,v7,rfl,a1,a2⟩),?_⟩
  have hr':rows[here]?=some (rows[here]'hhere):=zwp hhere;generalize (rows[here]'hhere)=r at hr';obtain⟨lr,e2,e3⟩:=il.getR hr';have hl':(ls.map V.ref)[here]?=#[c,lr]:=by rw[zws,e2];rfl
  refine⟨_,rfl,_,rfl,ln,_,_,_,rfl,rfl,SqL.of hna,Zz hhv,?_⟩;refine#[Y,_,_,_,rfl,?_];refine⟨_,rfl,_,rfl,l,_,_,_,rfl,rfl,#[F,sa,hl],Zz hl',lr,rfl,⟨_,SqL.of (sa _ _ e3)⟩,?_⟩
  let jv2:Nat->L2.St->Hp->Prop:=fun j σ' H'=>∃ (line:#[B]) (dep:Nat->Nat) (fr:Nat->Option (Nat×Int)) (into:#[U]) (v7:Option V),σ'=[#[c,l],#[c,d],#[e,p],#[c,ld],#[c,ln],#[e,((dn+1:Nat):Int)],#[e,(here:Nat)],v7]/\#[j]/\H' ld=#[b,.dK,into]/\H' ln=#[I,Yf,line]/\Wj H' into line fr/\#[ar]/\Done rows gs line dep dn/\T7 rows gs p line dep fr/\(∀ q∈line,q<rows.length)/\line[dn]?=some here/\(∀ x∈line,dep x<=dep here+1)/\∀ n∈r.take j,∀ q':Nat,gs[q']?=#[e,n]->q'∈line
  refine Xd (K:=K) (a:=lr) (xs:=r.map V.int) jv2
   ⟨line,dep,fr,into,_,rfl,sa,hda,hna,io,B,Dn,fo,hlt,hh,near here hh,by simp⟩ (by rintro j σ' H' _ ⟨_,_,_,_,_,_,z,_⟩;exact #[F,z,e3]) ?_ ?_
  ·rintro j y σ' Hx hy ⟨line,dep,fr,into,w7,rfl,sx,hdx,hnx,io,B,Dn,fo,hlt,hh,near,pr⟩;have hj:j<r.length:=by have:=(zwq.mp hy).1;rw[zwo] at this;exact this
   have hhm:=zww hh;have hrj:r[j]?=some (r[j]'hj):=zwp hj;have etk:r.take (j+1)=r.take j++[r[j]'hj]:=zw8 hj;generalize (r[j]'hj)=n at hrj etk;have ey:y=.int n:=by rw[zws,hrj] at hy;exact(Option.some.inj hy).symm
   subst ey;have hnr:=zww hrj;have hll:=hbound _ B.nodup hlt;have prev:(∀ q':Nat,gs[q']?=#[e,n]->q'∈line)->∀ m∈r.take (j+1),∀ q':Nat,gs[q']?=#[e,m]->q'∈line:=fun k m hm=>by
    rw[etk] at hm;rcases zw0.mp hm with z|z
    ·exact pr m z
    ·rw[zwt.mp z];exact k
   rcases tk.iff n with ⟨q',hq',hv⟩|⟨hno,hv⟩
   ·by_cases hin:q'∈line
    ·refine Y9 (b:=false) (fun Q k=>?_) (iteF (Zu ⟨line,dep,fr,into,_,rfl,sx,hdx,hnx,io,B,Dn,fo,hlt,hh,near,prev fun q2 h2=>by rw[FP.inj q2 q' n h2 hq'];exact hin⟩));refine⟨_,rfl,_,rfl,d,_,rfl,DGet.k (k:=inl n) (sx _ _ hd),_,rfl,?_⟩;rw[hv];refine iteT ⟨_,rfl,_,rfl,d,_,rfl,hv▸DGet.k (k:=inl n) (sx _ _ hd),_,rfl,ld,_,rfl,DGet.k (k:=inl (q':Int)) hdx,_,rfl,?_⟩;rw[(io.has q').mpr hin];exact k
    ·have hnin:(valV into (inl (q':Int):Key)).isSome=false:=by
      rw[Bool.eq_false_iff];exact fun z=>hin ((io.has q').mp z)
     have hq'l:q' < rows.length:=by
      have:=(zwq.mp hq').1;rw[FP.len] at this;exact this
     have ha:adjN rows gs here n q':=⟨⟨r,hr',hnr⟩,hq'⟩;obtain⟨B',old,all⟩:=B.app (dn:=dn) hh near ha hin;refine Y9 (b:=true) (fun Q k=>?_) (iteT ?_)
     ·refine⟨_,rfl,_,rfl,d,_,rfl,DGet.k (k:=inl n) (sx _ _ hd),_,rfl,?_⟩;rw[hv];refine iteT ⟨_,rfl,_,rfl,d,_,rfl,hv▸DGet.k (k:=inl n) (sx _ _ hd),_,rfl,ld,_,rfl,DGet.k (k:=inl (q':Int)) hdx,_,rfl,?_⟩;rw[hnin];exact k
     ·refine⟨_,rfl,_,rfl,sz2,fun t ht=>?_⟩;refine #[z,t,ht,fun Ht et t1=>?_];have st:=sx.trans t1;have hdt:=t1 _ _ hdx;have hnt:=t1 _ _ hnx;have iot:=io.same t1;refine⟨_,rfl,_,rfl,_,rfl,d,_,rfl,hv▸DGet.k (k:=inl n) (st _ _ hd),ld,_,rfl,DPut.k (k:=inl (q':Int)) hdt ?_,?_⟩
      ·have:=io.len;omega
      have sd:Same H (upd Ht ld (.dK (putK into (inl (q':Int)) (.ref t)))):=Yb hld st;have ed:upd Ht ld (.dK (putK into (inl (q':Int)) (.ref t))) ld=#[b,.dK,putK into (inl (q':Int)) (.ref t)]:=Ze;have en:upd Ht ld (.dK (putK into (inl (q':Int)) (.ref t))) ln=some (.lst (Yf line)):=by rw[Zh (Ne.symm nln)];exact hnt
      have iod:Wj (upd Ht ld (.dK (putK into (inl (q':Int)) (.ref t)))) (putK into (inl (q':Int)) (.ref t)) (line++[q']) (Jj fr q' (here,n)) :=
       (iot.app hin et).mono fun c xs e=>by rw[Zh (Y6 e hdt (fun z=>nomatch z))];exact e
      generalize upd Ht ld (.dK (putK into (inl (q':Int)) (.ref t)))=Hd at sd ed en iod;have hsz:(Yf line).length<sizeLine:=by unfold Yf;rw[zwo];omega
      refine⟨_,rfl,ln,_,rfl,en,_,rfl,_,rfl,d,_,rfl,hv▸DGet.k (k:=inl n) (sd _ _ hd),_,en,hsz,line++[q'],Wi dep q' (dep here+1),Jj fr q' (here,n),putK into (inl (q':Int)) (.ref t),_,rfl,Yb fln sd,?_,?_,?_,B',Dn.app ?_ #[w,_] old,fo.app hin B.memp hhm ha,?_,?_,?_,?_⟩
      ·rw[Zh nln];exact ed
      ·rw[Ze];unfold Yf;rw[zwv];rfl
      ·exact iod.mono fun c xs e=>by rw[Zh (Y6 e en (fun z=>nomatch z))];exact e
      ·have:=(zwq.mp hh).1;omega
      ·intro q hq;rcases zw0.mp hq with z|z
       ·exact hlt q z
       ·rw[zwt.mp z];exact hq'l
      ·rw[zxm (zwq.mp hh).1];exact hh
      ·intro x hx;rw[old here hhm];exact all x hx
      ·intro m hm q2 h2;rw[etk] at hm;rcases zw0.mp hm with z|z
       ·exact zxa _ (pr m z q2 h2)
       ·rw[zwt.mp z] at h2;rw[FP.inj q2 q' n h2 hq'];exact zw7 _ (zwt.mpr rfl)
   ·refine Y9 (b:=false) (fun Q k=>?_) (iteF (Zu ⟨line,dep,fr,into,_,rfl,sx,hdx,hnx,io,B,Dn,fo,hlt,hh,near,prev fun q2 h2=>absurd h2 (hno q2)⟩));refine⟨_,rfl,_,rfl,d,_,rfl,DGet.k (k:=inl n) (sx _ _ hd),_,rfl,?_⟩;rw[hv];exact iteF k
  ·rintro σ' Hx ⟨line,dep,fr,into,w7,rfl,sx,hdx,hnx,io,B,Dn,fo,hlt,hh,near,pr⟩;rw[zwo,zw6] at pr;have hlt3:=(zwq.mp hh).1;refine⟨line,dep,fr,into,_,_,by omega,rfl,sx,hdx,hnx,io,B,fun i q hi hq n q' ha=>?_,fo,hlt,fun here2 hh2 x hx=>?_⟩
   ·by_cases e:i=dn
    ·rw[e,hh] at hq;cases hq;obtain⟨⟨r2,h1,h2⟩,h3⟩:=ha;rw[hr'] at h1;cases h1;have hm:=pr n h2 q' h3;exact⟨hm,near q' hm⟩
    ·exact Dn i q ⋯ hq n q' ha
   ·have:=B.sorted dn (dn+1) here here2 ⋯ hh hh2;have:=near x hx;omega
 ·rw[zwz (show ¬ (((dn:Nat):Int)<(line.length:Nat)) by omega)];refine iteF #[q,_,?_];have e:dn=line.length:=by omega
  subst e;exact h ld into line dep fr Ha hda io B Dn fo hlt sa hld
abbrev Si:Stmt:=top 44
theorem Pl:#[p,["numbers","taken","number"],["numbers","taken"],Si]:=fnS
theorem J9(F:#[i,"free_referee","free_referee",Si])(T:#[k]):FnOk P w K mg base #[f] 1 f fd ["numbers","taken"] (Cs K):=by
 refine #[n,Pl];obtain⟨l,d,r,kvs,rfl,hl,hd,h⟩:=h;have hu:=Xy hr;refine⟨_,(Zb (Yi PassesOwn.leaving rfl (Z8 (K:=K) rfl (pv 0)) (pN 2 Pl.nd)
  (Zd (Zy (Tf (Rw hu (pv 2) (pv 1)))
   (Zd (Zl (pv 2)))
   Zp)))
 (Zd (Zl Yn))),?_⟩
 let jv3:Nat->L2.St->Hp->Prop:=fun i σ' H'=>(∃ u,σ'=[some (.ref l),some (.ref d),u])/\H'=H/\∀ n∈r.take i,(valV kvs (inl n:Key)).isSome=true
 refine⟨_,rfl,l,rfl,⟨_,SqL.of hl⟩,Xd (xs:=r.map V.int) jv3
  ⟨⟨none,rfl⟩,rfl,by simp⟩ (fun i σ' H' hi p=>by rw[p.2.1];exact SqL.of hl) (fun i x σ' H' hx p=>?_) (fun σ' H' p=>?_)⟩
 ·obtain⟨⟨u,rfl⟩,rfl,hp⟩:=p;have hi:i<r.length:=by have:=(zwq.mp hx).1;rw[zwo] at this;exact this
  have e:x=.int (r[i]'hi):=by
   rw[zws,zwp hi] at hx;exact(Option.some.inj hx).symm
  subst e;refine Y9 (b:=!(valV kvs (inl (r[i]'hi):Key)).isSome) (fun Q k=>⟨_,rfl,_,rfl,d,_,rfl,DGet.k (k:=inl (r[i]'hi)) hd,_,rfl,k⟩) ?_;cases hv:valV kvs (inl (r[i]'hi):Key) with
  | none=>exact iteT #[q,_,h (some (r[i]'hi)) (fun n hn=>by cases hn;exact⟨zxd hi,hv⟩) (fun z=>nomatch z)]
  | some y =>
    refine iteF (Zu #[q,#[w,_],fun n hn=>?_]);rw[zw8 hi] at hn;rcases zw0.mp hn with z|z
    ·exact hp n z
    ·rw[zwt.mp z,hv];rfl
 ·obtain⟨⟨u,rfl⟩,rfl,hp⟩:=p;rw[zwo,zw6] at hp;exact h none (fun n z=>nomatch z) fun _=>hp
abbrev Fx:Stmt:=top 45
theorem O7:#[p,["into","place","number","steps","step"],["into","place","number"],Fx]:=fnS
theorem zf2(F:#[i,"traced","traced",Fx])(T:#[k]):FnOk P w K mg base #[f] 1 f fd ["into","place","number"] (zal K):=by
 refine #[n,O7];obtain⟨t,q,p,w,rows,gs,into,line,dep,fr,rfl,ht,io,fo,d0,hp,hq,hdq,h⟩:=h;have hu:=Xy hr;refine⟨_,(Zb (pS 3 O7.nd (Z6 (Za (Yc (Za (pv 1) (Za (pv 2) Zc))) Zc)))
 (Zb (pS 4 O7.nd (pD hu (pv 0) (pv 1)))
 (Zb (Mz PassesOwn.leaving (Zo Vs (pv 4) Yn (Zq _))
  (Zb (Yu (pv 3) (pv 4))
  (Zd (pS 4 O7.nd (pD hu (pv 0) (pI (iU K) (pv 4) Zf))))))
 (Zb (Ya (zgq PySem.F.plainAttrs_list PySem.F.slot_list_reverse PySem.F.type_list_reverse zce (pv 3)))
 (Zd (Zl (pv 3))))))),?_⟩
 have line0:200<sizeLine:=by rw[sizeLine_eq];decide
 have get:∀ {H':Hp},#[j]->∀ k:Nat,DGet H' t (.int (k:Nat)) (valV into (inl (k:Int):Key)):=fun {H'} hs k=>.inl ⟨into,inl (k:Int),ht.imp (hs _ _) fun ⟨o,e⟩=>⟨o,hs _ _ e⟩,rfl,rfl⟩;have fr0:∀ c∈line,fr c=none->c=p:=fun c hc hf=>by
  by_cases e:c=p
  ·exact e
  ·obtain⟨par,n,h1,_⟩:=fo.2 c hc e;rw[hf] at h1;cases h1
 have some_of:∀ c∈line,∃ v,valV into (inl (c:Int):Key)=some v:=fun c hc=>zyd.mp ((io.has c).mpr hc);refine⟨_,rfl,_,rfl,sz2,fun m hm=>⟨sz1,fun lt hlt=>?_⟩⟩;have s1:=Zj (o:=.tup [.int (q:Nat),oV w]) hm;have e1:upd H m (.tup [.int (q:Nat),oV w]) m=some (.tup (Wz (q,w))):=Ze;generalize upd H m (.tup [.int (q:Nat),oV w])=H1 at s1 e1 hlt;refine #[z,lt,hlt,fun H2 e2 s2=>?_];have e3:=s2 _ _ e1;have s3:=s1.trans s2;have hltn:H lt=none:=s1.free hlt;obtain⟨v0,hv0⟩:=some_of q hq;refine⟨_,rfl,_,rfl,t,v0,rfl,hv0▸get s3 q,?_⟩;refine⟨fun mm σ' H'=>∃ (cur:Nat) (st:#[E]) (ts:#[a]) (v:V),mm=dep cur/\cur∈line/\valV into (inl (cur:Int):Key)=some v/\σ'=[#[c,t],#[e,(q:Nat)],#[b,oV,w],#[c,lt],some v]/\#[j]/\H' lt=#[r,ts]/\Z7 H' ts (st.reverse.map Wz)/\Ch rows gs cur st q w/\st.length+dep cur=dep q+1,
  ⟨_,q,[(q,w)],_,v0,rfl,hq,hv0,rfl,s3,e2,.cons e3 .nil,.one q w,by show 1+dep q=_;omega⟩,?_⟩
 rintro mm σ' Ha ⟨cur,st,ts,v,rfl,hc,hv,rfl,sa,hta,htl,hch,hlen⟩;have htsl:ts.length=st.length:=by have:=htl.length;rw[zwo,List.length_reverse] at this;exact this
 refine⟨_,rfl,rfl,_,rfl,?_⟩;cases hf:fr cur with
 | none =>
   have hcp:=fr0 cur hc hf;subst hcp;have hvn:=io.none cur hc hf;rw[hv] at hvn;cases hvn;refine iteF ?_;refine⟨_,rfl,.inl ⟨rfl,_,SqL.of hta⟩,lt,ts,rfl,rfl,hta,_,rfl,?_⟩;refine h lt ts.reverse st _ Ze ?_ hch ⋯ (Yb hltn sa) hltn;have hr:=htl.reverse;rw[<- List.map_reverse,List.reverse_reverse] at hr;exact hr.mono fun c xs e=>by rw[Zh (Y6 e hta (fun z=>nomatch z))];exact e
 | some x =>
   obtain⟨par,n⟩:=x;obtain⟨tt,h1,h2⟩:=io.some cur hc par n hf;rw[hv] at h1;cases h1;have hcp:cur≠p:=fun z=>by rw[z,fo.1] at hf;cases hf
   obtain⟨par',n',h3,h4,h5,h6⟩:=fo.2 cur hc hcp;rw[hf] at h3;cases h3;obtain⟨v',hv'⟩:=some_of par h4;refine iteT ?_;refine⟨fun σ' H'=>∃ (st:#[E]) (ts:#[a]),σ'=[#[c,t],#[e,(q:Nat)],#[b,oV,w],#[c,lt],some v']/\#[j]/\H' lt=#[r,ts]/\Z7 H' ts (st.reverse.map Wz)/\Ch rows gs par st q w/\st.length+dep par=dep q+1,
    fun σ' H' ⟨st,ts,a1,a2,a3,a4,a5,a6⟩=>⟨dep par,by omega,par,st,ts,v',rfl,h4,hv',a1,a2,a3,a4,a5,a6⟩,?_⟩
   have s4:Same H (upd Ha lt (.lst (ts++[V.ref tt]))):=Yb hltn sa;refine⟨_,rfl,lt,_,rfl,hta,_,rfl,_,hta,by omega,?_⟩;refine⟨_,rfl,_,rfl,tt,_,_,_,rfl,rfl,SqT.of (s4 _ _ h2),rfl,t,v',rfl,hv'▸get s4 par,(par,some n) :: st,ts++[V.ref tt],rfl,s4,Ze,?_,.step h5 hch,?_⟩
   ·rw[zyy,zwv];exact(htl.mono fun c xs e=>by rw[Zh (Y6 e hta (fun z=>nomatch z))];exact e).snoc (s4 _ _ h2)
   ·rw[zw9];omega
abbrev Ab:Stmt:=top 46
theorem Oh:#[p,["may","given","place","taken","into","reached","number"],["may","given","place"],Ab]:=fnS
theorem zh9(F:#[i,"chain","chain",Ab])(T:#[k])(zo7:#[T,P,w,K,"places_taken",1,["given"],Bt])(zpg:#[T,P,w,K,"steps_into",1,["may","taken","start"],zck])(zqt:#[T,P,w,K,"free_referee",1,["numbers","taken"],Cs])(zss:#[T,P,w,K,"traced",1,["into","place","number"],zal]):FnOk P w K mg base #[f] 2 f fd ["may","given","place"] (Br K):=by
 refine #[n,Oh];obtain⟨l,lg,ls,rows,nu,gs,p,rfl,hl,il,mo,hg,FP,hp,hgp,h⟩:=h;refine⟨_,(Zb (pS 3 Oh.nd (pF zo7 hr (Za (pv 1) Zc)))
 (Zb (pS 4 Oh.nd (pF zpg hr (Za (pv 0) (Za (pv 3) (Za (pv 2) Zc)))))
 (Zb (Yi PassesOwn.leaving rfl (zdt (pv 4)) (pN 5 Oh.nd)
  (Zb (pS 6 Oh.nd (pF zqt hr (Za (pI (iL K) (pv 0) (pv 5)) (Za (pv 3) Zc))))
  (Zd (Zy (Zo Vs (pv 6) Yn (Zq _))
   (Zd (Zl (pF zss hr (Za (pv 4) (Za (pv 5) (Za (pv 6) Zc))))))
   Zp))))
 (Zd (Zl (pF zss hr (Za (pv 4) (Za (Zk (zfd rfl) (by rfl) T.zto PyProof.Rows.boot_max (Za (pv 4) Zc)) (Za Yn Zc))))))))),?_⟩
 have hrl:rows.length<=100:=zw4 mo.few ⋯;refine⟨_,rfl,lg,gs,rfl,hg,FP.one,FP.inj,by rw[FP.len];exact hrl,fun d kvs H1 hd1 tk s1 hdn=>?_⟩;refine⟨_,rfl,_,rfl,_,rfl,l,d,ls,rows,kvs,gs,p,rfl,s1 _ _ hl,il.same s1,hrl,hd1,tk,FP,hp,fun t into line dep fr H2 ht io B Dn fo hlt s2 htn=>?_⟩;have hbound:line.length<=rows.length:=by
  have:=B.nodup.length_le_of_subset (l₂:=List.range rows.length) fun c hcc=>zxr.mpr (hlt c hcc);rw[zxo] at this;exact this
 have hd2:=s2 _ _ hd1;have s02:=s1.trans s2;have hfree:∀ q n,(∃ r,rows[q]?=some r/\n∈r)->valV kvs (inl n:Key)=none->Oa rows gs q n:=fun q n hr hv=>⟨hr,fun j hj=>by rw[tk.has n j hj] at hv;cases hv⟩
 have hdep:∀ q∈line,dep q<=100:=fun q hq=>by
  obtain⟨pre,hc,hlp⟩:=fo.back B.d0 (dep q) q q none [(q,none)] rfl hq (.one q none);have nd:=hc.nodup fun k hk=>by
   rw[zwr,hlp];have:=(B.full Dn hk).2;show dep q+1<=k+1;omega
  have hlt':=hc.lt FP hp;have:=nd.length_le_of_subset (l₂:=List.range rows.length) fun x hx=>by
   obtain⟨s,hs,rfl⟩:=zwx.mp hx;exact zxr.mpr (hlt' s hs)
  rw[zwo,zxo,zwr,hlp] at this;omega
 have htH:H t=none:=s1.free htn;refine#[Y,_,t,into,ht,fun o=>?_];have e0:upd H2 t (.frz o (.dK into)) t=some (.frz o (.dK into)):=Ze;have s3:Same H (upd H2 t (.frz o (.dK into))):=Yb htH s02;have hd3:upd H2 t (.frz o (.dK into)) d=#[b,.dK,kvs]:=by rw[Zh (Zg hd1 htn)];exact hd2
 have io3:Wj (upd H2 t (.frz o (.dK into))) into line fr:=io.mono fun c xs e=>by rw[Zh (Y6 e ht (fun z=>nomatch z))];exact e
 generalize upd H2 t (.frz o (.dK into))=H3 at e0 s3 hd3 io3;have hil:into.length=line.length:=io.len;have key:∀ (i:Nat) (k:Key) (v:V),into[i]?=some (k,v)->∃ q:Nat,line[i]?=some q/\k=inl (q:Int):=fun i k v e=>by
  have:=congrArg (·[i]?) io.keys;simp only[zws,e,zxv] at this;cases hq:line[i]? with
  | none=>rw[hq] at this;cases this
  | some q=>rw[hq] at this;exact#[q,q,Option.some.inj this]
 let jv4:Nat->L2.St->Hp->Prop:=fun i σ' H'=>(∃ u v,σ'=[some (.ref l),some (.ref lg),some (.int p),some (.ref d),some (.ref t),u,v])/\H'=H3/\∀ (j q:Nat),j<i->line[j]?=some q->¬ X2 rows gs q
 refine zak (a:=t) (o:=o) (kvs:=into) jv4 #[q,#[L,none,none],fun j q hj=>absurd hj (zyc _)] (fun i σ' H' _ p=>by rw[p.2.1];exact e0) (fun i k v σ' H' hk hP=>?_) fun σ' H' hP=>?_
 ·obtain⟨⟨u,v',rfl⟩,rfl,hno⟩:=hP;obtain⟨q,hq,rfl⟩:=key i k v hk;have hqm:=zww hq;have hqr:rows[q]?=some (rows[q]'(hlt q hqm)):=zwp (hlt q hqm);generalize (rows[q]'(hlt q hqm))=r at hqr;obtain⟨lr,e2,e3⟩:=il.getR hqr;have hl':(ls.map V.ref)[q]?=#[c,lr]:=by rw[zws,e2];rfl
  refine⟨_,rfl,_,rfl,l,_,_,_,rfl,rfl,#[F,s3,hl],Zz hl',_,rfl,lr,d,r,kvs,rfl,s3 _ _ e3,hd3,fun w hw1 hw2=>?_⟩;walk_at "if";refine Y9 (b:=!decide (oV w=.non)) (fun Q k=>⟨_,rfl,rfl,_,rfl,k⟩) ?_;cases w with
  | none =>
    refine iteF (Zu #[q,#[L,_,_],fun j q2 hj hq2=>?_]);by_cases e:j=i
    ·rw[e,hq] at hq2;cases hq2;rintro⟨n,⟨r2,h1,h2⟩,h3⟩;rw[hqr] at h1;cases h1;have:=hw2 rfl n h2;rw[tk.not n h3] at this;cases this
    ·exact hno j q2 ⋯ hq2
  | some n =>
    obtain⟨hn1,hn2⟩:=hw1 n rfl;refine iteT ⟨_,rfl,_,rfl,_,rfl,t,q,p,some n,rows,gs,into,line,dep,fr,rfl,.inr ⟨o,e0⟩,io3,fo,B.d0,B.memp,hqm,hdep q hqm,fun lt ts st H4 h1 h2 h3 h4 s4 hltn=>?_⟩;have hf:=hfree q n ⟨r,hqr,hn1⟩ hn2;have Di:Done rows gs line dep i:=fun j x hj=>Dn j x (Nat.lt_trans hj (zwq.mp hq).1);exact h lt ts st q (some n) H4 h1 h2 (zch B Di hq hno hf h3 h4) (s3.trans s4) (s3.free hltn)
 ·obtain⟨⟨u,v',rfl⟩,rfl,hno⟩:=hP;have hpos:0<line.length:=List.length_pos_of_mem B.memp;refine#[q,_,⟨_,rfl,t,into,line.map fun q:Nat=>(q:Int),rfl,.inr ⟨o,e0⟩,by rw[io.keys,zxt];rfl,by rw[zwo];exact hpos,fun M hM hmax=>?_⟩];obtain⟨e,he,rfl⟩:=zwx.mp hM;refine⟨t,e,p,none,rows,gs,into,line,dep,fr,rfl,.inr ⟨o,e0⟩,io3,fo,B.d0,B.memp,he,hdep e he,fun lt ts st H4 h1 h2 h3 h4 s4 hltn=>?_⟩;refine h lt ts st e none H4 h1 h2 (zci B Dn (fun q hq=>?_) (fun q hq=>?_) h3 h4) (s3.trans s4) (s3.free hltn)
  ·obtain⟨j,hj,e2⟩:=zxq hq;exact hno j q ⋯ (by rw[zwp hj,e2])
  ·have:=hmax _ (zwx.mpr #[L,q,hq]);omega
abbrev K0:Stmt:=top 47
theorem Q5:#[p,["given","steps","behind","place","number"],["given","steps"],K0]:=fnS
theorem zc3(F:#[i,"stepped","stepped",K0])(T:#[k]):FnOk P w K mg base #[f] 1 f fd ["given","steps"] (R1 K):=by
 refine #[n,Q5];obtain⟨b,c,xs,ts,st,rfl,hb,hc,ht,hst,ho,hl,hls,h⟩:=h;refine⟨_,(Zb (pS 2 Q5.nd (Yx (Y0 (K:=K) rfl) (by rfl) T.zo3 PyProof.Rows.boot_list (Za (pv 0) Zc)))
 (Zb (Yi PassesOwn.leaving rfl (Z8 (K:=K) rfl (pv 1)) (Wb (K:=K) (n:=2) rfl rfl (Z0 (pN 3 Q5.nd) (Z0 (pN 4 Q5.nd) X9)))
  (Zd (Qg (pv 4) (zbz (pv 2) (pv 3) Gg))))
 (Zd (Zl (pv 2))))),?_⟩
 have htl:ts.length=st.length:=by have:=ht.length;rw[zwo] at this;exact this
 refine#[Y,_,b,_,#[t,hb],fun l hln=>?_]
 let jv5:Nat->L2.St->Hp->Prop:=fun i σ' H'=>(∃ u v,σ'=[some (.ref b),some (.ref c),some (.ref l),u,v])/\H' l=#[r,Yj (st.take i) xs]/\(∀ a o,H a=some o->H' a=some o)
 refine⟨_,rfl,c,rfl,⟨ts,SqL.of (Zj hln _ _ hc)⟩,Xd (xs:=ts) jv5 ⟨#[L,none,none],Ze,Zj hln⟩ (fun i σ' H' hi p=>#[F,p.2.2,hc]) (fun i x σ' H' hx p=>?_) fun σ' H' p=>?_⟩
 ·obtain⟨⟨u,v,rfl⟩,hl2,hs⟩:=p;have hi:i<st.length:=by rw[<- htl];exact(zwq.mp hx).1
  obtain⟨t,e1,e2⟩:=zdq ht (zwp hi);rw[hx] at e1;cases e1;refine⟨t,_,rfl,SqT.of (hs _ _ e2),rfl,_,_,rfl,_,_,rfl,rfl,?_⟩;have hlen:(Yj (st.take i) xs).length=xs.length:=Wd _ _;have hp:(st[i]'hi).1<xs.length:=hst _ (zxd hi);have e3:Yj (st.take (i+1)) xs=(Yj (st.take i) xs).set (st[i]'hi).1 (oV (st[i]'hi).2):=by
   rw[zw8 hi,Kk];rfl
  refine⟨_,rfl,_,rfl,_,rfl,l,_,_,(st[i]'hi).1,rfl,rfl,hl2,(show ixN _ (((st[i]'hi).1:Nat):Int)=some _ by unfold ixN;rw[if_pos ⋯,if_pos ⋯,zw3]),#[L,_,_],?_,fun a o q=>?_⟩
  ·rw[e3];exact Ze
  ·rw[Zh (Zg q hln)];exact hs a o q
 ·obtain⟨⟨u,v,rfl⟩,hl2,hs⟩:=p;rw[htl,zw6] at hl2;exact#[q,_,h l H' hl2 hs hln]
abbrev zc4:Stmt:=top 49
theorem Hm:#[p,["may","given","place"],["may"],zc4]:=fnS
theorem zjr(F:#[i,"fill","fill",zc4])(T:#[k])(zpx:#[T,P,w,K,"stepped",1,["given","steps"],R1])(zse:#[T,P,w,K,"chain",2,["may","given","place"],Br]):FnOk P w K mg base #[f] 3 f fd ["may"] (zg3 K):=by
 refine #[n,Hm];obtain⟨l,ls,rows,nu,rfl,hl,il,mo,h⟩:=h;refine⟨_,(Zb (Td (i:=1) Hm.nd rfl rfl rfl (cT [] []) (Z8 (K:=K) rfl (pv 0)) (fun _ _ _ _ _=>Vg) fun _ _ _ _ _=>Yn)
 (Zb (Yi PassesOwn.leaving rfl (Yw rfl T.zoq (Za (Zk (cL K) (by rfl) T.zoa PySem.boot_len (Za (pv 0) Zc)) Zc)) (pN 2 Hm.nd)
  (Zd (pS 1 Hm.nd (pF zpx hr (Za (pv 1) (Za (pF zse hr (Za (pv 0) (Za (pv 1) (Za (pv 2) Zc)))) Zc))))))
 (Zd (Zl (pv 1))))),?_⟩
 have hlen:=il.length;have hrl:rows.length<=100:=zw4 mo.few ⋯;refine⟨_,rfl,l,rfl,⟨_,SqL.of hl⟩,?_⟩;refine X5 (K:=K) (a:=l) (xs:=ls.map V.ref) (fun i ys H'=>H'=H/\ys=(rows.take i).map fun _=>V.non) ⟨rfl,by simp⟩ (fun i ys H' _ z=>by rw[z.1];exact SqL.of hl) (szN (by rw[zwo];omega)) (fun i ys H' z=>by rw[z.2,zwo,zy0];omega) ?_ ?_
 ·rintro i x ys H' hx ⟨rfl,rfl⟩;have hi:i<rows.length:=by
   have:=(zwq.mp hx).1;rw[zwo] at this;omega
  unfold tYes;dsimp only;rw[#[P]];refine⟨rfl,?_⟩;rw[zw8 hi,zwv];rfl
 ·rintro ys H' ⟨rfl,rfl⟩ lg hlg;rw[zwo,hlen,zw6];refine #[z,lg,hlg,fun H1 e1 s1=>?_];refine⟨_,rfl,l,_,rfl,#[t,s1 _ _ hl],_,rfl,by omega,by rw[zwo];omega,?_⟩;rw[zwo,hlen,zw3]
  let jv6:Nat->L2.St->Hp->Prop:=fun i σ' Hx=>∃ (lg:Addr) (gs:List V) (v2:Option V),σ'=[#[c,l],#[c,lg],v2]/\Same H' Hx/\Hx lg=#[r,gs]/\Tu rows gs i/\H' lg=none
  refine Xb jv6 ⟨lg,_,_,rfl,s1,e1,E2 rows,hlg⟩ ?_ ?_
  ·rintro i σ' Hx hi ⟨lg,gs,v2,rfl,sx,hgx,F,hn⟩;rw[zxz];refine#[q,_,⟨_,rfl,_,rfl,_,rfl,l,lg,ls,rows,nu,gs,i,rfl,sx _ _ hl,il.same sx,mo,hgx,F.fill,hi,F.non (zw1 _) hi,fun lt ts st e w H2 h1 h2 c s2 hltn=>?_⟩];refine⟨lg,lt,gs,ts,st,rfl,s2 _ _ hgx,h1,h2,fun s hs=>?_,F.fill.one,by rw[F.fill.len];omega,?_,fun l' H3 h3 s3 hl'=>?_⟩
   ·rw[F.fill.len];exact c.ch.lt F.fill hi s hs
   ·have:=c.len F.fill hi;omega
   ·exact⟨l',_,_,rfl,(sx.trans s2).trans s3,h3,F.step hi c,(sx.trans s2).free hl'⟩
  ·rintro σ' Hx ⟨lg,gs,v2,rfl,sx,hgx,F,hn⟩;exact#[q,_,h lg gs Hx hgx F.fill F.last sx hn]
abbrev Sj:Stmt:=top 50
theorem Ia:#[p,["given"],["given"],Sj]:=fnS
theorem Ib(F:#[i,"left_without","left_without",Sj])(T:#[k]):FnOk P w K mg base #[f] 1 f fd ["given"] (zg2 K):=by
 refine #[n,Ia];obtain⟨b,xs,rfl,hb,ho,hl,h⟩:=h;refine⟨_,Zd (Zl (Le rfl (Nj.mk (xo:=["place","number"]) (ys:=[]) (js:=[]) rfl rfl ⋯ ⋯ rfl (by repeat' (first|exact True.intro|apply And.intro|rfl)) (by repeat' (first|exact True.intro|apply And.intro|rfl)) ⋯) (zds (K:=K) rfl rfl T.zq6 (Za (pv 0) Zc)) (fun _ _ _ _ _=>Qi (Zo Ra (pv 1) Yn (Zq _))) (fun _ _ _ _ _=>(Wb (K:=K) (n:=2) rfl rfl (Z0 (V6 (i:=0) (show List.Nodup [("place":Str),("number":Str)] by decide +kernel) rfl (by first|exact Or.inl rfl|exact Or.inr rfl)) (Z0 (V6 (i:=1) (show List.Nodup [("place":Str),("number":Str)] by decide +kernel) rfl (by first|exact Or.inl rfl|exact Or.inr rfl)) X9)))) fun _ _ _ _ _=>(pv 0))),?_⟩;refine⟨_,rfl,b,rfl,⟨_,SqL.of hb⟩,zcj (fun i=>#[g,xs[i]?=some .non]) (fun i=>.int (i:Nat)) ⋯ (SqL.of hb) (fun i x t H' N ys hx hs ht k=>?_) fun H' l hs hl'=>?_⟩
 ·refine⟨t,_,rfl,SqT.of Ze,rfl,?_⟩;have k':=k _ (hs.trans (Zj (o:=.tup [.int (i:Nat),x]) ht));refine⟨_,_,rfl,_,_,rfl,rfl,#[q,[#[e,(i:Nat)],some x],rfl],?_⟩;rw[hx] at k';have e2:#[g,some x=some V.non]=#[g,x=V.non]:=by
   by_cases z:x=V.non
   ·rw[zwu z,zwu (congrArg some z)]
   ·rw[zwz z,zwz fun q=>z (Option.some.inj q)]
  rw[e2] at k';refine⟨_,rfl,rfl,_,rfl,?_⟩;by_cases z:x=V.non
  ·rw[zwu z] at k' ⊢;exact#[q,_,k']
  ·rw[zwz z] at k' ⊢;exact k'
 ·exact h l _ Ze (hs.trans (Zj hl')) (hs.free hl')
abbrev Mm:Stmt:=top 51
theorem zbn:#[p,["given","number"],["given","number"],Mm]:=fnS
theorem zbo(F:#[i,"place_of","place_of",Mm])(T:#[k]):FnOk P w K mg base #[f] 1 f fd ["given","number"] (Cn K):=by
 refine #[n,zbn];obtain⟨b,xs,n,rfl,hb,ho,hl,h⟩:=h;refine⟨_,Zd (Zl (As (Zo (N1 (K:=K) rfl) (pv 1) (pv 0) (by with_unfolding_all rfl)) (zdg PySem.F.plainAttrs_list PySem.F.slot_list_index PySem.F.type_list_index Gn (pv 0) (Za (pv 1) Zc)) Yn)),?_⟩;have fl:xs.all Tb=true:=zyb.mpr fun x hx=>by rcases ho x hx with rfl|⟨_,rfl⟩<;>rfl
 refine⟨_,rfl,_,rfl,b,xs,rfl,#[t,hb],rfl,fl,_,rfl,?_⟩;have key:=@R4 xs n ho;show if inV (V.int n) xs=true then _ else _
 cases hp:Wh xs n with
 | none =>
   rw[hp] at h;have hno:¬ inV (V.int n) xs=true:=fun z=>by
    obtain⟨j,hj⟩:=key.mp z;have:=List.find?_eq_none.mp hp j (zxr.mpr (zwq.mp hj).1);exact this (zwu hj)
   rw[#[h,hno]];exact h H (Same.refl H)
 | some j =>
   rw[hp] at h;obtain⟨h1,h2,h3⟩:=List.find?_range_eq_some.mp hp;have hj:xs[j]?=#[e,n]:=of_decide_eq_true h1;rw[if_pos (key.mpr ⟨j,hj⟩)];refine⟨_,rfl,?_,_,rfl,b,xs,.int n,j,rfl,rfl,hb,rfl,fl,⟨_,hj,(Qn (.inr ⟨_,rfl⟩)).mpr rfl⟩,fun m z hm hz=>?_,h H (Same.refl H)⟩
   ·exact .inl ⟨rfl,xs,SqL.of hb⟩
   ·have:=h3 m hm;have hne:¬ z=.int n:=fun q=>by
     rw[q] at hz;rw[zwu hz] at this;cases this
    cases hb2:eqV z (.int n) with
    | false=>rfl
    | true=>exact absurd ((Qn (ho z (zww hz))).mp hb2) hne
abbrev Mn:Stmt:=top 53
theorem Ve:#[p,["may","given","taken","places","gap","referees","place","number"],["may","given"],Mn]:=fnS
theorem zbp(F:#[i,"shortage","shortage",Mn])(T:#[k])(zo7:#[T,P,w,K,"places_taken",1,["given"],Bt])(zq1:#[T,P,w,K,"left_without",1,["given"],zg2])(zpg:#[T,P,w,K,"steps_into",1,["may","taken","start"],zck]):FnOk P w K mg base #[f] 2 f fd ["may","given"] (zdw K):=by
 refine #[n,Ve];obtain⟨l,lg,ls,rows,nu,gs,rfl,hl,il,mo,hg,FP,NA,h⟩:=h;have hu:=Xy hr;refine⟨_,(Zb (pS 2 Ve.nd (pF zo7 hr (Za (pv 1) Zc)))
 (Zb (pS 3 Ve.nd T4)
 (Zb (Yi PassesOwn.leaving rfl (Z8 (K:=K) rfl (pF zq1 hr (Za (pv 1) Zc))) (pN 4 Ve.nd)
  (Zd (Ya (zdg PySem.F.plainAttrs_dict PySem.F.slot_dict_update PySem.F.type_dict_update zfg (pv 3) (Za (pF zpg hr (Za (pv 0) (Za (pv 2) (Za (pv 4) Zc)))) Zc)))))
 (Zb (pS 5 Ve.nd T4)
 (Zb (Yi PassesOwn.leaving rfl (zdt (pv 3)) (pN 6 Ve.nd)
  (Zd (Yi PassesOwn.leaving rfl (Z8 (K:=K) rfl (pI (iL K) (pv 0) (pv 6))) (pN 7 Ve.nd)
   (Zd (Ym hu (pv 5) (pv 7) Yr rfl)))))
 (Zd (Zl (Yc (Za (Zk (Qp rfl) (by rfl) T.zsa PyProof.Rows.boot_sorted (Za (pv 3) Zc)) (Za (Zk (Qp rfl) (by rfl) T.zsa PyProof.Rows.boot_sorted (Za (pv 5) Zc)) Zc)))))))))),?_⟩
 have hrl:rows.length<=100:=zw4 mo.few ⋯;have hgl:gs.length<=100:=by rw[FP.len];exact hrl
 have line0:1000<sizeLine:=X4 ⋯;refine⟨_,rfl,lg,gs,rfl,hg,FP.one,FP.inj,hgl,fun d kvs H1 hd1 tk s1 hdn=>?_⟩;intro lp hlp;refine #[z,lp,hlp,fun H2 e2 s2=>?_];have hlpn:H lp=none:=s1.free hlp;have npd:lp≠d:=Ne.symm (Zg hd1 hlp);have s02:=s1.trans s2;have hd2:=s2 _ _ hd1;have hlft:=@T8 gs;refine⟨_,rfl,lg,gs,rfl,s02 _ _ hg,FP.one,hgl,fun ln H3 hln s3 fln=>?_⟩;refine⟨ln,rfl,⟨_,SqL.of hln⟩,?_⟩;have nln:ln≠lp:=Ne.symm (Zg e2 fln);have hbound:∀ line:#[B],line.Nodup->(∀ c∈line,c<rows.length)->line.length<=rows.length:=fun line nd hc=>by
  have:=#[aD,zxr.mpr (hc c hcc)];rw[zxo] at this;exact this
 have hwlt:∀ g q k,g<rows.length->#[W,g,q,k]->q<rows.length:=fun g q k hg' hw=>by
  cases hw with
  | nil=>exact hg'
  | snoc _ a=>rw[<- FP.len];exact(zwq.mp a.2).1
 refine Xd (K:=K) (a:=ln) (xs:=(W8 gs).map fun i=>V.int (i:Nat)) (fun i σ' H'=>∃ (v4:Option V) (kp:List (Key×V)) (pl:List Nat),σ'=[#[c,l],#[c,lg],#[c,d],#[c,lp],v4,none,none,none]/\#[j]/\(∀ b o,H3 b=some o->b≠lp->H' b=some o)/\H' lp=#[b,.dK,kp]/\kp.map (·.1)=pl.map (fun q:Nat=>(inl (q:Int):Key))/\pl.Nodup/\∀ q,q∈pl↔∃ g k,g∈(W8 gs).take i/\#[W,g,q,k])
  ⟨_,[],[],rfl,s02.trans s3,fun _ _ e _=>e,s3 _ _ e2,rfl,zyo,by simp⟩ (by rintro i σ' H' _ ⟨_,_,_,_,_,z,_⟩;exact SqL.of (z _ _ hln nln)) ?_ ?_
 ·rintro i x σ' Ha hx ⟨v4,kp,pl,rfl,sa,k3,hpa,kk,nd,mem⟩;have hi:i<(W8 gs).length:=by have:=(zwq.mp hx).1;rw[zwo] at this;exact this
  have etk:(W8 gs).take (i+1)=(W8 gs).take i++[(W8 gs)[i]'hi]:=zw8 hi;have hgm:(W8 gs)[i]'hi∈W8 gs:=zxd hi;have ex:x=.int (((W8 gs)[i]'hi:Nat):Int):=by rw[zws,zwp hi] at hx;exact(Option.some.inj hx).symm
  generalize ((W8 gs)[i]'hi)=g at etk hgm ex;subst ex;have hgr:g<rows.length:=by rw[<- FP.len];exact(zwq.mp (T8.mp hgm)).1
  have hda:=k3 _ _ (s3 _ _ hd2) (Ne.symm npd);have hkl:kp.length<=100:=by
   have:=congrArg List.length kk;rw[zwo,zwo] at this;rw[this];refine zw4 (hbound pl nd fun q hq=>?_) hrl;obtain⟨g',k,h1,h2⟩:=(mem q).mp hq;refine hwlt g' q k ?_ h2;rw[<- FP.len];exact(zwq.mp (T8.mp (zyp h1))).1
  refine⟨_,rfl,.inr (.inr (.inl ⟨rfl,#[M,_,hpa]⟩)),_,rfl,_,rfl,_,rfl,l,d,ls,rows,kvs,gs,g,rfl,sa _ _ hl,il.same sa,hrl,hda,tk,FP,hgr,fun t into line dep fr Hb ht io B Dn fo hlt sb htn=>?_⟩;have hll:=hbound line B.nodup hlt;have hil:=io.len;have hpb:=sb _ _ hpa;refine⟨lp,t,kp,into,rfl,rfl,Zg hpa htn,hpb,ht,by omega,?_⟩;have kb:∀ b o,H3 b=#[d]->b≠lp->upd Hb lp (.dK (Vl kp into)) b=#[d]:=fun b o e n=>by rw[Zh n];exact sb _ _ (k3 b o e n)
  refine⟨_,Vl kp into,Ct pl line,rfl,Yb hlpn (sa.trans sb),kb,Ze,Gu znf kk io.keys,Jk nd,fun q=>?_⟩;rw[Cu,mem,etk];constructor
  ·rintro(⟨g',k,h1,h2⟩|hq)
   ·exact⟨g',k,zxa _ h1,h2⟩
   ·exact⟨g,dep q,by simp,B.walk q hq⟩
  ·rintro⟨g',k,h1,h2⟩;rcases zw0.mp h1 with z|z
   ·exact .inl ⟨g',k,z,h2⟩
   ·rw[zwt.mp z] at h2;exact .inr (B.full Dn h2).1
 ·rintro σ' Ha ⟨v4,kp,pl,rfl,sa,k3,hpa,kk,nd,mem⟩;rw[zwo,zw6] at mem;have mem:∀ q,q∈pl↔∃ g k,gs[g]?=some .non/\#[W,g,q,k]:=fun q=>by
   rw[mem q];exact⟨fun ⟨g,k,a,b⟩=>⟨g,k,T8.mp a,b⟩,fun ⟨g,k,a,b⟩=>⟨g,k,T8.mpr a,b⟩⟩
  have hplt:∀ q∈pl,q<rows.length:=fun q hq=>by
   obtain⟨g,k,h1,h2⟩:=(mem q).mp hq;exact hwlt g q k (by rw[<- FP.len];exact(zwq.mp h1).1) h2
  have hpl20:pl.length<=20:=zw4 (hbound pl nd hplt) mo.few;intro lr hlr;refine #[z,lr,hlr,fun H5 e5 SH5=>?_];have s5:=sa.trans SH5;have hp5:=SH5 _ _ hpa;have nlr:lr≠lp:=Ne.symm (Zg hpa hlr);have hlrn:H lr=none:=sa.free hlr;refine#[Y,_,lp,kp,hp5,fun o=>?_];have e6:upd H5 lp (.frz o (.dK kp)) lp=some (.frz o (.dK kp)):=Ze;have r6:upd H5 lp (.frz o (.dK kp)) lr=#[b,.dK,[]]:=by rw[Zh nlr];exact e5
  have s6:Same H (upd H5 lp (.frz o (.dK kp))):=Yb hlpn s5;generalize upd H5 lp (.frz o (.dK kp))=H6 at e6 r6 s6;have key:∀ (i:Nat) (k:Key) (v:V),kp[i]?=some (k,v)->∃ q:Nat,pl[i]?=some q/\k=inl (q:Int):=fun i k v e=>by
   have:=congrArg (·[i]?) kk;simp only[zws,e,zxv] at this;cases hq:pl[i]? with
   | none=>rw[hq] at this;cases this
   | some q=>rw[hq] at this;exact#[q,q,Option.some.inj this]
  have hkpl:kp.length=pl.length:=by have:=congrArg List.length kk;rw[zwo,zwo] at this;exact this
  have rbound:∀ rl:#[o],rl.Nodup->(∀ n∈rl,n∈nu)->rl.length<=30:=fun rl n1 n2=>zw4 (n1.length_le_of_subset n2) mo.crowd
  let jv7:Nat->L2.St->Hp->Prop:=fun i σ' H'=>∃ (v6 v7:Option V) (kr:List (Key×V)) (rl:List Int),σ'=[#[c,l],#[c,lg],#[c,d],#[c,lp],v4,#[c,lr],v6,v7]/\#[j]/\H' lp=some (.frz o (.dK kp))/\H' lr=#[b,.dK,kr]/\kr.map (·.1)=rl.map (inl:Int->Key)/\rl.Nodup/\∀ n,n∈rl↔∃ p∈pl.take i,∃ r,rows[p]?=some r/\n∈r
  refine zak (a:=lp) (o:=o) (kvs:=kp) jv7
   ⟨_,_,[],[],rfl,s6,e6,r6,rfl,zyo,by simp⟩ (by rintro i σ' H' _ ⟨_,_,_,_,_,_,z,_⟩;exact z) (fun i k v σ' Hc hk hP=>?_) (fun σ' Hc hP=>?_)
  ·obtain⟨v6,v7,kr,rl,rfl,sc,hpc,hrc,kkr,ndr,memr⟩:=hP;obtain⟨q,hq,rfl⟩:=key i k v hk;have hqm:=zww hq;have hi:i<pl.length:=(zwq.mp hq).1;have etk:pl.take (i+1)=pl.take i++[q]:=by
    rw[zw8 hi];rw[zwp hi] at hq;rw[Option.some.inj hq]
   have hqr:rows[q]?=some (rows[q]'(hplt q hqm)):=zwp (hplt q hqm);have hrm:rows[q]'(hplt q hqm)∈rows:=zxd _;generalize (rows[q]'(hplt q hqm))=r at hqr hrm;obtain⟨lq,e2',e3⟩:=il.getR hqr;have hl':(ls.map V.ref)[q]?=#[c,lq]:=by rw[zws,e2'];rfl
   refine⟨_,rfl,_,rfl,l,_,_,_,rfl,rfl,#[F,sc,hl],Zz hl',lq,rfl,⟨_,SqL.of (sc _ _ e3)⟩,?_⟩
   let jv8:Nat->L2.St->Hp->Prop:=fun j σ' H'=>∃ (v7:Option V) (kr:List (Key×V)) (rl:List Int),σ'=[#[c,l],#[c,lg],#[c,d],#[c,lp],v4,#[c,lr],#[e,(q:Nat)],v7]/\#[j]/\H' lp=some (.frz o (.dK kp))/\H' lr=#[b,.dK,kr]/\kr.map (·.1)=rl.map (inl:Int->Key)/\rl.Nodup/\∀ n,n∈rl↔(∃ p∈pl.take i,∃ r,rows[p]?=some r/\n∈r)\/n∈r.take j
   refine Xd (K:=K) (a:=lq) (xs:=r.map V.int) jv8
    ⟨_,kr,rl,rfl,sc,hpc,hrc,kkr,ndr,fun n=>by rw[memr];simp⟩ (by rintro j σ' H' _ ⟨_,_,_,_,z,_⟩;exact #[F,z,e3]) ?_ ?_
   ·rintro j y σ' Hd hy ⟨w7,kr,rl,rfl,sd,hpd,hrd,kkr,ndr,memr⟩;have hj:j<r.length:=by have:=(zwq.mp hy).1;rw[zwo] at this;exact this
    have hrj:r[j]?=some (r[j]'hj):=zwp hj;have etj:r.take (j+1)=r.take j++[r[j]'hj]:=zw8 hj;generalize (r[j]'hj)=n at hrj etj;have ey:y=.int n:=by rw[zws,hrj] at hy;exact(Option.some.inj hy).symm
    subst ey;have hsub:∀ m∈rl,m∈nu:=fun m hm=>by
     rcases(memr m).mp hm with ⟨p,_,r',h1,h2⟩|h1
     ·exact(mo.sub r' (zww h1)).2 m h2
     ·exact(mo.sub r hrm).2 m (zyp h1)
    have hkr:kr.length<=30:=by
     have:=congrArg List.length kkr;rw[zwo,zwo] at this;rw[this];exact rbound rl ndr hsub
    refine⟨_,rfl,_,rfl,lr,_,rfl,DPut.k (k:=inl n) hrd ⋯,_,putK kr (inl n) (.bl true),Gq rl n,rfl,Yb hlrn sd,by rw[Zh (Ne.symm nlr)];exact hpd,Ze,Gs zmt kkr n _,N5 ndr,fun m=>?_⟩;rw[Gv,memr,etj,zw0,zwt,or_assoc]
   ·rintro σ' Hd ⟨w7,kr,rl,rfl,sd,hpd,hrd,kkr,ndr,memr⟩;rw[zwo,zw6] at memr;refine⟨_,_,kr,rl,rfl,sd,hpd,hrd,kkr,ndr,fun n=>?_⟩;rw[memr,etk];constructor
    ·rintro(⟨p,h1,h2⟩|h1)
     ·exact⟨p,zxa _ h1,h2⟩
     ·exact⟨q,by simp,r,hqr,h1⟩
    ·rintro⟨p,h1,r',h2,h3⟩;rcases zw0.mp h1 with z|z
     ·exact .inl ⟨p,z,r',h2,h3⟩
     ·rw[zwt.mp z,hqr] at h2;cases h2;exact .inr h3
  ·obtain⟨v6,v7,kr,rl,rfl,sc,hpc,hrc,kkr,ndr,memr⟩:=hP;rw[hkpl,zw6] at memr;have hsub:∀ m∈rl,m∈nu:=fun m hm=>by
    obtain⟨p,_,r',h1,h2⟩:=(memr m).mp hm;exact(mo.sub r' (zww h1)).2 m h2
   have hrl30:=rbound rl ndr hsub;refine⟨_,rfl,lp,kp,pl.map (fun q:Nat=>(q:Int)),rfl,.inr ⟨o,hpc⟩,by rw[kk,zxt];rfl,by rw[zwo];omega,fun l1 pi hl1 p1 p2=>?_⟩;refine #[z,l1,hl1,fun H7 q7 s7=>?_];have hr7:=s7 _ _ hrc;have sc7:=sc.trans s7;refine⟨_,rfl,lr,kr,rl,rfl,.inl hr7,kkr,by omega,fun l2 rs hl2 p3 p4=>?_⟩;obtain⟨ps,rfl,SP⟩:=zhh FP NA nd mem ndr memr p1 p2 p3 p4;refine⟨sz2,fun t ht=>?_⟩;have s8:=Zj (o:=.lst (rs.map V.int)) hl2;have q8:upd H7 l2 (.lst (rs.map V.int)) l2=some (.lst (rs.map V.int)):=Ze;have q78:=s8 _ _ q7;generalize upd H7 l2 (.lst (rs.map V.int))=H8 at s8 q8 q78 ht;have s9:=Zj (o:=.tup [.ref l1,.ref l2]) ht;refine h t l1 l2 ps rs _ Ze (s9 _ _ (by rw[q78];unfold Yf;rw[zxt];rfl)) (s9 _ _ q8) SP (sc7.trans (s8.trans s9)) ((sc7.trans s8).free ht) (sc.free hl1) (sc7.free hl2) (Zg q7 hl2)
abbrev U0:Stmt:=Z5 (top 55) 0
theorem Lp:#[p,["self","listed","lists","given","gaps"],["self","listed","lists","given","gaps"],U0]:=fnS
theorem Lq(F:#[i,"__init__","Sheet.__init__",U0])(T:#[k]):FnOk P w K mg base #[f] 1 f fd ["self","listed","lists","given","gaps"] (Lj (ca a)):=by
 refine #[n,Lp];obtain⟨q,dx,l1,l2,l3,l4,rfl,hq,h⟩:=h;refine⟨_,(Zb (Xk (K:=K) rfl (pv 0) (pv 1) rfl)
 (Zb (Xk (K:=K) rfl (pv 0) (pv 2) rfl)
 (Zb (Xk (K:=K) rfl (pv 0) (pv 3) rfl)
 (Zd (Xk (K:=K) rfl (pv 0) (pv 4) rfl))))),?_⟩
 refine⟨_,rfl,_,rfl,q,a.zn8,dx,[],rfl,hq,T.zof,T.zp9,⋯,?_⟩;refine⟨_,rfl,_,rfl,q,a.zn8,dx,[("listed",.ref l1)],rfl,Ze,T.zof,T.zsw,(by show 1<1000;decide),?_⟩;rw[zng];refine⟨_,rfl,_,rfl,q,a.zn8,dx,_,rfl,Ze,T.zof,T.zqi,(by show 2<1000;decide),?_⟩;rw[znh];refine⟨_,rfl,_,rfl,q,a.zn8,dx,_,rfl,Ze,T.zof,T.zs0,(by show 3<1000;decide),?_⟩;rw[zni];refine h _ ?_;rw[I9,I9,I9];rfl
abbrev Sk:Stmt:=Z5 (top 55) 1
theorem Ie:#[p,["self","lists"],["self","lists"],Sk]:=fnS
theorem Ig(F:#[i,"barred","Sheet.barred",Sk])(T:#[k])(zqh:T6 P w K mg base "Sheet" a.zn8 1 ["self","listed","lists","given","gaps"] (Lj (ca a))):FnOk P w K mg base #[f] 3 f fd ["self","lists"] (zax (ca a)):=by
 refine #[n,Ie];obtain⟨ok,q,l2,ls,rows,s,rfl,SA,hl2,il,ok2,okl,no,h⟩:=h;refine⟨_,Zd (Zl (Bl zqh (hr.mono ⋯) Zn rfl (Za (Zs (K:=K) rfl (pv 0) rfl) (Za (pv 1) (Za #[ae,Zs,0] (Za #[ae,Zs,0] Zc)))))),?_⟩;obtain⟨dx,m1,m2,m3,m4,ts,ms,gts,a1,a2,a3,a4,a5,a6,a7,a8,o1,o2,o3,o4,o5,o6⟩:=id SA;refine⟨_,rfl,q,a.zn8,dx,_,_,rfl,a1,T.zof,T.zp9,R6,_,rfl,_,rfl,q,a.zn8,dx,_,_,rfl,a1,T.zof,T.zqi,R7,_,rfl,q,a.zn8,dx,_,_,rfl,a1,T.zof,T.zs0,Bv,?_⟩;intro q' dx' hq' hdx' ne;refine⟨q',dx',m1,l2,m3,m4,rfl,Ze,fun H' e=>⟨rfl,?_⟩⟩;obtain⟨s1,q1⟩:=N8 (C:=a.zn8) (l1:=m1) (l2:=l2) (l3:=m3) (l4:=m4) hq' hdx' ne;rw[<- e] at s1 q1;exact h q' H' ⟨dx',m1,l2,m3,m4,ts,ls,gts,q1,s1 _ _ a2,a3.same s1,s1 _ _ hl2,il.same s1,s1 _ _ a6,s1 _ _ a7,a8.keep (fun _ _ _ z=>s1 _ _ z) fun _ _ z=>s1 _ _ z,no _ hq',o2,ok2,o4,o5,okl⟩ s1 hq'
abbrev V0:Stmt:=Z5 (top 55) 2
theorem Wl:#[p,["self","number","lists","place","gap","steps"],["self","number","lists"],V0]:=fnS
theorem Nf(F:#[i,"fallen_out","Sheet.fallen_out",V0])(T:#[k])(zpc:Zx P w K mg base a.zn8 "where" 2 #[ad] (Km (ca a)))(zpx:#[T,P,w,K,"stepped",1,["given","steps"],R1])(zse:#[T,P,w,K,"chain",2,["may","given","place"],Br])(zqh:T6 P w K mg base "Sheet" a.zn8 1 ["self","listed","lists","given","gaps"] (Lj (ca a))):FnOk P w K mg base #[f] 3 f fd ["self","number","lists"] (zay (ca a)):=by
 refine #[n,Wl];obtain⟨ok,q,l2,ls,rows,nu,s,n,p,rfl,SA,hl2,il,ok2,okl,no,mo,ho,hgp,hun,FP,hgz,h⟩:=h;refine⟨_,(Zb (pS 3 Wl.nd (Xs (pv 0) T.zof zpc (hr.mono ⋯) Zn (Za (pv 1) Zc)))
 (Zb (pS 4 Wl.nd (pF zpx hr (Za (Zs (K:=K) rfl (pv 0) rfl) (Za (Z6 (Za (Yc (Za (pv 3) (Za Yn Zc))) Zc)) Zc))))
 (Zb (pS 5 Wl.nd (pF zse hr (Za (pv 2) (Za (pv 4) (Za (pv 3) Zc)))))
 (Zd (Zl (Bl zqh (hr.mono ⋯) Zn rfl (Za (Zs (K:=K) rfl (pv 0) rfl) (Za (pv 2) (Za (pF zpx hr (Za (pv 4) (Za (pv 5) Zc))) (Za (Zt Gh (Zs (K:=K) rfl (pv 0) rfl) (Z6 (Za (Yc (Za (pv 1) (Za (pv 5) Zc))) Zc))) Zc)))))))))),?_⟩
 obtain⟨dx,m1,m2,m3,m4,ts,ms,gts,a1,a2,a3,a4,a5,a6,a7,a8,o1,o2,o3,o4,o5,o6⟩:=id SA;have hrl:rows.length<=100:=zw4 mo.few ⋯;have hgl:s.gv.length<=100:=by have:=FP.len;rw[zyj] at this;omega
 have hpl:p<s.gv.length:=(zwq.mp hgp).1;have hpr:p<rows.length:=by have:=FP.len;rw[zyj] at this;omega
 have hplace:Wh s.gv n=some p:=by
  unfold Wh;rw[List.find?_eq_some_iff_getElem];refine⟨zwu hgp,p,by rw[zxo];exact hpl,by rw[List.getElem_range],fun j hj=>?_⟩;rw[List.getElem_range,Bool.not_eq_true',decide_eq_false_iff_not];exact fun z=>absurd (hun j z) ⋯
 refine⟨_,rfl,q,dx,_,rfl,a1,Ti ⋯ ⋯ ⋯ ⋯,_,rfl,ok,q,s,n,rfl,SA,ho,hgl,fun H1 s1=>?_⟩;rw[hplace,show oN (some p)=V.int (p:Nat) from rfl];have SA1:=SA.same s1;refine⟨_,rfl,q,a.zn8,dx,_,_,rfl,s1 _ _ a1,T.zof,T.zqi,R7,_,rfl,sz2,fun t1 ht1=>⟨sz1,fun lx hlx=>?_⟩⟩;have s2:=Zj (o:=.tup [.int (p:Nat),.non]) ht1;have q2:upd H1 t1 (.tup [.int (p:Nat),.non]) t1=some (.tup (Wz (p,none))):=Ze;generalize upd H1 t1 (.tup [.int (p:Nat),.non])=H2 at s2 q2 hlx;refine #[z,lx,hlx,fun H3 q3 s3=>?_];have q23:=s3 _ _ q2;have s13:=s1.trans (s2.trans s3);refine⟨m3,lx,s.gv,[V.ref t1],[(p,none)],rfl,s13 _ _ a6,q3,.cons q23 .nil,fun st hst=>by rw[zwt.mp hst];exact hpl,ho,hgl,by show 1<=100;decide,fun lg H4 hg4 s4 f4=>?_⟩;have s14:=s13.trans s4;have hg4:#[y,H4,lg,s.gv.set p .non]:=hg4;refine⟨_,rfl,_,rfl,_,rfl,l2,lg,ls,rows,nu,s.gv.set p .non,p,rfl,s14 _ _ hl2,il.same s14,mo,hg4,FP,hpr,by rw[zx0 hpl],fun lt us st e w H5 hlt tl CR s5 f5=>?_⟩;have s15:=s14.trans s5;have hst100:st.length<=100:=zw4 (CR.len FP hpr) hrl;refine⟨_,rfl,q,a.zn8,dx,_,_,rfl,s15 _ _ a1,T.zof,T.zp9,R6,_,rfl,_,rfl,_,rfl,lg,lt,s.gv.set p .non,us,st,rfl,s5 _ _ hg4,hlt,tl,fun x hx=>?_,FP.one,by rw[FP.len];exact hrl,hst100,fun l3 H6 h6 s6 f6=>?_⟩
 ·rw[FP.len];exact CR.ch.lt FP hpr x hx
 have s16:=s15.trans s6;refine⟨_,rfl,q,a.zn8,dx,_,_,rfl,s16 _ _ a1,T.zof,T.zs0,Bv,_,rfl,_,rfl,sz2,fun t2 ht2=>⟨sz1,fun ly hly=>?_⟩⟩;have s7:=Zj (o:=.tup [.int n,.ref lt]) ht2;have q7:upd H6 t2 (.tup [.int n,.ref lt]) t2=#[b,.tup,[.int n,.ref lt]]:=Ze;generalize upd H6 t2 (.tup [.int n,.ref lt])=H7 at s7 q7 hly;refine #[z,ly,hly,fun H8 q8 s8=>?_];have q78:=s8 _ _ q7;have s18:=s16.trans (s7.trans s8);refine⟨m4,ly,gts,[V.ref t2],rfl,rfl,s18 _ _ a7,q8,by have:=a8.length;show gts.length+1<=sizeLine;have:=T9;omega,fun l4 hl4=>?_⟩;refine #[z,l4,hl4,fun H9 q9 s9=>?_];have s19:=s18.trans s9;intro q' dx' hq' hdx' ne;refine⟨q',dx',m1,l2,l3,l4,rfl,Ze,fun H' e'=>⟨rfl,?_⟩⟩;obtain⟨s10,q10⟩:=N8 (C:=a.zn8) (l1:=m1) (l2:=l2) (l3:=l3) (l4:=l4) hq' hdx' ne;rw[<- e'] at s10 q10;have s:=s19.trans s10;have s6x:=s7.trans (s8.trans (s9.trans s10));have s5x:=s6.trans s6x;refine h q' st e w H' ⟨dx',m1,l2,l3,l4,ts,ls,gts++[V.ref t2],q10,s _ _ a2,a3.same s,s _ _ hl2,il.same s,s6x _ _ h6,s10 _ _ q9,?_,no _ (s19.free hq'),o2,ok2,no _ (s15.free f6),no _ (s18.free hl4),okl⟩ CR s (s19.free hq');exact(a8.keep (fun _ _ _ z=>s _ _ z) (fun _ _ z=>s _ _ z)).snoc ((s9.trans s10) _ _ q78) (s5x _ _ hlt) (tl.same s5x) (no _ (s14.free f5))
abbrev Tp:Stmt:=Z5 (top 55) 3
theorem K1:#[an,Tp]:=fnS
theorem K2(F:#[i,"matches","Sheet.matches",Tp])(T:#[k]):FnOk P w K mg base #[f] 1 f fd ["self"] (Jl (ca a)):=by
 refine #[n,K1];obtain⟨ok,q,s,rfl,SA,h⟩:=h;refine⟨_,Zd (Zl (Yx (Y0 (K:=K) rfl) (by rfl) T.zo3 PyProof.Rows.boot_list (Za (Zs (K:=K) rfl (pv 0) rfl) Zc))),?_⟩;obtain⟨dx,m1,m2,m3,m4,ts,ms,gts,a1,a2,a3,a4,a5,a6,a7,a8,o1,o2,o3,o4,o5,o6⟩:=id SA;refine⟨_,rfl,q,a.zn8,dx,_,_,rfl,a1,T.zof,T.zp9,R6,m1,_,rfl,#[t,a2],fun l hl=>?_⟩;exact h l ts _ Ze (a3.same (Zj hl)) (Zj hl) hl
abbrev Oi:Stmt:=Z5 (top 55) 5
theorem Ac:#[p,["self","place"],["self","place"],Oi]:=fnS
theorem Ae(F:#[i,"may","Sheet.may",Oi])(T:#[k])(zpj:Zx P w K mg base a.zn8 "check_place" 1 ["self","place"] (Cy (ca a))):FnOk P w K mg base #[f] 2 f fd ["self","place"] (zd1 (ca a)):=by
 refine #[n,Ac];obtain⟨ok,q,s,i,rfl,SA,si,hml,h1,h2⟩:=h;refine⟨_,(Zb (Ya (Xs (pv 0) T.zof zpj (hr.mono ⋯) Zn (Za (pv 1) Zc)))
 (Zd (Zl (Yx (Y0 (K:=K) rfl) (by rfl) T.zo3 PyProof.Rows.boot_list (Za (pI (iL K) (Zs (K:=K) rfl (pv 0) rfl) (pv 1)) Zc))))),?_⟩
 obtain⟨dx,m1,m2,m3,m4,ts,ms,gts,a1,a2,a3,a4,a5,a6,a7,a8,o1,o2,o3,o4,o5,o6⟩:=id SA;refine⟨_,rfl,q,dx,_,rfl,a1,Ti ⋯ ⋯ ⋯ ⋯,_,rfl,ok,q,s,i,rfl,SA,si,?_⟩;refine Bj (fun hc=>h1 hc) fun hc=>?_;obtain⟨k,rfl⟩:∃ k:Nat,i=k:=⟨i.toNat,by omega⟩;have hk:k<s.may.length:=by omega
 have hr':s.may[k]?=some (s.may[k]'hk):=zwp hk;obtain⟨lr,e2,e3⟩:=a5.getR hr';have hl':(ms.map V.ref)[k]?=#[c,lr]:=by rw[zws,e2];rfl
 exact⟨_,rfl,q,a.zn8,dx,_,_,rfl,a1,T.zof,T.zsw,zaw,_,rfl,m2,_,_,_,rfl,rfl,SqL.of a4,Zz hl',lr,_,rfl,#[t,e3],fun l hl=>h2 k _ rfl hr' l _ Ze (Zj hl) hl⟩
abbrev Vm:Stmt:=Z5 (top 55) 6
theorem Oj:#[p,["self","place"],["self","place"],Vm]:=fnS
theorem Ol(F:#[i,"check_place","Sheet.check_place",Vm])(T:#[k]):FnOk P w K mg base #[f] 1 f fd ["self","place"] (Cy (ca a)):=by
 refine #[n,Oj];obtain⟨ok,q,s,i,rfl,SA,si,h⟩:=h;refine⟨_,(Zd (Zy (PW.pt (X8 (Zo Hq (pv 1) Zf (Zq _)) (Xu (Zo zdb (pv 1) #[ag,Zk,cL K,T.zoa,Za (Zs (K:=K) rfl (pv 0) rfl) Zc] (Zq _)))))
  (Zd (Xo Xn rfl T.zti rfl (Za (Vi (Z3 (Xz ⋯) (Z3 (W7 (pv 1)) Vh)) ⋯) Zc)))
  Zp)),?_⟩
 obtain⟨dx,m1,m2,m3,m4,ts,ms,gts,a1,a2,a3,a4,a5,a6,a7,a8,o1,o2,o3,o4,o5,o6⟩:=id SA;have hts:ts.length=s.ms.length:=by rw[a3.length,zwo]
 refine⟨_,rfl,_,_,rfl,rfl,_,rfl,?_⟩;refine itD (fun hc=>?_) fun hc=>?_
 ·rw[if_pos (.inl hc)] at h;refine iteT ?_;exact#[ax,_,_,si,h]
 refine⟨_,rfl,_,rfl,q,a.zn8,dx,_,_,rfl,a1,T.zof,T.zp9,R6,m1,_,rfl,#[t,a2],_,_,rfl,rfl,_,rfl,?_⟩;rw[hts];refine itD (fun hc2=>?_) fun hc2=>?_
 ·rw[if_pos (.inr hc2)] at h;exact#[ax,_,_,si,h]
 ·rw[#[h,fun z=>z.elim hc hc2]] at h;exact h
abbrev Q6:Stmt:=Z5 (top 55) 7
theorem Dd:#[an,Q6]:=fnS
theorem De(F:#[i,"goes","Sheet.goes",Q6])(T:#[k]):FnOk P w K mg base #[f] 1 f fd ["self"] (Gz (ca a)):=by
 refine #[n,Dd];obtain⟨ok,q,s,rfl,SA,h⟩:=h;refine⟨_,Zd (Zl (Yx (Y0 (K:=K) rfl) (by rfl) T.zo3 PyProof.Rows.boot_list (Za (Zs (K:=K) rfl (pv 0) rfl) Zc))),?_⟩;obtain⟨dx,m1,m2,m3,m4,ts,ms,gts,a1,a2,a3,a4,a5,a6,a7,a8,o1,o2,o3,o4,o5,o6⟩:=id SA;refine⟨_,rfl,q,a.zn8,dx,_,_,rfl,a1,T.zof,T.zqi,R7,m3,_,rfl,#[t,a6],fun l hl=>?_⟩;exact h l _ Ze (Zj hl) hl
abbrev Ri:Stmt:=Z5 (top 55) 8
theorem Fy:#[p,#[ad],#[ad],Ri]:=fnS
theorem Fz(F:#[i,"where","Sheet.where",Ri])(T:#[k])(zsr:#[T,P,w,K,"place_of",1,["given","number"],Cn]):FnOk P w K mg base #[f] 2 f fd #[ad] (Km (ca a)):=by
 refine #[n,Fy];obtain⟨ok,q,s,n,rfl,SA,ho,hgl,h⟩:=h;refine⟨_,Zd (Zl (pF zsr hr (Za (Zs (K:=K) rfl (pv 0) rfl) (Za (pv 1) Zc)))),?_⟩;obtain⟨dx,m1,m2,m3,m4,ts,ms,gts,a1,a2,a3,a4,a5,a6,a7,a8,o1,o2,o3,o4,o5,o6⟩:=id SA;exact⟨_,rfl,q,a.zn8,dx,_,_,rfl,a1,T.zof,T.zqi,R7,_,rfl,m3,s.gv,n,rfl,a6,ho,hgl,fun H' s'=>h H' s'⟩
abbrev Om:Stmt:=Z5 (top 55) 10
theorem Af:#[an,Om]:=fnS
theorem Ag(F:#[i,"why","Sheet.why",Om])(T:#[k])(zsp:#[T,P,w,K,"shortage",2,["may","given"],zdw]):FnOk P w K mg base #[f] 3 f fd ["self"] (zd0 (ca a)):=by
 refine #[n,Af];obtain⟨ok,q,s,nu,rfl,SA,mo,FP,NA,h⟩:=h;refine⟨_,Zd (Zl (pF zsp hr (Za #[ae,Zs,0] (Za #[ae,Zs,0] Zc)))),?_⟩;obtain⟨dx,m1,m2,m3,m4,ts,ms,gts,a1,a2,a3,a4,a5,a6,a7,a8,o1,o2,o3,o4,o5,o6⟩:=id SA;exact⟨_,rfl,q,a.zn8,dx,_,_,rfl,a1,T.zof,T.zsw,zaw,_,rfl,q,a.zn8,dx,_,_,rfl,a1,T.zof,T.zqi,R7,m2,m3,ms,s.may,nu,s.gv,rfl,a4,a5,mo,a6,FP,NA,fun t lp lr ps rs H'=>h t lp lr ps rs H'⟩
abbrev Sl:Stmt:=Z5 (top 55) 11
theorem Ih:#[an,Sl]:=fnS
theorem Ii(F:#[i,"chains","Sheet.chains",Sl])(T:#[k]):FnOk P w K mg base #[f] 1 f fd ["self"] (G1 (ca a)):=by
 refine #[n,Ih];obtain⟨ok,q,s,rfl,SA,hgz,h⟩:=h;refine⟨_,Zd (Zl (Le rfl (Nj.mk (xo:=["number","steps"]) (ys:=[]) (js:=[]) rfl rfl ⋯ ⋯ rfl (by repeat' (first|exact True.intro|apply And.intro|rfl)) (by repeat' (first|exact True.intro|apply And.intro|rfl)) ⋯) (Z8 (K:=K) rfl #[ae,Zs,0]) (fun _ _ _ _ _=>Vg) (fun _ _ _ _ _=>(Wb (K:=K) (n:=2) rfl rfl (Z0 (V6 (i:=0) (show List.Nodup [("number":Str),("steps":Str)] by decide +kernel) rfl (by first|exact Or.inl rfl|exact Or.inr rfl)) (Z0 (V6 (i:=1) (show List.Nodup [("number":Str),("steps":Str)] by decide +kernel) rfl (by first|exact Or.inl rfl|exact Or.inr rfl)) X9)))) fun _ _ _ _ _=>(Yc (Za (pv 0) (Za (Yx (Y0 (K:=K) rfl) (by rfl) T.zo3 PyProof.Rows.boot_list (Za (pv 1) Zc)) Zc))))),?_⟩;obtain⟨dx,m1,m2,m3,m4,ts,ms,gts,a1,a2,a3,a4,a5,a6,a7,a8,o1,o2,o3,o4,o5,o6⟩:=id SA;have hgts:=a8.length;refine⟨_,rfl,q,a.zn8,dx,_,_,rfl,a1,T.zof,T.zs0,Bv,m4,rfl,⟨_,SqL.of a7⟩,?_⟩;refine G2 (K:=K) (xs:=gts) (fun i ys H'=>#[j]/\W5 (fun x=>H x=none) H' ys (s.gaps.take i)/\ys.length=i) #[L,Same.refl _,.nil] (fun i ys H' _ ⟨s',_⟩=>#[F,s',a7]) (szN ⋯) (fun i ys H' ⟨_,_,e⟩=>by omega) ?_ ?_
 ·rintro i x ys H' hx ⟨s1,gl,hyl⟩;obtain⟨t,l,n,us,st,rfl,hgi,ht,hl,tl,_⟩:=a8.get hx;have ht1:=s1 _ _ ht;have hl1:=s1 _ _ hl;refine⟨t,_,rfl,SqT.of ht1,rfl,_,_,rfl,_,_,rfl,rfl,#[q,[#[e,n],#[c,l]],rfl],?_⟩;unfold tYes;dsimp only;rw[#[P]];refine⟨_,rfl,_,rfl,l,_,rfl,#[t,hl1],fun l2 hl2=>?_⟩;refine #[z,l2,hl2,fun H2 q2 s2=>?_];have f2:H l2=none:=s1.free hl2;refine⟨sz2,fun t2 ht2=>?_⟩;have s3:=Zj (o:=.tup [.int n,.ref l2]) ht2;have s23:=s2.trans s3;refine⟨s1.trans s23,?_,by rw[zwr,hyl];rfl⟩;have e:s.gaps.take (i+1)=s.gaps.take i++[(n,st)]:=by rw[zx3,hgi];rfl
  rw[e];exact(gl.keep (fun _ _ _ z=>s23 _ _ z) (fun _ _ z=>s23 _ _ z)).snoc Ze (s3 _ _ q2) (tl.same (s1.trans s23)) f2
 ·rintro ys H' ⟨s1,gl,hyl⟩ l hl;rw[hgts,zw6] at gl;refine h l ys _ Ze ?_ (s1.trans (Zj hl)) (s1.free hl);exact(gl.imp (ok':=fun x=>H x=none/\x≠l) fun x ⟨o,e⟩ z=>⟨z,Zg e hl⟩).keep (fun _ _ _ z=>Zj hl _ _ z) fun _ _ z=>Zj hl _ _ z
abbrev Q7:Stmt:=Z5 (top 55) 12
theorem Df:#[an,Q7]:=fnS
theorem Dg(F:#[i,"rows","Sheet.rows",Q7])(T:#[k]):FnOk P w K mg base #[f] 1 f fd ["self"] (zaz (ca a)):=by
 refine #[n,Df];obtain⟨ok,q,s,rfl,SA,ho,hgl,hml,h⟩:=h;refine⟨_,Zd (Zl (Le rfl (Nj.mk (xo:=["match","number"]) (ys:=[]) (js:=[]) rfl rfl ⋯ ⋯ rfl (by repeat' (first|exact True.intro|apply And.intro|rfl)) (by repeat' (first|exact True.intro|apply And.intro|rfl)) ⋯) (zk7 (K:=K) rfl rfl T.zt3 (Za #[ae,Zs,0] (Za #[ae,Zs,0] Zc))) (fun _ _ _ _ _=>Vg) (fun _ _ _ _ _=>(Wb (K:=K) (n:=2) rfl rfl (Z0 (V6 (i:=0) (show List.Nodup [("match":Str),("number":Str)] by decide +kernel) rfl (by first|exact Or.inl rfl|exact Or.inr rfl)) (Z0 (V6 (i:=1) (show List.Nodup [("match":Str),("number":Str)] by decide +kernel) rfl (by first|exact Or.inl rfl|exact Or.inr rfl)) X9)))) fun _ _ _ _ _=>(Zt (zau (K:=K) rfl) (pv 0) (Yc (Za (pv 1) Zc))))),?_⟩;obtain⟨dx,m1,m2,m3,m4,ts,ms,gts,a1,a2,a3,a4,a5,a6,a7,a8,o1,o2,o3,o4,o5,o6⟩:=id SA;have hts:ts.length=s.ms.length:=by rw[a3.length,zwo]
 refine⟨_,rfl,q,a.zn8,dx,_,_,rfl,a1,T.zof,T.zp9,R6,_,rfl,q,a.zn8,dx,_,_,rfl,a1,T.zof,T.zqi,R7,m1,m3,rfl,⟨_,SqL.of a2⟩,⟨_,SqL.of a6⟩,?_⟩;refine zfi (K:=K) (xs:=ts) (zs:=s.gv) (fun i ys H'=>#[j]/\Z7 H' ys (((Z9 s).take i).map row4)/\ys.length=i) #[L,Same.refl _,.nil] ⋯ (fun i ys H' _ ⟨s',_⟩=>⟨#[F,s',a2],SqL.of (s' _ _ a6)⟩) (szN ⋯) (fun i ys H' ⟨_,_,e⟩=>by omega) ?_ ?_
 ·rintro i x z t ys H' hx hz ⟨s1,tl,hyl⟩ ht;obtain⟨tm,m,rfl,hm,htm⟩:=Jz a3 hx;have oz:=ho z (zww hz);refine #[z,t,ht,fun H2 q2 SH2=>?_];have s2:=s1.trans SH2;have tl2:=tl.same SH2;refine⟨t,_,rfl,SqT.of q2,rfl,_,_,rfl,_,_,rfl,rfl,#[q,[#[c,tm],some z],rfl],?_⟩;unfold tYes;dsimp only;rw[#[P]];refine⟨_,rfl,_,rfl,sz1,fun t1 ht1=>?_⟩;refine #[z,t1,ht1,fun H3 q3 s3=>?_];refine⟨tm,t1,_,_,rfl,rfl,SqT.of ((s2.trans s3) _ _ htm),SqT.of q3,by unfold pV;simp,by show 3+1<=sizeLine;exact sz4,fun z=>absurd z (by simp),fun _ t2 ht2=>?_⟩;have s4:=Zj (o:=.tup (pV m++[z])) ht2;refine⟨s2.trans (s3.trans s4),?_,by rw[zwr,hyl];rfl⟩;rw[zfj hm hz,zwv];refine((tl2.same s3).same s4).snoc ?_;rw[Ze,zld m oz];rfl
 ·rintro ys H' ⟨s1,tl,hyl⟩ l hl;rw[hts,<- za0 hgl,zw6] at tl;exact h l ys _ Ze (tl.same (Zj hl)) (s1.trans (Zj hl)) (s1.free hl)
abbrev Rj:Stmt:=top 56
theorem F3:#[p,["listed","lists"],["listed","lists"],Rj]:=fnS
theorem F5(F:#[i,"drawn_sheet","drawn_sheet",Rj])(T:#[k])(zqh:T6 P w K mg base "Sheet" a.zn8 1 ["self","listed","lists","given","gaps"] (Lj (ca a)))(zt0:#[T,P,w,K,"fill",3,["may"],zg3]):FnOk P w K mg base #[f] 4 f fd ["listed","lists"] (zdz (ca a)):=by
 refine #[n,F3];obtain⟨ok,l1,l2,ts,ls,ms,rows,nu,rfl,hl1,tl,hl2,il,ok1,ok2,okl,no,mo,h⟩:=h;refine⟨_,Zd (Zl (Bl zqh (hr.mono ⋯) Zn rfl (Za (pv 0) (Za (pv 1) (Za (pF zt0 hr (Za (pv 1) Zc)) (Za (Z6 Zc) Zc)))))),?_⟩;refine⟨_,rfl,_,rfl,_,rfl,l2,ls,rows,nu,rfl,hl2,il,mo,fun l3 gv H1 h3 FP SP s1 f3=>?_⟩;refine#[aq,fun l4 hl4=>?_];refine #[z,l4,hl4,fun H2 q2 s2=>?_];have s12:=s1.trans s2;intro q dx hq hdx ne;refine⟨q,dx,l1,l2,l3,l4,rfl,Ze,fun H' e=>⟨rfl,?_⟩⟩;obtain⟨s3,q3⟩:=N8 (C:=a.zn8) (l1:=l1) (l2:=l2) (l3:=l3) (l4:=l4) hq hdx ne;rw[<- e] at s3 q3;have s:=s12.trans s3;exact h q gv H' ⟨dx,l1,l2,l3,l4,ts,ls,[],q3,s _ _ hl1,tl.same s,s _ _ hl2,il.same s,s3 _ _ (s2 _ _ h3),s3 _ _ q2,.nil,no _ (s12.free hq),ok1,ok2,no _ f3,no _ (s1.free hl4),okl⟩ FP SP s (s12.free hq)
abbrev Ug:Stmt:=Z5 (top 58) 0
theorem Mo:#[p,["self","rounds","rest"],["self","rounds","rest"],Ug]:=fnS
theorem Mp(F:#[i,"__init__","Season.__init__",Ug])(T:#[k])(zog:Z2 P w K mg base "check_range" 1 ["value","least","most"] (Li a.zop))(zth:T6 P w K mg base "Roster" a.zn9 1 ["self"] (zdx (ca a)))(ztb:T6 P w K mg base "Ledger" a.zn7 1 ["self"] (zdo a.zn7)):FnOk P w K mg base #[f] 3 f fd ["self","rounds","rest"] (zd2 (ca a)):=by
 refine #[n,Mo];obtain⟨p,dx,r,q,rfl,hp,sr,sq,h⟩:=h;refine⟨_,(Zb (Ya (pF zog hr (Za (pv 1) (Za Zf (Za (W4 rfl T.zq8) Zc)))))
 (Zb (Ya (pF zog hr (Za (pv 2) (Za Zf (Za (W4 rfl T.zr7) Zc)))))
 (Zb (Xk (K:=K) rfl (pv 0) (pv 1) rfl)
 (Zb (Xk (K:=K) rfl (pv 0) (pv 2) rfl)
 (Zb (Xk (K:=K) rfl (pv 0) (zdk zth (hr.mono ⋯) Zn rfl) rfl)
 (Zb (Xk (K:=K) rfl (pv 0) (zdk ztb (hr.mono ⋯) Zn rfl) rfl)
 (Zb (Xk (K:=K) rfl (pv 0) Gd rfl)
 (Zb (Xk (K:=K) rfl (pv 0) (Z6 Zc) rfl)
 (Zb (Xk (K:=K) rfl (pv 0) Yn rfl)
 (Zd (Xk (K:=K) rfl (pv 0) (Z6 Zc) rfl))))))))))),?_⟩
 show let y1:TS:=_;let y2:TS:=Zw _ y1;let y3:TS:=Zw _ y2;let y4:TS:=Zw _ y3;let y5:TS:=Zw _ y4;let y6:TS:=Zw _ y5;let y7:TS:=Zw _ y6;let y8:TS:=Zw _ y7;let y9:TS:=Zw _ y8;Zw _ y9 _ _ _;intro y1 y2 y3 y4 y5 y6 y7 y8 y9;refine⟨_,rfl,r,0,60,rfl,sr,Yl ⋯,Yl ⋯,?_⟩;refine it2 h (fun _ z=>z) fun h1 h=>?_;refine⟨_,rfl,q,0,10,rfl,sq,Yl ⋯,Yl ⋯,?_⟩;refine it2 h (fun _ z=>z) fun h2 hF=>?_;have er:r=((r.toNat:Nat):Int):=by omega
 have eq':q=((q.toNat:Nat):Int):=by omega
 generalize r.toNat=rn at hF er;generalize q.toNat=qn at hF eq';subst er eq';refine⟨_,rfl,_,rfl,p,a.zn4,dx,_,rfl,hp,T.zn5,T.zsd,(by show 0<1000;decide),?_⟩;rw[pF1];refine⟨_,rfl,_,rfl,p,a.zn4,dx,_,rfl,Ze,T.zn5,T.ztr,(by show 1<1000;decide),?_⟩;rw[pF2,I9];have b1:Ub p H (upd H p (.ins a.zn4 dx (sF2 (.int rn) (.int qn)))):=.put;have q1:upd H p (.ins a.zn4 dx (sF2 (.int rn) (.int qn))) p=some (.ins a.zn4 dx (sF2 (.int rn) (.int qn))):=Ze;generalize upd H p (.ins a.zn4 dx (sF2 (.int rn) (.int qn)))=H1 at b1 q1;intro pr dxr hpr hdxr ne;refine⟨pr,dxr,rfl,Ze,fun dr hdr=>⟨rfl,?_⟩⟩;have ndp:dr≠pr:=fun z=>by rw[z,Ze] at hdr;cases hdr
 have ndx:dr≠dxr:=fun z=>by rw[z,Zh ne,Ze] at hdr;cases hdr
 have hdr1:H1 dr=none:=by rw[Zh ndp,Zh ndx] at hdr;exact hdr
 have s2:Same H1 (upd (upd (upd (upd H1 dxr (.own pr)) pr (.ins a.zn9 dxr [])) dr (.dK [])) pr (.ins a.zn9 dxr [("entries",.ref dr)])):=fun b o e=>by
  rw[Zh (Zg e hpr),Zh (Zg e hdr1),Zh (Zg e hpr),Zh (Zg e hdxr)];exact e
 have R2:X0 a.zn9 (upd (upd (upd (upd H1 dxr (.own pr)) pr (.ins a.zn9 dxr [])) dr (.dK [])) pr (.ins a.zn9 dxr [("entries",.ref dr)])) pr dr []:=⟨⟨dxr,[],Ze,by rw[Zh ndp,Ze],.nil⟩,zyo⟩;generalize upd (upd (upd (upd H1 dxr (.own pr)) pr (.ins a.zn9 dxr [])) dr (.dK [])) pr (.ins a.zn9 dxr [("entries",.ref dr)])=H2 at s2 R2;refine⟨_,rfl,p,a.zn4,dx,_,rfl,s2 _ _ q1,T.zn5,T.zpm,(by show 2<1000;decide),?_⟩;rw[pF3];have np2:pr≠p/\dr≠p:=⟨Ne.symm (Zg q1 hpr),Ne.symm (Zg q1 hdr1)⟩;have b3:Ub p H (upd H2 p (.ins a.zn4 dx (sF3 (.int rn) (.int qn) (.ref pr)))):=b1.trans ((Ub.of s2).trans .put);have q3:upd H2 p (.ins a.zn4 dx (sF3 (.int rn) (.int qn) (.ref pr))) p=some (.ins a.zn4 dx (sF3 (.int rn) (.int qn) (.ref pr))):=Ze;have kt3:∀ t xs,H2 t=#[J,xs]->upd H2 p (.ins a.zn4 dx (sF3 (.int rn) (.int qn) (.ref pr))) t=#[J,xs]:=fun t xs e=>by rw[Zh (Y6 e (s2 _ _ q1) (fun z=>nomatch z))];exact e
 have R3:=R2.keep (H':=upd H2 p (.ins a.zn4 dx (sF3 (.int rn) (.int qn) (.ref pr)))) (fun o e=>by rw[Zh np2.1];exact e) (fun o e=>by rw[Zh np2.2];exact e) kt3;have fdr:H dr=none:=Ub.free b1 ⟨_,q1⟩ hdr1;have hr2:H2 dr=#[b,.dK,[]]/\∃ o,H2 pr=#[d]:=by
  obtain⟨⟨x,kv,z1,z2,z3⟩,_⟩:=R2;cases z3;exact⟨z2,_,z1⟩
 generalize upd H2 p (.ins a.zn4 dx (sF3 (.int rn) (.int qn) (.ref pr)))=H3 at b3 q3 R3;intro pl dxl hpl hdxl nel;refine⟨pl,dxl,rfl,Ze,fun lr ld H4 L0 k0 f0 g0 n0=>⟨rfl,?_⟩⟩;obtain⟨s4,fr0,fd0⟩:=zg0 hpl hdxl nel k0 f0 g0;refine⟨_,rfl,p,a.zn4,dx,_,rfl,s4 _ _ q3,T.zn5,T.zpl,(by show 3<1000;decide),?_⟩;rw[pF4];have q4:=s4 _ _ q3;have np4:pl≠p/\lr≠p/\ld≠p:=⟨Ne.symm (Zg q3 hpl),Ne.symm (Zg q3 fr0),Ne.symm (Zg q3 fd0)⟩;have b5:Ub p H (upd H4 p (.ins a.zn4 dx (sF4 (.int rn) (.int qn) (.ref pr) (.ref pl)))):=b3.trans ((Ub.of s4).trans .put);have q5:upd H4 p (.ins a.zn4 dx (sF4 (.int rn) (.int qn) (.ref pr) (.ref pl))) p=some (.ins a.zn4 dx (sF4 (.int rn) (.int qn) (.ref pr) (.ref pl))):=Ze;have kt5:∀ t xs,H4 t=#[J,xs]->upd H4 p (.ins a.zn4 dx (sF4 (.int rn) (.int qn) (.ref pr) (.ref pl))) t=#[J,xs]:=fun t xs e=>by rw[Zh (Y6 e q4 (fun z=>nomatch z))];exact e
 have R5:=(R3.same s4).keep (H':=upd H4 p (.ins a.zn4 dx (sF4 (.int rn) (.int qn) (.ref pr) (.ref pl)))) (fun o e=>by rw[Zh np2.1];exact e) (fun o e=>by rw[Zh np2.2];exact e) kt5;have L5:=L0.keep (H':=upd H4 p (.ins a.zn4 dx (sF4 (.int rn) (.int qn) (.ref pr) (.ref pl)))) (fun o e=>by rw[Zh np4.1];exact e) (fun o e=>by rw[Zh np4.2.1];exact e) (fun o e=>by rw[Zh np4.2.2];exact e) kt5;have flr:H lr=none:=Ub.free b3 ⟨_,q3⟩ fr0;have fld:H ld=none:=Ub.free b3 ⟨_,q3⟩ fd0;have nrp:pr≠pl/\dr≠pl/\pr≠lr/\dr≠lr/\pr≠ld/\dr≠ld:=by
  obtain⟨⟨x,kv,z1,z2,_⟩,_⟩:=R3;exact⟨Zg z1 hpl,Zg z2 hpl,Zg z1 fr0,Zg z2 fr0,Zg z1 fd0,Zg z2 fd0⟩
 generalize upd H4 p (.ins a.zn4 dx (sF4 (.int rn) (.int qn) (.ref pr) (.ref pl)))=H5 at b5 q5 R5 L5;intro da hda;have npa:da≠p:=Ne.symm (Zg q5 hda);refine⟨_,rfl,p,a.zn4,dx,_,rfl,Zj (o:=.dT []) hda _ _ q5,T.zn5,T.zq0,(by show 4<1000;decide),?_⟩;rw[pF5];have b7:Ub p H5 (upd (upd H5 da (.dT [])) p (.ins a.zn4 dx (sF5 (.int rn) (.int qn) (.ref pr) (.ref pl) (.ref da)))):=(Ub.of (Zj hda)).trans .put;have q7:upd (upd H5 da (.dT [])) p (.ins a.zn4 dx (sF5 (.int rn) (.int qn) (.ref pr) (.ref pl) (.ref da))) p=some (.ins a.zn4 dx (sF5 (.int rn) (.int qn) (.ref pr) (.ref pl) (.ref da))):=Ze;have d7:upd (upd H5 da (.dT [])) p (.ins a.zn4 dx (sF5 (.int rn) (.int qn) (.ref pr) (.ref pl) (.ref da))) da=#[b,.dT,[]]:=by rw[Zh npa,Ze]
 generalize upd (upd H5 da (.dT [])) p (.ins a.zn4 dx (sF5 (.int rn) (.int qn) (.ref pr) (.ref pl) (.ref da)))=H7 at b7 q7 d7;refine#[aq,fun ls hls=>?_];have nps:ls≠p:=Ne.symm (Zg q7 hls);refine⟨_,rfl,p,a.zn4,dx,_,rfl,Zj (o:=.lst []) hls _ _ q7,T.zn5,T.zr4,(by show 5<1000;decide),?_⟩;rw[pF6];have b9:Ub p H7 (upd (upd H7 ls (.lst [])) p (.ins a.zn4 dx (sF6 (.int rn) (.int qn) (.ref pr) (.ref pl) (.ref da) (.ref ls)))):=(Ub.of (Zj hls)).trans .put;have q9:upd (upd H7 ls (.lst [])) p (.ins a.zn4 dx (sF6 (.int rn) (.int qn) (.ref pr) (.ref pl) (.ref da) (.ref ls))) p=some (.ins a.zn4 dx (sF6 (.int rn) (.int qn) (.ref pr) (.ref pl) (.ref da) (.ref ls))):=Ze;have l9:upd (upd H7 ls (.lst [])) p (.ins a.zn4 dx (sF6 (.int rn) (.int qn) (.ref pr) (.ref pl) (.ref da) (.ref ls))) ls=#[b,.lst,[]]:=by rw[Zh nps,Ze]
 generalize upd (upd H7 ls (.lst [])) p (.ins a.zn4 dx (sF6 (.int rn) (.int qn) (.ref pr) (.ref pl) (.ref da) (.ref ls)))=H9 at b9 q9 l9;refine⟨_,rfl,p,a.zn4,dx,_,rfl,q9,T.zn5,T.zo2,(by show 6<1000;decide),?_⟩;rw[pF7];have b10:Ub p H9 (upd H9 p (.ins a.zn4 dx (sF7 (.int rn) (.int qn) (.ref pr) (.ref pl) (.ref da) (.ref ls) .non))):=.put;have q10:upd H9 p (.ins a.zn4 dx (sF7 (.int rn) (.int qn) (.ref pr) (.ref pl) (.ref da) (.ref ls) .non)) p=some (.ins a.zn4 dx (sF7 (.int rn) (.int qn) (.ref pr) (.ref pl) (.ref da) (.ref ls) .non)):=Ze;generalize upd H9 p (.ins a.zn4 dx (sF7 (.int rn) (.int qn) (.ref pr) (.ref pl) (.ref da) (.ref ls) .non))=H10 at b10 q10;refine#[aq,fun lt hlt=>?_];have npt:lt≠p:=Ne.symm (Zg q10 hlt);refine⟨_,rfl,p,a.zn4,dx,_,rfl,Zj (o:=.lst []) hlt _ _ q10,T.zn5,T.zpa,(by show 7<1000;decide),?_⟩;rw[pF8];have b12:Ub p H10 (upd (upd H10 lt (.lst [])) p (.ins a.zn4 dx (sF8 (.int rn) (.int qn) (.ref pr) (.ref pl) (.ref da) (.ref ls) .non (.ref lt)))):=(Ub.of (Zj hlt)).trans .put;have q12:upd (upd H10 lt (.lst [])) p (.ins a.zn4 dx (sF8 (.int rn) (.int qn) (.ref pr) (.ref pl) (.ref da) (.ref ls) .non (.ref lt))) p=some (.ins a.zn4 dx (sF8 (.int rn) (.int qn) (.ref pr) (.ref pl) (.ref da) (.ref ls) .non (.ref lt))):=Ze;have l12:upd (upd H10 lt (.lst [])) p (.ins a.zn4 dx (sF8 (.int rn) (.int qn) (.ref pr) (.ref pl) (.ref da) (.ref ls) .non (.ref lt))) lt=#[b,.lst,[]]:=by rw[Zh npt,Ze]
 generalize upd (upd H10 lt (.lst [])) p (.ins a.zn4 dx (sF8 (.int rn) (.int qn) (.ref pr) (.ref pl) (.ref da) (.ref ls) .non (.ref lt)))=H12 at b12 q12 l12;have b912:=b10.trans b12;have b712:=b9.trans b912;have b512:=b7.trans b712;have bb:=b5.trans b512;have kt:∀ t xs,H5 t=#[J,xs]->H12 t=#[J,xs]:=fun t xs e=>b512 t _ e (Y6 e q5 (fun z=>nomatch z));have R12:=R5.keep (fun o e=>b512 _ o e np2.1) (fun o e=>b512 _ o e np2.2) kt;have L12:=L5.keep (fun o e=>b512 _ o e np4.1) (fun o e=>b512 _ o e np4.2.1) (fun o e=>b512 _ o e np4.2.2) kt;have d12:=b712 _ _ d7 npa;have l912:=b912 _ _ l9 nps;have fda:H da=none:=Ub.free b5 ⟨_,q5⟩ hda;have fls:H ls=none:=Ub.free (b5.trans b7) ⟨_,q7⟩ hls;have flt:H lt=none:=Ub.free (b5.trans (b7.trans (b9.trans b10))) ⟨_,q10⟩ hlt;have ex5:(∃ o,H5 pr=some o)/\(∃ o,H5 dr=some o)/\(∃ o,H5 pl=some o)/\(∃ o,H5 lr=some o)/\(∃ o,H5 ld=some o):=by
  obtain⟨⟨x,kv,z1,z2,_⟩,_⟩:=id R5;obtain⟨⟨y,w1⟩,⟨rs,w2,_⟩,⟨ks,w3,_⟩⟩:=id L5;exact⟨⟨_,z1⟩,⟨_,z2⟩,⟨_,w1⟩,⟨_,w2⟩,⟨_,w3⟩⟩
 have n5:∀ {x y:Addr},(∃ o,H5 x=some o)->H5 y=none->x≠y:=fun ⟨o,e⟩ hy=>Zg e hy;have fls5:H5 ls=none:=Ub.free b7 ⟨_,q7⟩ hls;have flt5:H5 lt=none:=Ub.free (b7.trans (b9.trans b10)) ⟨_,q10⟩ hlt;have ndas:da≠ls:=Zg d7 hls;have ndat:da≠lt:=Zg (b10 _ _ (b9 _ _ d7 npa) npa) hlt;have nst:ls≠lt:=Zg (b10 _ _ l9 nps) hlt;obtain⟨e1,e2,e3,e4,e5⟩:=ex5;have nrl:lr≠ld:=n0;refine hF ⟨p,pr,dr,pl,lr,ld,da,ls,lt⟩ H12 rfl ⟨⟨dx,.non,q12,rfl⟩,R12,L12,⟨[],d12,fun i n=>rfl,zw1 _⟩,⟨[],l912,.nil⟩,⟨[],l12,.nil⟩,?_,?_⟩ bb ?_
 ·show [p,dr,lr,ld,da,ls,lt].Nodup;simp only[zxi,zwy,zx2,or_false,not_or];exact⟨⟨Ne.symm np2.2,Ne.symm np4.2.1,Ne.symm np4.2.2,Ne.symm npa,Ne.symm nps,Ne.symm npt⟩,⟨nrp.2.2.2.1,nrp.2.2.2.2.2,n5 e2 hda,n5 e2 fls5,n5 e2 flt5⟩,⟨nrl,n5 e4 hda,n5 e4 fls5,n5 e4 flt5⟩,⟨n5 e5 hda,n5 e5 fls5,n5 e5 flt5⟩,⟨ndas,ndat⟩,nst,by simp,zyo⟩
 ·have hpr5:∃ x fs,H5 pr=some (.ins a.zn9 x fs):=by obtain⟨⟨x,kv,z1,_⟩,_⟩:=R5;exact⟨_,_,z1⟩
  have hdr5:∃ kv,H5 dr=#[b,.dK,kv]:=by obtain⟨⟨x,kv,_,z2,_⟩,_⟩:=R5;exact⟨_,z2⟩
  have hpl5:∃ x fs,H5 pl=some (.ins a.zn7 x fs):=by obtain⟨⟨y,w1⟩,_⟩:=L5;exact⟨_,_,w1⟩
  obtain⟨x1,y1,z1⟩:=hpr5;obtain⟨y2,z2⟩:=hdr5;obtain⟨x3,y3,z3⟩:=hpl5;obtain⟨_,⟨rs,w2,_⟩,⟨ks,w3,_⟩⟩:=id L5;have nm:∀ m,m∈([p,dr,lr,ld,da,ls,lt]:List Addr)↔m=p\/m=dr\/m=lr\/m=ld\/m=da\/m=ls\/m=lt:=fun m=>by simp
  refine⟨fun hm=>?_,fun hm=>?_⟩
  ·rcases(nm _).mp hm with q|q|q|q|q|q|q
   ·exact np2.1 q
   ·exact Y6 z1 z2 (fun z=>nomatch z) q
   ·exact nrp.2.2.1 q
   ·exact nrp.2.2.2.2.1 q
   ·exact n5 e1 hda q
   ·exact n5 e1 fls5 q
   ·exact n5 e1 flt5 q
  ·rcases(nm _).mp hm with q|q|q|q|q|q|q
   ·exact np4.1 q
   ·exact nrp.2.1 q.symm
   ·exact Y6 z3 w2 (fun z=>nomatch z) q
   ·exact Y6 z3 w3 (fun z=>nomatch z) q
   ·exact n5 e3 hda q
   ·exact n5 e3 fls5 q
   ·exact n5 e3 flt5 q
 ·intro x hx hxp;simp only[SAd.fp,zwy,zx2,or_false] at hx;rcases hx with q|q|q|q|q|q|q
  ·exact absurd q hxp
  ·rw[q];exact fdr
  ·rw[q];exact flr
  ·rw[q];exact fld
  ·rw[q];exact fda
  ·rw[q];exact fls
  ·rw[q];exact flt
abbrev Wr:Stmt:=Z5 (top 58) 1
theorem Rk:#[an,Wr]:=fnS
theorem Rl(F:#[i,"check_not_over","Season.check_not_over",Wr])(T:#[k])(zn6:Zx P w K mg base a.zn4 "at_hand" 2 ["self"] (V8 (ca a))):FnOk P w K mg base #[f] 3 f fd ["self"] (Kn (ca a)):=by
 refine #[n,Rk];obtain⟨A',S,rfl,SA,h⟩:=h;refine⟨_,(Zd (Zy (Zo T2 (Yp (pv 0) T.zn5 zn6 (hr.mono ⋯) Zn) #[ae,Zs,0] (Zq _))
  (Zd (Xo Xn rfl T.zts rfl (Za Zr Zc)))
  Zp)),?_⟩
 obtain⟨⟨dx,v,a1,a2⟩,b,c,_⟩:=id SA;refine⟨_,rfl,A'.p,dx,_,rfl,a1,Yg ⋯,A',S,rfl,SA,_,rfl,A'.p,a.zn4,dx,_,_,rfl,a1,T.zn5,T.zsd,Cz,_,_,rfl,rfl,_,rfl,?_⟩;refine itD (fun hc=>?_) fun hc=>?_
 ·rw[if_pos (by unfold atV at hc;omega)] at h;exact⟨sz1,h⟩
 ·rw[#[h,(by unfold atV at hc;omega)]] at h;exact h
abbrev Wt:Stmt:=Z5 (top 58) 2
theorem Qb:#[an,Wt]:=fnS
theorem Qc(F:#[i,"check_undrawn","Season.check_undrawn",Wt])(T:#[k])(zoi:Zx P w K mg base a.zn4 "check_not_over" 3 ["self"] (Kn (ca a))):FnOk P w K mg base #[f] 4 f fd ["self"] (Ko (ca a)):=by
 refine #[n,Qb];obtain⟨A',S,rfl,SA,h⟩:=h;refine⟨_,(Zb (Ya (Yp (pv 0) T.zn5 zoi (hr.mono ⋯) Zn))
 (Zd (Zy (Zo Vs (Zs (K:=K) rfl (pv 0) rfl) Yn (Zq _))
  (Zd (Xo Xn rfl T.zt2 rfl (Za Zr Zc)))
  Zp))),?_⟩
 obtain⟨⟨dx,v,a1,a2⟩,b,c,_⟩:=id SA;refine⟨_,rfl,A'.p,dx,_,rfl,a1,Yg ⋯,A',S,rfl,SA,?_⟩;refine it2 h (fun _ z=>z) fun hn h=>?_;refine⟨_,rfl,A'.p,a.zn4,dx,_,_,rfl,a1,T.zn5,T.zo2,Va,rfl,_,rfl,?_⟩;cases hc:S.cur with
 | none =>
   rw[hc] at a2 h;have a2:v=.non:=a2;rw[a2];exact iteF h
 | some s =>
   rw[hc] at a2 h;obtain⟨q,rfl,_⟩:=a2;exact iteT ⟨sz1,h⟩
abbrev Vf:Stmt:=Z5 (top 58) 3
theorem Pu:#[p,["self","at"],["self","at"],Vf]:=fnS
theorem Pw(F:#[i,"check_round","Season.check_round",Vf])(T:#[k]):FnOk P w K mg base #[f] 1 f fd ["self","at"] (Bw (ca a)):=by
 refine #[n,Pu];obtain⟨A',S,i,rfl,SA,si,h⟩:=h;refine⟨_,(Zd (Zy (PW.pt (X8 (Zo Hq (pv 1) Zf (Zq _)) (Xu (Zo T2 (pv 1) #[ae,Zs,0] (Zq _)))))
  (Zd (Xo Xn rfl T.zsi rfl (Za (Vi (Z3 (W7 (pv 1)) (Z3 (Xz ⋯) Vh)) ⋯) Zc)))
  Zp)),?_⟩
 obtain⟨⟨dx,v,a1,a2⟩,b,c,_⟩:=id SA;refine⟨_,rfl,_,_,rfl,rfl,_,rfl,?_⟩;refine itD (fun hc=>?_) fun hc=>?_
 ·rw[if_pos (.inl hc)] at h;refine iteT ?_;exact#[ax,_,_,si,h]
 refine⟨_,rfl,_,rfl,A'.p,a.zn4,dx,_,_,rfl,a1,T.zn5,T.zsd,Cz,_,_,rfl,rfl,_,rfl,?_⟩;refine itD (fun hc2=>?_) fun hc2=>?_
 ·rw[if_pos (.inr hc2)] at h;exact#[ax,_,_,si,h]
 ·rw[#[h,fun z=>z.elim hc hc2]] at h;exact h
abbrev Vn:Stmt:=Z5 (top 58) 4
theorem Oo:#[an,Vn]:=fnS
theorem Oq(F:#[i,"check_room","Season.check_room",Vn])(T:#[k]):FnOk P w K mg base #[f] 1 f fd ["self"] (Bz (ca a)):=by
 refine #[n,Oo];obtain⟨A',S,rfl,SA,h⟩:=h;refine⟨_,(Zd (Zy (Zo zdb #[ag,Zk,cL K,T.zoa,Za (Zs (K:=K) rfl (pv 0) rfl) Zc] (W4 rfl T.zqk) (Zq _))
  (Zd (Xo Xn rfl T.zs6 rfl (Za (Vi (Z3 (W7 (W4 rfl T.zqk)) (Z3 (Xz ⋯) Vh)) ⋯) Zc)))
  Zp)),?_⟩
 obtain⟨⟨dx,v,a1,a2⟩,b,c,d,f,⟨us,g1,g2⟩,nd,np⟩:=id SA;refine⟨_,rfl,A'.p,a.zn4,dx,_,_,rfl,a1,T.zn5,T.zpa,Tc,A'.lt,_,rfl,#[t,g1],_,_,rfl,rfl,_,rfl,?_⟩;rw[g2.length];refine itD (fun hc=>?_) fun hc=>?_
 ·rw[if_pos ⋯] at h;exact⟨.inl ⟨_,rfl,Yl ⋯⟩,fun z=>⟨sz1,h⟩⟩
 ·rw[if_neg ⋯] at h;exact h
abbrev Rm:Stmt:=Z5 (top 58) 5
theorem F7:#[p,["self","word","number","at"],["self","word","number","at"],Rm]:=fnS
theorem F8(F:#[i,"note","Season.note",Rm])(T:#[k]):FnOk P w K mg base #[f] 1 f fd ["self","word","number","at"] (B0 (ca a)):=by
 refine #[n,F7];obtain⟨A',S,w',n,i,rfl,SA,hz,h⟩:=h;refine⟨_,Zd (Yu #[ae,Zs,0] (Yc (Za (Yc (Za (pv 1) (Za (pv 2) (Za (pv 3) Zc)))) (Za (Zs (K:=K) rfl (pv 0) rfl) Zc)))),?_⟩;obtain⟨⟨dx,v,a1,a2⟩,b,c,⟨kvs,d1,d2⟩,⟨vs,f1,f2⟩,⟨us,g1,g2⟩,nd,np⟩:=id SA;refine⟨_,rfl,A'.p,a.zn4,dx,_,_,rfl,a1,T.zn5,T.zpa,Tc,A'.lt,us,rfl,g1,?_⟩;refine⟨_,rfl,_,rfl,_,rfl,sz3,fun t1 ht1=>?_⟩;refine al (upd _ t1 _) ht1 rfl fun H1 TH1 s1=>?_;have q1:H1 t1=some (.tup (Vj (w',n,i))):=TH1;refine⟨_,rfl,A'.p,a.zn4,dx,_,_,rfl,s1 _ _ a1,T.zn5,T.zo2,Va,sz2,fun t2 ht2=>?_⟩;refine #[z,t2,ht2,fun H2 q2 s2=>?_];have q12:=s2 _ _ q1;have s12:=s1.trans s2;refine⟨us,s12 _ _ g1,by have:=g2.length;have:=T9;omega,?_⟩;have fr:FrS A' H (upd H2 A'.lt (.lst (us++[.ref t2]))):=fun b o e hb=>by
  rw[Zh #[av,hb]];exact s12 _ _ e
 have kt:=SA.tups fr;have kp:∀ x o,x≠A'.lt->H x=#[d]->upd H2 A'.lt (.lst (us++[.ref t2])) x=#[d]:=fun x o hx e=>by rw[Zh hx];exact s12 _ _ e
 have kt2:∀ t xs,H2 t=#[J,xs]->upd H2 A'.lt (.lst (us++[.ref t2])) t=#[J,xs]:=fun t xs e=>by
  rw[Zh (Y6 e (s12 _ _ g1) (fun z=>nomatch z))];exact e
 have ko:∀ x o,x∉A'.fp->H x=#[d]->upd H2 A'.lt (.lst (us++[.ref t2])) x=#[d]:=fun x o hx e=>fr x o e hx;have nd':=nd;simp only[SAd.fp,zxi,zwy,zx2,or_false,not_or] at nd';obtain⟨⟨n1,n2,n3,n4,n5,n6⟩,⟨n7,n8,n9,n10,n11⟩,⟨n12,n13,n14,n15⟩,⟨n16,n17,n18⟩,⟨n19,n20⟩,n21,_⟩:=nd';have npt:A'.pr≠A'.lt/\A'.pl≠A'.lt:=⟨#[av,np.1],#[av,np.2]⟩;refine h _ ⟨⟨dx,v,kp _ _ n6 a1,a2.keep ko kt⟩,b.keep (fun o e=>kp _ o npt.1 e) (fun o e=>kp _ o n11 e) kt,c.keep (fun o e=>kp _ o npt.2 e) (fun o e=>kp _ o n15 e) (fun o e=>kp _ o n18 e) kt,⟨kvs,kp _ _ n20 d1,d2⟩,⟨vs,kp _ _ n21 f1,f2.keep ko kt⟩,⟨us++[.ref t2],Ze,?_⟩,nd,np⟩ fr;exact(g2.keep ko kt).snoc (kt2 _ _ q2) (kt2 _ _ q12) (a2.keep ko kt)
abbrev Wu:Stmt:=Z5 (top 58) 6
theorem Qd:#[an,Wu]:=fnS
theorem Qe(F:#[i,"sheet_at_hand","Season.sheet_at_hand",Wu])(T:#[k]):FnOk P w K mg base #[f] 1 f fd ["self"] (Qs (ca a)):=by
 refine #[n,Qd];obtain⟨A',S,rfl,SA,h1,h2⟩:=h;refine⟨_,(Zb (Zy (Zo Ra #[ae,Zs,0] Yn (Zq _))
  (Zd (Xo Xn rfl T.ztg rfl (Za Zr Zc)))
  Zp)
 (Zd (Zl (Zs (K:=K) rfl (pv 0) rfl)))),?_⟩
 obtain⟨⟨dx,v,a1,a2⟩,b,c,_⟩:=id SA;refine⟨_,rfl,A'.p,a.zn4,dx,_,_,rfl,a1,T.zn5,T.zo2,Va,rfl,_,rfl,?_⟩;cases hc:S.cur with
 | none =>
   rw[hc] at a2;have a2:v=.non:=a2;rw[a2];exact iteT ⟨sz1,h1 hc⟩
 | some s =>
   rw[hc] at a2;obtain⟨q,rfl,hs⟩:=a2;refine iteF ?_;exact⟨_,rfl,A'.p,a.zn4,dx,_,_,rfl,a1,T.zn5,T.zo2,Va,h2 s q hc hs⟩
abbrev Uh:Stmt:=Z5 (top 58) 7
theorem Mq:#[p,["self","at"],["self","at"],Uh]:=fnS
theorem Mr(F:#[i,"sheet_of","Season.sheet_of",Uh])(T:#[k])(zon:Zx P w K mg base a.zn4 "check_round" 1 ["self","at"] (Bw (ca a)))(zoc:Zx P w K mg base a.zn7 "over" 1 ["self"] (Kf a.zn7))(zn6:Zx P w K mg base a.zn4 "at_hand" 2 ["self"] (V8 (ca a)))(zob:Zx P w K mg base a.zn4 "sheet_at_hand" 1 ["self"] (Qs (ca a))):FnOk P w K mg base #[f] 3 f fd ["self","at"] (Kp (ca a)):=by
 refine #[n,Mq];obtain⟨A',S,i,rfl,SA,si,hol,h⟩:=h;refine⟨_,(Zb (Ya (Xs (pv 0) T.zn5 zon (hr.mono ⋯) Zn (Za (pv 1) Zc)))
 (Zb (Zy (Zo zgb (pv 1) (Yp (Zs (K:=K) rfl (pv 0) rfl) T.zos zoc (hr.mono ⋯) Zn) (Zq _))
  (Zd (Zl (pI (iL K) (Zs (K:=K) rfl (pv 0) rfl) (Zt Py (pv 1) Zf))))
  Zp)
 (Zb (Zy (Zo T2 (pv 1) (Yp (pv 0) T.zn5 zn6 (hr.mono ⋯) Zn) (Zq _))
  (Zd (Xo Xn rfl T.ztg rfl (Za (Vi (Z3 (Xz ⋯) (Z3 (W7 (pv 1)) (Z3 (Xz ⋯) Vh))) ⋯) Zc)))
  Zp)
 (Zd (Zl (Yp (pv 0) T.zn5 zob (hr.mono ⋯) Zn)))))),?_⟩
 obtain⟨⟨dx,v,a1,a2⟩,b,c,d,⟨vs,f1,f2⟩,_⟩:=id SA;obtain⟨⟨dxl,hpl⟩,_⟩:=id c;refine⟨_,rfl,A'.p,dx,_,rfl,a1,Yg ⋯,_,rfl,A',S,i,rfl,SA,si,?_⟩;refine it2 h (fun _ z=>z) fun hn h=>?_;refine⟨_,rfl,_,rfl,A'.p,a.zn4,dx,_,_,rfl,a1,T.zn5,T.zpl,Uy,A'.pl,dxl,_,rfl,hpl,Jg ⋯ ⋯,A'.pl,A'.lr,A'.ld,S.led,rfl,c,_,_,rfl,rfl,_,rfl,?_⟩;refine itD (fun hc=>?_) fun hc=>?_
 ·have hk:(i-1).toNat<S.old.length:=by omega
  have hs:V9 S i=some (S.old[(i-1).toNat]'hk):=by unfold V9;rw[if_pos hc];exact zwp hk
  obtain⟨q,e1,e2⟩:=f2.getR (zwp hk);exact⟨_,rfl,A'.p,a.zn4,dx,_,_,rfl,a1,T.zn5,T.zr4,C0,_,rfl,_,_,rfl,rfl,A'.ls,_,_,_,rfl,rfl,SqL.of f1,(show atI vs (i-1)=some (.ref q) by rw[show i-1=(((i-1).toNat:Nat):Int) by omega];exact Zz e1),h.2 _ q hs e2⟩
 ·refine Zu ?_;refine⟨_,rfl,_,rfl,A'.p,dx,_,rfl,a1,Yg ⋯,A',S,rfl,SA,_,_,rfl,rfl,_,rfl,?_⟩;refine itD (fun hc2=>?_) fun hc2=>?_
  ·exact#[ax,_,_,si,h.1 (by unfold V9;rw[#[h,hc],if_pos (by unfold atV at hc2;omega)])]
  ·have hs:V9 S i=S.cur:=by unfold V9;rw[#[h,hc],#[h,(by unfold atV at hc2;omega)]]
   exact⟨_,rfl,A'.p,dx,_,rfl,a1,Yg ⋯,A',S,rfl,SA,fun hz=>h.1 (by rw[hs];exact hz),fun s q hz hq=>h.2 s q (by rw[hs];exact hz) hq⟩
abbrev V1:Stmt:=Z5 (top 58) 8
theorem Wm:#[p,["self","listed","people","at","out"],["self","listed"],V1]:=fnS
theorem Ng(F:#[i,"takers_of","Season.takers_of",V1])(T:#[k])(zph:Zx P w K mg base a.zn9 "numbers" 1 ["self"] (Gy (ca a)))(zqd:Zx P w K mg base a.zn9 "person" 3 #[ad] (zat (ca a)))(zn6:Zx P w K mg base a.zn4 "at_hand" 2 ["self"] (V8 (ca a)))(ztf:Z2 P w K mg base "takers" 4 ["people","match","out","ledger","rest"] (zai K a.zn7)):FnOk P w K mg base #[f] 5 f fd ["self","listed"] (N9 (ca a)):=by
 refine #[n,Wm];obtain⟨A',S,l,ts,ms,rfl,SA,hl,tl,hml,hpl,hsm,h⟩:=h;have hu:=Xy hr;refine⟨_,(Zb (pS 2 Wm.nd (Vb rfl (cT ["self"] [0]) (Z8 (K:=K) rfl (Yp #[ae,Zs,0] T.zor zph (hr.mono ⋯) Zn)) (fun _ _ _ _ _=>Vg) fun _ _ _ _ _=>(Xs #[ae,Zs,1] T.zor zqd (hr.mono ⋯) zad (Za (pv 0) Zc))))
 (Zb (pS 3 Wm.nd (Yp (pv 0) T.zn5 zn6 (hr.mono ⋯) Zn))
 (Zb (pS 4 Wm.nd (Vb rfl (cT ["at","self"] [3,0]) (Z8 (K:=K) rfl (Yp (Zs (K:=K) rfl (pv 0) rfl) T.zor zph (hr.mono ⋯) Zn)) (fun _ _ _ _ _=>Qi (Tf (Nu hu (Yc (Za (pv 1) (Za (pv 0) Zc))) #[ae,Zs,2]))) (fun _ _ _ _ _=>(pv 0))))
 (Zd (Zl (Vb rfl (cT ["people","out","self"] [2,4,0]) (Z8 (K:=K) rfl (pv 1)) (fun _ _ _ _ _=>Vg) (fun _ _ _ _ _=>(zdj ztf (hr.mono ⋯) zad rfl (Za (pv 1) (Za (pv 0) (Za (pv 2) (Za #[ae,Zs,3] (Za #[ae,Zs,3] Zc))))))))))))),?_⟩
 obtain⟨⟨dx,v,a1,a2⟩,b,c,⟨kvs,d1,d2⟩,_⟩:=id SA;obtain⟨⟨dxr,kvr,hpr,hdr,en⟩,ndr⟩:=id b;refine⟨_,rfl,A'.p,a.zn4,dx,_,_,rfl,a1,T.zn5,T.zpm,Ux,A'.pr,dxr,_,rfl,hpr,X0.no ⋯,A'.pr,A'.dr,S.ppl,rfl,b,fun ln hln=>?_⟩;refine al (upd _ ln _) hln rfl fun H1 q1 s1=>?_;have hnl:(S.ppl.map fun x=>V.int x.1).length=S.ppl.length:=by rw[zwo]
 refine⟨ln,rfl,⟨_,SqL.of q1⟩,X5 (K:=K) (xs:=S.ppl.map fun x=>V.int x.1) (fun i ys H'=>#[j]/\Same H1 H'/\Z7 H' ys ((S.ppl.take i).map pV)/\ys.length=i) ⟨s1,Same.refl _,.nil,rfl⟩ (fun i ys H' _ ⟨_,z,_⟩=>#[F,z,q1]) (szN ⋯) (fun i ys H' ⟨_,_,_,e⟩=>by omega) ?_ ?_⟩
 ·rintro i x ys H' hx ⟨sh,s1',tl',hyl⟩;have hi:i<S.ppl.length:=by have:=(zwq.mp hx).1;omega
  have hpi:S.ppl[i]?=some (S.ppl[i]'hi):=zwp hi;have etk:S.ppl.take (i+1)=S.ppl.take i++[S.ppl[i]'hi]:=zw8 hi;have hmem:S.ppl[i]'hi∈S.ppl:=zxd hi;have ex:x=.int (S.ppl[i]'hi).1:=by rw[zws,hpi] at hx;exact(Option.some.inj hx).symm
  generalize (S.ppl[i]'hi)=pp at hpi etk hmem ex;subst ex;unfold tYes;dsimp only;rw[#[P]];refine⟨_,rfl,A'.p,a.zn4,dx,_,_,rfl,sh _ _ a1,T.zn5,T.zpm,Ux,A'.pr,dxr,_,rfl,sh _ _ hpr,X0.no ⋯,_,rfl,A'.pr,A'.dr,S.ppl,pp.1,rfl,b.same sh,hsm pp hmem,fun z=>absurd (zwx.mpr #[L,pp,hmem]) z,fun g c' t H2 hm ht s2 _=>?_⟩;have epp:=zjb b.nd hm hmem rfl;rw[epp] at ht;refine⟨sh.trans s2,s1'.trans s2,?_,by rw[zwr,hyl];rfl⟩;rw[etk,zwv];exact(tl'.same s2).snoc ht
 rintro ys H2 ⟨sh2,s12,tl2,hyl⟩ lp hlp;rw[hnl,zw6] at tl2;refine #[z,lp,hlp,fun H3 q3 SH3=>?_];have s3:=sh2.trans SH3;have tl3:=tl2.same SH3;have SA3:=SA.same s3;refine⟨_,rfl,A'.p,dx,_,rfl,s3 _ _ a1,Yg ⋯,A',S,rfl,SA3,?_⟩;refine⟨_,rfl,A'.p,a.zn4,dx,_,_,rfl,s3 _ _ a1,T.zn5,T.zpm,Ux,A'.pr,dxr,_,rfl,s3 _ _ hpr,X0.no ⋯,A'.pr,A'.dr,S.ppl,rfl,b.same s3,fun ln4 hln4=>?_⟩;refine #[z,ln4,hln4,fun H4 q4 s4=>?_];refine⟨ln4,rfl,⟨_,SqL.of q4⟩,X5 (K:=K) (xs:=S.ppl.map fun x=>V.int x.1) (fun i ys H'=>Same H4 H'/\ys=((S.ppl.take i).filter (pIn S.out (atV S))).map fun x=>V.int x.1) #[w,Same.refl _] (fun i ys H' _ ⟨z,_⟩=>#[F,z,q4]) (szN ⋯) (fun i ys H' ⟨_,e⟩=>by rw[e,zwo];exact zw4 (zxn _ _) (zx1 _ _)) ?_ ?_⟩
 ·rintro i x zs H' hx ⟨s4',rfl⟩;have hi:i<S.ppl.length:=by have:=(zwq.mp hx).1;omega
  have hpi:S.ppl[i]?=some (S.ppl[i]'hi):=zwp hi;have etk:S.ppl.take (i+1)=S.ppl.take i++[S.ppl[i]'hi]:=zw8 hi;have ex:x=.int (S.ppl[i]'hi).1:=by rw[zws,hpi] at hx;exact(Option.some.inj hx).symm
  generalize (S.ppl[i]'hi)=pp at hpi etk ex;subst ex;refine⟨_,rfl,_,rfl,sz2,fun t ht=>?_⟩;refine #[z,t,ht,fun H5 TH5 s5=>?_];have q5:H5 t=some (.tup (([inl (atV S),inl pp.1]:List Key).map kV)):=TH5;have sh5:=s3.trans (s4.trans (s4'.trans s5));refine⟨_,rfl,A'.p,a.zn4,dx,_,_,rfl,sh5 _ _ a1,T.zn5,T.zq0,O4,A'.da,_,rfl,DGet.t (k:=[inl (atV S),inl pp.1]) (sh5 _ _ d1) q5,_,rfl,?_⟩;rw[d2.isSome];have e2:∀ ws,((S.ppl.take (i+1)).filter (pIn S.out (atV S))).map (fun x=>V.int x.1)=((S.ppl.take i).filter (pIn S.out (atV S))).map (fun x=>V.int x.1)++ws↔ws=if pIn S.out (atV S) pp then [V.int pp.1] else []:=fun ws=>by
   rw[etk,zyf,zwv,List.append_cancel_left_eq];cases q:pIn S.out (atV S) pp<;>simp[q,eq_comm]
  refine itB (fun hb=>?_) fun hb=>?_
  ·exact⟨_,rfl,s4'.trans s5,((e2 [V.int pp.1]).mpr (by rw[show pIn S.out (atV S) pp=true from hb];rfl)).symm⟩
  ·refine⟨s4'.trans s5,?_⟩;have:=(e2 []).mpr (by rw[show pIn S.out (atV S) pp=false from hb];rfl);rw[zx4] at this;exact this.symm
 rintro zs H5 ⟨s45,rfl⟩ lo hlo;rw[hnl,zw6];have s6:=s45.trans (Zj (o:=.lst (outV S)) hlo);have q6:upd H5 lo (.lst (outV S)) lo=some (.lst (outV S)):=Ze;show Vp 4 (V.ref lo) _ (upd H5 lo (.lst (outV S))) _;generalize upd H5 lo (.lst (outV S))=H6 at s6 q6;have s36:=s4.trans s6;have s06:=s3.trans s36;have hl6:=s06 _ _ hl;have hts:ts.length=ms.length:=by rw[tl.length,zwo]
 refine⟨_,rfl,l,rfl,⟨_,SqL.of hl6⟩,X5 (K:=K) (xs:=ts) (fun i ys H'=>Same H6 H'/\∃ ls,ys=ls.map V.ref/\ILs H' ls ((mayS S ms).take i)/\ls.length=i/\∀ x∈ls,H x=none) ⟨Same.refl _,[],rfl,.nil,rfl,by simp⟩ (fun i ys H' _ ⟨z,_⟩=>#[F,z,hl6]) (szN ⋯) (fun i ys H' ⟨_,ls,e1,_,e2,_⟩=>by rw[e1,zwo];omega) ?_ ?_⟩
 ·rintro i x ys' H' hx ⟨s6',ls,rfl,il,hll,hfr⟩;obtain⟨tm,m,rfl,hm,htm⟩:=Jz tl hx;have s0:=s06.trans s6';unfold tYes;dsimp only;rw[#[P]];refine⟨_,rfl,_,rfl,_,rfl,_,rfl,A'.p,a.zn4,dx,_,_,rfl,s0 _ _ a1,T.zn5,T.zpl,Uy,_,rfl,A'.p,a.zn4,dx,_,_,rfl,s0 _ _ a1,T.zn5,T.ztr,zja,lp,lo,tm,A'.pl,A'.lr,A'.ld,S.led,ys,S.ppl,outV S,m.1,m.2.1,m.2.2,S.rest,rfl,(s36.trans s6') _ _ q3,tl3.same (s36.trans s6'),s6' _ _ q6,zhl S,s0 _ _ htm,c.same s0,by omega,fun l2 H2 hl2 s2 f2=>?_⟩;rw[zle] at hl2;refine⟨s6'.trans s2,ls++[l2],by rw[zwv];rfl,?_,by rw[zwr,hll];rfl,fun y hy=>?_⟩
  ·have e:(mayS S ms).take (i+1)=(mayS S ms).take i++[G3 S m]:=by
    unfold mayS;rw[zx3,zws,hm];rfl
   rw[e];exact(il.same s2).snoc hl2
  ·rcases zw0.mp hy with z|z
   ·exact hfr y z
   ·rw[zwt.mp z];exact s0.free f2
 ·rintro ys' H' ⟨s6',ls,rfl,il,hll,hfr⟩ l' hl';have hmy:(mayS S ms).length=ms.length:=by unfold mayS;rw[zwo]
  rw[hts,<- hmy,zw6] at il;have s0:=s06.trans s6';exact h l' ls _ Ze (il.same (Zj hl')) (s0.trans (Zj hl')) (s0.free hl') hfr
abbrev Sn:Stmt:=Z5 (top 58) 9
theorem Ij:#[p,#[as],#[as],Sn]:=fnS
theorem Ik(F:#[i,"enrol","Season.enrol",Sn])(T:#[k])(zok:Zx P w K mg base a.zn4 "check_undrawn" 4 ["self"] (Ko (ca a)))(zov:Zx P w K mg base a.zn9 "check_new" 2 #[as] (N7 (ca a)))(zoe:Zx P w K mg base a.zn4 "check_room" 1 ["self"] (Bz (ca a)))(zow:Zx P w K mg base a.zn4 "note" 1 ["self","word","number","at"] (B0 (ca a)))(zn6:Zx P w K mg base a.zn4 "at_hand" 2 ["self"] (V8 (ca a)))(zrq:Zx P w K mg base a.zn9 "add" 3 #[as] (zhk (ca a))):FnOk P w K mg base #[f] 5 f fd #[as] (zd3 (ca a)):=by
 refine #[n,Ij];obtain⟨A',S,n,g,c0,rfl,SA,sm,hz,hz2,h⟩:=h;refine⟨_,(Zb (Ya (Yp (pv 0) T.zn5 zok (hr.mono ⋯) Zn))
 (Zb (Ya (Xs (Zs (K:=K) rfl (pv 0) rfl) T.zor zov (hr.mono ⋯) Zn (Za (pv 1) (Za (pv 2) (Za (pv 3) Zc)))))
 (Zb (Ya (Yp (pv 0) T.zn5 zoe (hr.mono ⋯) Zn))
 (Zb (Ya (Xs (pv 0) T.zn5 zow (hr.mono ⋯) Zn (Za Zr (Za (pv 1) (Za (Yp (pv 0) T.zn5 zn6 (hr.mono ⋯) Zn) Zc)))))
 (Zd (Ya (Xs (Zs (K:=K) rfl (pv 0) rfl) T.zor zrq (hr.mono ⋯) Zn (Za (pv 1) (Za (pv 2) (Za (pv 3) Zc)))))))))),?_⟩
 obtain⟨⟨dx,v,a1,a2⟩,b,c,_⟩:=id SA;obtain⟨⟨dxr,kvr,hpr,hdr,en⟩,ndr⟩:=id b;refine⟨_,rfl,A'.p,dx,_,rfl,a1,Yg ⋯,A',S,rfl,SA,?_⟩;refine it2 h (fun _ z=>z) fun h1 h=>it2 h (fun _ z=>z) fun h2 h=>?_;refine⟨_,rfl,A'.p,a.zn4,dx,_,_,rfl,a1,T.zn5,T.zpm,Ux,A'.pr,dxr,_,rfl,hpr,X0.no ⋯,_,rfl,_,rfl,_,rfl,A'.pr,A'.dr,S.ppl,n,g,c0,rfl,b,sm,?_⟩;refine it2 h (fun _ z=>z) fun h3 h=>it2 h (fun _ z=>z) fun h4 h=>it2 h (fun _ z=>z) fun h5 h=>?_;refine⟨_,rfl,A'.p,dx,_,rfl,a1,Yg ⋯,A',S,rfl,SA,?_⟩;refine it2 h (fun _ z=>z) fun h6 h=>?_;refine⟨_,rfl,A'.p,dx,_,rfl,a1,Yg ⋯,_,rfl,_,rfl,A'.p,dx,_,rfl,a1,Yg ⋯,A',S,rfl,SA,A',S,"enrol",n,atV S,rfl,SA,hz,fun H1 SA1 f1=>?_⟩;obtain⟨⟨dx1,v1,a11,a12⟩,b1,c1,_⟩:=id SA1;obtain⟨⟨dxr1,kvr1,hpr1,hdr1,en1⟩,ndr1⟩:=id b1;refine⟨_,rfl,A'.p,a.zn4,dx1,_,_,rfl,a11,T.zn5,T.zpm,Ux,A'.pr,dxr1,_,rfl,hpr1,X0.no ⋯,_,rfl,_,rfl,_,rfl,A'.pr,A'.dr,S.ppl,n,g,c0,rfl,b1,sm,hz2,?_⟩;rw[#[h,h3],#[h,h4],#[h,h5]];intro H2 R2 k2;obtain⟨SA2,f2⟩:=SA1.setRos R2 k2;exact h H2 SA2 (f1.trans f2)
abbrev U1:Stmt:=Z5 (top 58) 10
theorem S6:#[p,["self","matches","listed"],["self","matches"],U1]:=fnS
theorem Lr(F:#[i,"draw_up","Season.draw_up",U1])(T:#[k])(zok:Zx P w K mg base a.zn4 "check_undrawn" 4 ["self"] (Ko (ca a)))(zs1:Z2 P w K mg base "checked" 3 ["matches"] (G5 K (ca a)))(zoe:Zx P w K mg base a.zn4 "check_room" 1 ["self"] (Bz (ca a)))(zow:Zx P w K mg base a.zn4 "note" 1 ["self","word","number","at"] (B0 (ca a)))(zn6:Zx P w K mg base a.zn4 "at_hand" 2 ["self"] (V8 (ca a)))(zrh:Z2 P w K mg base "drawn_sheet" 4 ["listed","lists"] (zdz (ca a)))(zot:Zx P w K mg base a.zn4 "takers_of" 5 ["self","listed"] (N9 (ca a)))(zpf:Zx P w K mg base a.zn8 "goes" 1 ["self"] (Gz (ca a))):FnOk P w K mg base #[f] 6 f fd ["self","matches"] (za4 K (ca a)):=by
 refine #[n,S6];obtain⟨A',S,b,ts,ms,rfl,SA,hs,tl,sm,hml,hz,po,h⟩:=h;refine⟨_,(Zb (Ya (Yp (pv 0) T.zn5 zok (hr.mono ⋯) Zn))
 (Zb (pS 2 S6.nd (pF zs1 hr (Za (pv 1) Zc)))
 (Zb (Ya (Yp (pv 0) T.zn5 zoe (hr.mono ⋯) Zn))
 (Zb (Ya (Xs (pv 0) T.zn5 zow (hr.mono ⋯) Zn (Za Zr (Za (Zk (cL K) (by rfl) T.zoa PySem.boot_len (Za (pv 2) Zc)) (Za (Yp (pv 0) T.zn5 zn6 (hr.mono ⋯) Zn) Zc)))))
 (Zb (Xk (K:=K) rfl (pv 0) (pF zrh hr (Za (pv 2) (Za (Xs (pv 0) T.zn5 zot (hr.mono ⋯) Zn (Za (pv 2) Zc)) Zc))) rfl)
 (Zd (Zl (Yp (Zs (K:=K) rfl (pv 0) rfl) T.zof zpf (hr.mono ⋯) Zn)))))))),?_⟩
 obtain⟨⟨dx,v,a1,a2⟩,br,cl,_⟩:=id SA;have hts:ts.length=ms.length:=by rw[tl.length,zwo]
 refine⟨_,rfl,A'.p,dx,_,rfl,a1,Yg ⋯,A',S,rfl,SA,?_⟩;refine it2 h (fun _ z=>z) fun h1 h=>it2 h (fun _ z=>z) fun h2 h=>?_;refine⟨_,rfl,b,ts,ms,rfl,hs,tl,sm,hml,h.1,h.2.1,h.2.2.1,fun g1 g2 g3 l1 hl1=>?_⟩;have h4:=h.2.2.2 g1 g2 g3;refine al (upd _ l1 _) hl1 rfl fun H1 q1 s1=>?_;have SA1:=SA.same s1;have a11:=s1 _ _ a1;refine⟨_,rfl,A'.p,dx,_,rfl,a11,Yg ⋯,A',S,rfl,SA1,?_⟩;refine Bj (fun z=>h4.1 z H1 s1) fun hroom=>?_;refine⟨_,rfl,A'.p,dx,_,rfl,a11,Yg ⋯,_,rfl,l1,_,rfl,#[t,q1],_,rfl,A'.p,dx,_,rfl,a11,Yg ⋯,A',S,rfl,SA1,A',S,"draw up",(ts.length:Nat),atV S,rfl,SA1,hz,fun H2 SA2 f2=>?_⟩;rw[hts] at SA2;have ok1:l1∉A'.fp:=SA.newOk l1 hl1;have q12:=f2 _ _ q1 ok1;have tl2:=(tl.same s1).mono (SA1.tups f2);obtain⟨⟨dx2,v2,a21,a22⟩,br2,_⟩:=id SA2;refine⟨_,rfl,_,rfl,A'.p,dx2,_,rfl,a21,Yg ⋯,_,rfl,A',_,l1,ts,ms,rfl,SA2,q12,tl2,by omega,zw4 po.2 ⋯,po.small,fun l2 ls H3 h3 il3 s3 f3 fl3=>?_⟩;have SA3:=SA2.same s3;have mo:Uv (mayS S ms) (S.ppl.map (·.1)):=po.may br2.nd g1;refine⟨(·∉A'.fp),l1,l2,ts,ls,ms,mayS S ms,_,rfl,s3 _ _ q12,tl2.same s3,h3,il3,ok1,SA2.newOk l2 f3,fun x hx=>SA2.newOk x (fl3 x hx),SA3.newOk,mo,fun q gv H4 ShA FP SP s4 fq=>?_⟩;have SA4:=SA3.same s4;obtain⟨⟨dx4,v4,a41,a42⟩,_⟩:=id SA4;refine⟨_,rfl,A'.p,a.zn4,dx4,_,rfl,a41,T.zn5,T.zo2,(by show 8<1000;decide),?_⟩;obtain⟨SA5,f5,Sh5⟩:=SA4.newSheet a41 ShA;generalize upd H4 A'.p (.ins a.zn4 dx4 (putF "sheet" (.ref q) (seaF A' S.len S.rest v4)))=H5 at SA5 f5 Sh5;obtain⟨⟨dx5,v5,a51,a52⟩,_⟩:=id SA5;obtain⟨q',rfl,Sq⟩:=a52;obtain⟨dxq,m1,m2,m3,m4,hq'⟩:=ShAt.ins Sq;refine⟨_,rfl,A'.p,a.zn4,dx5,_,_,rfl,a51,T.zn5,T.zo2,Va,q',dxq,_,rfl,hq',Ti ⋯ ⋯ ⋯ ⋯,(·∉A'.fp),q',_,rfl,Sq,fun l H6 hl s6 fl=>?_⟩;have fr5:FrS A' H H5:=(FrS.of A' s1).trans (f2.trans ((FrS.of A' (s3.trans s4)).trans f5));exact h4.2 ⋯ l gv H6 hl (SA5.same s6) FP SP (fr5.trans (FrS.of A' s6)) (fr5.free SA5 fl)
abbrev Rn:Stmt:=Z5 (top 58) 11
theorem Ea:#[p,["self","at","number"],["self","at","number"],Rn]:=fnS
theorem Eb(F:#[i,"away","Season.away",Rn])(T:#[k])(zon:Zx P w K mg base a.zn4 "check_round" 1 ["self","at"] (Bw (ca a)))(zoc:Zx P w K mg base a.zn7 "over" 1 ["self"] (Kf a.zn7))(zom:Zx P w K mg base a.zn9 "check_known" 1 #[ad] (Qr (ca a)))(zoe:Zx P w K mg base a.zn4 "check_room" 1 ["self"] (Bz (ca a)))(zow:Zx P w K mg base a.zn4 "note" 1 ["self","word","number","at"] (B0 (ca a)))(zn6:Zx P w K mg base a.zn4 "at_hand" 2 ["self"] (V8 (ca a)))(zpz:Zx P w K mg base a.zn4 "step_in" 6 #[ad] (za5 (ca a))):FnOk P w K mg base #[f] 7 f fd ["self","at","number"] (zho (ca a)):=by
 refine #[n,Ea];obtain⟨A',S,i,n,rfl,SA,si,sn,hz,hoz,po,hcur,h⟩:=h;have hu:=Xy hr;refine⟨_,(Zb (Ya (Xs (pv 0) T.zn5 zon (hr.mono ⋯) Zn (Za (pv 1) Zc)))
 (Zb (Zy (Zo zgb (pv 1) (Yp (Zs (K:=K) rfl (pv 0) rfl) T.zos zoc (hr.mono ⋯) Zn) (Zq _))
  (Zd (Xo Xn rfl T.ztu rfl (Za (Vi (Z3 (Xz ⋯) (Z3 (W7 (pv 1)) (Z3 (Xz ⋯) Vh))) ⋯) Zc)))
  Zp)
 (Zb (Ya (Xs (Zs (K:=K) rfl (pv 0) rfl) T.zor zom (hr.mono ⋯) Zn (Za (pv 2) Zc)))
 (Zb (Zy (Tf (Nu hu (Yc (Za (pv 1) (Za (pv 2) Zc))) (Zs (K:=K) rfl (pv 0) rfl)))
  (Zd (Xo Xn rfl T.ztj rfl (Za (Vi (Z3 (Xz ⋯) (Z3 (W7 (pv 2)) (Z3 (Xz ⋯) (Z3 (W7 (pv 1)) (Z3 (Xz ⋯) Vh))))) ⋯) Zc)))
  Zp)
 (Zb (Ya (Yp (pv 0) T.zn5 zoe (hr.mono ⋯) Zn))
 (Zb (Ya (Xs (pv 0) T.zn5 zow (hr.mono ⋯) Zn (Za Zr (Za (pv 2) (Za (pv 1) Zc)))))
 (Zb (Ym hu (Zs (K:=K) rfl (pv 0) rfl) (Yc (Za (pv 1) (Za (pv 2) Zc))) Yr rfl)
 (Zb (Zy (PW.pt (X8 (Zo T2 (pv 1) (Yp (pv 0) T.zn5 zn6 (hr.mono ⋯) Zn) (Zq _)) (Xu (Zo Ra (Zs (K:=K) rfl (pv 0) rfl) Yn (Zq _)))))
  (Zd (Zl (Z6 Zc)))
  Zp)
 (Zd (Zl (Xs (pv 0) T.zn5 zpz (hr.mono ⋯) Zn (Za (pv 2) Zc)))))))))))),?_⟩
 show let y1:TS:=_;let y2:TS:=Zw _ y1;let y3:TS:=Zw _ y2;let y4:TS:=Zw _ y3;let y5:TS:=Zw _ y4;let y6:TS:=Zw _ y5;let y7:TS:=Zw _ y6;let y8:TS:=Zw _ y7;Zw _ y8 _ _ _;intro y1 y2 y3 y4 y5 y6 y7 y8;obtain⟨⟨dx,v,a1,a2⟩,br,cl,⟨kvs,d1,d2⟩,_⟩:=id SA;obtain⟨⟨dxl,hpl⟩,_⟩:=id cl;obtain⟨⟨dxr,kvr,hpr,hdr,en⟩,ndr⟩:=id br;refine⟨_,rfl,A'.p,dx,_,rfl,a1,Yg ⋯,_,rfl,A',S,i,rfl,SA,si,?_⟩;refine it2 h (fun _ z=>z) fun h1 h=>?_;refine⟨_,rfl,_,rfl,A'.p,a.zn4,dx,_,_,rfl,a1,T.zn5,T.zpl,Uy,A'.pl,dxl,_,rfl,hpl,Jg ⋯ ⋯,A'.pl,A'.lr,A'.ld,S.led,rfl,cl,_,_,rfl,rfl,_,rfl,?_⟩;refine itD (fun hc=>?_) fun hc=>?_
 ·rw[if_pos hc] at h;exact#[ax,_,_,si,h]
 rw[#[h,hc]] at h;refine Zu ?_;refine⟨_,rfl,A'.p,a.zn4,dx,_,_,rfl,a1,T.zn5,T.zpm,Ux,A'.pr,dxr,_,rfl,hpr,X0.no ⋯,_,rfl,A'.pr,A'.dr,S.ppl,n,rfl,br,sn,?_⟩;refine it2 h (fun hk h=>?_) fun _ z=>z;refine⟨_,rfl,_,rfl,sz2,fun t ht=>?_⟩;refine al (upd _ t _) ht rfl fun H1 TH1 s1=>?_;have q1:H1 t=some (.tup (([inl i,inl n]:List Key).map kV)):=TH1;have SA1:=SA.same s1;have a11:=s1 _ _ a1;refine⟨_,rfl,A'.p,a.zn4,dx,_,_,rfl,a11,T.zn5,T.zq0,O4,A'.da,_,rfl,DGet.t (k:=[inl i,inl n]) (s1 _ _ d1) q1,_,rfl,?_⟩;rw[d2.isSome];refine itD (fun hm=>?_) fun hm=>?_
 ·rw[if_pos hm] at h;exact#[Y,_,.inl ⟨_,rfl,sn⟩,_,.inl ⟨_,rfl,si⟩,fun z=>⟨sz1,h H1 s1⟩]
 rw[#[h,hm]] at h;refine Zu ?_;refine⟨_,rfl,A'.p,dx,_,rfl,a11,Yg ⋯,A',S,rfl,SA1,?_⟩;refine it2 h (fun _ z=>z H1 s1) fun h6 h=>?_;refine⟨_,rfl,A'.p,dx,_,rfl,a11,Yg ⋯,_,rfl,_,rfl,A',S,"away",n,i,rfl,SA1,hz,fun H2 SA2 f2=>?_⟩;obtain⟨⟨dx2,v2,a21,a22⟩,br2,cl2,⟨kvs2,d21,d22⟩,_⟩:=id SA2;refine⟨_,rfl,A'.p,a.zn4,dx2,_,_,rfl,a21,T.zn5,T.zq0,O4,_,rfl,_,rfl,sz2,fun t2 ht2=>?_⟩;refine #[z,t2,ht2,fun H3 TH3 s3=>?_];have q3:H3 t2=some (.tup (([inl i,inl n]:List Key).map kV)):=TH3;have SA3:=SA2.same s3;refine⟨A'.da,_,rfl,DPut.t (k:=[inl i,inl n]) (s3 _ _ d21) q3 (by have:=d22.2;have h9:kvs2.length<=S.out.length:=this;have:=T9;omega),?_⟩;obtain⟨SA4,f4⟩:=SA3.setOut (out:=S.out++[(i,n)]) Ze (d22.put i n) (fun b o e hb=>by rw[Zh hb];exact e);generalize upd H3 A'.da (.dT (putK kvs2 [inl i,inl n] (.bl true)))=H4 at SA4 f4;have SA4:Z1 (ca a) H4 A' (Xw S i n):=SA4;have fr4:FrS A' H H4:=(FrS.of A' s1).trans (f2.trans ((FrS.of A' s3).trans f4));obtain⟨⟨dx4,v4,a41,a42⟩,br4,_⟩:=id SA4;have empty:(S.cur=none\/atV S<i)->∀ l,H4 l=none->Q (.ref l) (upd H4 l (.lst [])):=fun hz l hl=>h.1 hz l _ Ze (SA4.same (Zj hl)) (fr4.trans (FrS.of A' (Zj hl))) (fr4.free SA4 hl);refine⟨_,rfl,_,rfl,A'.p,dx4,_,rfl,a41,Yg ⋯,A',_,rfl,SA4,_,_,rfl,rfl,_,rfl,?_⟩;refine itD (fun hgt=>?_) fun hle=>?_
 ·refine iteT ?_;exact#[aq,fun l hl=>empty (.inr hgt) l hl]
 have hat:i=atV S:=by
  have hle:¬ (atV S<i):=hle;unfold atV at hle ⊢;omega
 refine⟨_,rfl,A'.p,a.zn4,dx4,_,_,rfl,a41,T.zn5,T.zo2,Va,rfl,_,rfl,?_⟩;cases hc4:S.cur with
 | none =>
   have e4:v4=.non:=by
    have:ShO a.zn8 (·∉A'.fp) H4 v4 S.cur:=a42;rw[hc4] at this;exact this
   rw[e4];refine iteT ?_;exact#[aq,fun l hl=>empty (.inl hc4) l hl]
 | some s =>
   have e4:∃ q,v4=.ref q:=by
    have:ShO a.zn8 (·∉A'.fp) H4 v4 S.cur:=a42;rw[hc4] at this;obtain⟨q,e,_⟩:=this;exact⟨q,e⟩
   obtain⟨q4,rfl⟩:=e4;refine #[V];obtain⟨hm20,FP,emay,hgz⟩:=hcur s hc4;have po4:Od (Xw S i n):=po;have hgl:s.gv.length<=100:=by rw[FP.len,emay];unfold mayS;rw[zwo];omega
   refine⟨_,rfl,A'.p,dx4,_,rfl,a41,Yg ⋯,_,rfl,A',Xw S i n,n,s,(Xw S i n).ppl.map (·.1),rfl,SA4,hc4,po4,hm20,FP.one,hgl,hgz,po4.may br4.nd hm20,fun hp l H5 hl SA5 f5 fl=>?_,fun p hp=>?_⟩
   ·exact h.2.1 s hat hc4 hp l H5 hl SA5 (fr4.trans f5) (fr4.free SA4 fl)
   ·have hgp:=Qv hp;refine⟨hgp,fun j hj=>FP.inj j p n hj hgp,?_,fun l us st e w' H5 hl tl CR SA5 f5 fl=>?_⟩
    ·rw[hat,Ua,<- emay];exact V7 FP hgp
    ·exact h.2.2 s p hat hc4 hp l us st e w' H5 hl tl CR SA5 (fr4.trans f5) (fr4.free SA4 fl)
abbrev U2:Stmt:=Z5 (top 58) 12
theorem Ui:#[p,["self","number","lists","fallen"],#[ad],U2]:=fnS
theorem Ls(F:#[i,"step_in","Season.step_in",U2])(T:#[k])(zot:Zx P w K mg base a.zn4 "takers_of" 5 ["self","listed"] (N9 (ca a)))(zqe:Zx P w K mg base a.zn8 "matches" 1 ["self"] (Jl (ca a)))(zpc:Zx P w K mg base a.zn8 "where" 2 #[ad] (Km (ca a)))(zqv:Zx P w K mg base a.zn8 "barred" 3 ["self","lists"] (zax (ca a)))(zpq:Zx P w K mg base a.zn8 "fallen_out" 3 ["self","number","lists"] (zay (ca a)))(zqm:Zx P w K mg base a.zn8 "chains" 1 ["self"] (G1 (ca a))):FnOk P w K mg base #[f] 6 f fd #[ad] (za5 (ca a)):=by
 refine #[n,Ui];obtain⟨A',S,n,s,nu,rfl,SA,hc,po,hml,ho,hgl,hgz,mo,h1,h2⟩:=h;refine⟨_,(Zb (pS 2 Ui.nd (Xs (pv 0) T.zn5 zot (hr.mono ⋯) Zn (Za (Yp #[ae,Zs,0] T.zof zqe (hr.mono ⋯) Zn) Zc)))
 (Zb (Zy (Zo Ra (Xs (Zs (K:=K) rfl (pv 0) rfl) T.zof zpc (hr.mono ⋯) Zn (Za (pv 1) Zc)) Yn (Zq _))
  (Zb (Xk (K:=K) rfl (pv 0) (Xs (Zs (K:=K) rfl (pv 0) rfl) T.zof zqv (hr.mono ⋯) Zn (Za (pv 2) Zc)) rfl)
  (Zd (Zl (Z6 Zc))))
  Zp)
 (Zb (Xk (K:=K) rfl (pv 0) (Xs (Zs (K:=K) rfl (pv 0) rfl) T.zof zpq (hr.mono ⋯) Zn (Za (pv 1) (Za (pv 2) Zc))) rfl)
 (Zb (pS 3 Ui.nd (Yp (Zs (K:=K) rfl (pv 0) rfl) T.zof zqm (hr.mono ⋯) Zn))
 (Zd (Zl (pI (iU K) (pI (iL K) (pv 3) (Pf Tg Zf)) Zf))))))),?_⟩
 obtain⟨⟨dx,v,a1,a2⟩,br,cl,_⟩:=id SA;rw[hc] at a2;obtain⟨q,rfl,Sq⟩:=a2;obtain⟨dxq,m1,m2,m3,m4,hq⟩:=ShAt.ins Sq;refine⟨_,rfl,A'.p,dx,_,rfl,a1,Yg ⋯,_,rfl,A'.p,a.zn4,dx,_,_,rfl,a1,T.zn5,T.zo2,Va,q,dxq,_,rfl,hq,Ti ⋯ ⋯ ⋯ ⋯,(·∉A'.fp),q,s,rfl,Sq,fun l1 ts H1 hl1 tl s1 f1=>?_⟩;have SA1:=SA.same s1;refine⟨A',S,l1,ts,s.ms,rfl,SA1,hl1,tl,by omega,zw4 po.2 ⋯,po.small,fun l2 ls H2 h3 il3 s2 f3 fl3=>?_⟩;have s12:=s1.trans s2;have SA2:=SA1.same s2;have Sq2:=Sq.same s12;refine⟨_,rfl,A'.p,a.zn4,dx,_,_,rfl,s12 _ _ a1,T.zn5,T.zo2,Va,q,dxq,_,rfl,s12 _ _ hq,Ti ⋯ ⋯ ⋯ ⋯,_,rfl,(·∉A'.fp),q,s,n,rfl,Sq2,ho,hgl,fun H3 s3=>?_⟩;have s13:=s12.trans s3;have SA3:=SA2.same s3;have Sq3:=Sq2.same s3;have il4:=il3.same s3;refine⟨rfl,_,rfl,?_⟩;cases hp:Wh s.gv n with
 | none =>
   refine iteT ?_;refine⟨_,rfl,A'.p,a.zn4,dx,_,_,rfl,s13 _ _ a1,T.zn5,T.zo2,Va,q,dxq,_,rfl,s13 _ _ hq,Ti ⋯ ⋯ ⋯ ⋯,_,rfl,(·∉A'.fp),q,l2,ls,mayS S s.ms,s,rfl,Sq3,s3 _ _ h3,il4,SA1.newOk l2 f3,fun x hx=>SA1.newOk x (fl3 x hx),SA3.newOk,fun q' H4 ShA s4 fq=>?_⟩;have SA4:=SA3.same s4;obtain⟨⟨dx4,v4,a41,a42⟩,_⟩:=id SA4;refine⟨_,rfl,A'.p,a.zn4,dx4,_,rfl,a41,T.zn5,T.zo2,(by show 8<1000;decide),?_⟩;obtain⟨SA5,f5,Sh5⟩:=SA4.newSheet a41 ShA;generalize upd H4 A'.p (.ins a.zn4 dx4 (putF "sheet" (.ref q') (seaF A' S.len S.rest v4)))=H5 at SA5 f5 Sh5;have fr5:FrS A' H H5:=(FrS.of A' (s13.trans s4)).trans f5;refine#[aq,fun l hl=>?_];exact h1 hp l _ Ze (SA5.same (Zj hl)) (fr5.trans (FrS.of A' (Zj hl))) (fr5.free SA5 hl)
 | some p =>
   refine #[V];obtain⟨hgp,hun,FP,h3'⟩:=h2 p hp;refine⟨_,rfl,A'.p,a.zn4,dx,_,_,rfl,s13 _ _ a1,T.zn5,T.zo2,Va,q,dxq,_,rfl,s13 _ _ hq,Ti ⋯ ⋯ ⋯ ⋯,_,rfl,_,rfl,(·∉A'.fp),q,l2,ls,mayS S s.ms,nu,s,n,p,rfl,Sq3,s3 _ _ h3,il4,SA1.newOk l2 f3,fun x hx=>SA1.newOk x (fl3 x hx),SA3.newOk,mo,ho,hgp,hun,FP,by omega,fun q' st e w' H4 ShA CR s4 fq=>?_⟩;have SA4:=SA3.same s4;obtain⟨⟨dx4,v4,a41,a42⟩,_⟩:=id SA4;refine⟨_,rfl,A'.p,a.zn4,dx4,_,rfl,a41,T.zn5,T.zo2,(by show 8<1000;decide),?_⟩;obtain⟨SA5,f5,Sh5⟩:=SA4.newSheet a41 ShA;generalize upd H4 A'.p (.ins a.zn4 dx4 (putF "sheet" (.ref q') (seaF A' S.len S.rest v4)))=H5 at SA5 f5 Sh5;have fr5:FrS A' H H5:=(FrS.of A' (s13.trans s4)).trans f5;obtain⟨⟨dx5,v5,a51,a52⟩,_⟩:=id SA5;obtain⟨q5,rfl,Sq5⟩:=a52;obtain⟨dxq5,m51,m52,m53,m54,hq5⟩:=ShAt.ins Sq5;refine⟨_,rfl,A'.p,a.zn4,dx5,_,_,rfl,a51,T.zn5,T.zo2,Va,q5,dxq5,_,rfl,hq5,Ti ⋯ ⋯ ⋯ ⋯,(·∉A'.fp),q5,_,rfl,Sq5,by show (s.gaps++[(n,st)]).length<=1000;rw[zwr];show s.gaps.length+1<=1000;omega,fun l us H6 hl gl s6 fl=>?_⟩;obtain⟨vs',t,l',us',rfl,ht,hl',tl',ok',_⟩:=W5.unsnoc gl;refine⟨_,rfl,_,rfl,l,_,_,_,rfl,rfl,SqL.of hl,atI_last,t,_,_,_,rfl,rfl,SqT.of ht,rfl,?_⟩;exact h3' l' us' st e w' H6 hl' tl' CR (SA5.same s6) (fr5.trans (FrS.of A' s6)) (fr5.free SA5 ok')
abbrev So:Stmt:=Z5 (top 58) 13
theorem Pm:#[p,["self","sheet"],["self"],So]:=fnS
theorem Il(F:#[i,"close","Season.close",So])(T:#[k])(zoi:Zx P w K mg base a.zn4 "check_not_over" 3 ["self"] (Kn (ca a)))(zob:Zx P w K mg base a.zn4 "sheet_at_hand" 1 ["self"] (Qs (ca a)))(zqy:Zx P w K mg base a.zn7 "write" 1 ["self","rows"] (zav a.zn7))(zry:Zx P w K mg base a.zn8 "rows" 1 ["self"] (zaz (ca a)))(zoc:Zx P w K mg base a.zn7 "over" 1 ["self"] (Kf a.zn7)):FnOk P w K mg base #[f] 4 f fd ["self"] (zd4 (ca a)):=by
 refine #[n,Pm];obtain⟨A',S,rfl,SA,ht,hl,hol,hcur,h⟩:=h;refine⟨_,(Zb (Ya (Yp (pv 0) T.zn5 zoi (hr.mono ⋯) Zn))
 (Zb (pS 1 Pm.nd (Yp (pv 0) T.zn5 zob (hr.mono ⋯) Zn))
 (Zb (Ya (Xs (Zs (K:=K) rfl (pv 0) rfl) T.zos zqy (hr.mono ⋯) Zn (Za (Yp (pv 1) T.zof zry (hr.mono ⋯) Zn) Zc)))
 (Zb (Yu (Zs (K:=K) rfl (pv 0) rfl) (pv 1))
 (Zb (Xk (K:=K) rfl (pv 0) Yn rfl)
 (Zb (Xk (K:=K) rfl (pv 0) (Z6 Zc) rfl)
 (Zd (Zl (Yp (Zs (K:=K) rfl (pv 0) rfl) T.zos zoc (hr.mono ⋯) Zn))))))))),?_⟩
 obtain⟨⟨dx,v,a1,a2⟩,br,cl,_⟩:=id SA;obtain⟨⟨dxl,hpl⟩,_⟩:=id cl;refine⟨_,rfl,A'.p,dx,_,rfl,a1,Yg ⋯,A',S,rfl,SA,?_⟩;refine it2 h (fun _ z=>z) fun h1 h=>?_;refine⟨_,rfl,A'.p,dx,_,rfl,a1,Yg ⋯,A',S,rfl,SA,h.1,fun s q hc Sq=>?_⟩;obtain⟨ho,hgl,hml⟩:=hcur s hc;obtain⟨dxq,m1,m2,m3,m4,hq⟩:=ShAt.ins Sq;refine⟨_,rfl,A'.p,a.zn4,dx,_,_,rfl,a1,T.zn5,T.zpl,Uy,A'.pl,dxl,_,rfl,hpl,Jg ⋯ ⋯,_,rfl,q,dxq,_,rfl,hq,Ti ⋯ ⋯ ⋯ ⋯,(·∉A'.fp),q,s,rfl,Sq,ho,hgl,hml,fun l1 ts H1 hl1 tl s1 f1=>?_⟩;have SA1:=SA.same s1;have ok1:l1∉A'.fp:=SA.newOk l1 f1;refine⟨A'.pl,A'.lr,A'.ld,S.led,l1,ts,Z9 s,rfl,SA1.led,hl1,#[av,ok1],tl,by rw[za0 hgl];omega,hl,fun H2 L2' k2=>?_⟩;obtain⟨SA2,f2⟩:=SA1.setLed L2' k2;obtain⟨⟨dx2,v2,a21,a22⟩,br2,cl2,d2,⟨vs,f21,f22⟩,_⟩:=id SA2;have Sq2:=(Sq.same s1).keep (fun x o hx e=>f2 x o e hx) (SA1.tups f2);refine⟨_,rfl,A'.p,a.zn4,dx2,_,_,rfl,a21,T.zn5,T.zr4,C0,A'.ls,vs,rfl,f21,_,rfl,vs,f21,by have:=f22.length;have h9:vs.length=S.old.length:=this;have:=T9;omega,?_⟩;have k3:∀ b o,H2 b=#[d]->b≠A'.ls->upd H2 A'.ls (.lst (vs++[.ref q])) b=#[d]:=fun b o e hb=>by rw[Zh hb];exact e
 have kt3:∀ t xs,H2 t=#[J,xs]->upd H2 A'.ls (.lst (vs++[.ref q])) t=#[J,xs]:=fun t xs e=>k3 t _ e (Y6 e f21 (fun z=>nomatch z));have ko3:∀ x o,x∉A'.fp->H2 x=#[d]->upd H2 A'.ls (.lst (vs++[.ref q])) x=#[d]:=fun x o hx e=>k3 x o e #[av,hx];obtain⟨SA3,f3⟩:=SA2.setOld (old:=S.old++[s]) Ze ((f22.keep ko3 kt3).snoc (Sq2.keep ko3 kt3)) k3;generalize upd H2 A'.ls (.lst (vs++[.ref q]))=H3 at SA3 f3;obtain⟨⟨dx3,v3,a31,a32⟩,_⟩:=id SA3;refine⟨_,rfl,A'.p,a.zn4,dx3,_,rfl,a31,T.zn5,T.zo2,(by show 8<1000;decide),?_⟩;obtain⟨SA4,f4⟩:=SA3.setCur (H':=upd H3 A'.p (.ins a.zn4 dx3 (putF "sheet" .non (seaF A' S.len S.rest v3)))) (cur:=none) (v:=.non) ⟨dx3,by rw[Ze];exact congrArg (fun x=>some (HO.ins a.zn4 dx3 x)) Ma⟩ rfl (fun b o e hb=>by rw[Zh hb];exact e);generalize upd H3 A'.p (.ins a.zn4 dx3 (putF "sheet" .non (seaF A' S.len S.rest v3)))=H4 at SA4 f4;obtain⟨⟨dx4,v4,a41,a42⟩,_⟩:=id SA4;refine#[aq,fun x hx=>?_];have npx:A'.p≠x:=Zg a41 hx;refine⟨_,rfl,A'.p,a.zn4,dx4,_,rfl,(by rw[Zh npx];exact a41),T.zn5,T.zpa,(by show 8<1000;decide),?_⟩;obtain⟨SA5,f5⟩:=SA4.freshStd hx a41 a42 rfl;have fr4:FrS A' H H4:=(FrS.of A' s1).trans (f2.trans (f3.trans f4));have fx:H x=none:=fr4.free SA4 hx;generalize upd (upd H4 x (.lst [])) A'.p (.ins a.zn4 dx4 (putF "standing" (.ref x) (seaF A' S.len S.rest v4)))=H5 at SA5 f5;have SA5:Z1 (ca a) H5 { A' with lt:=x } (B1 S s):=SA5;obtain⟨⟨dx5,v5,a51,a52⟩,br5,cl5,_⟩:=id SA5;obtain⟨⟨dxl5,hpl5⟩,_⟩:=id cl5;refine⟨_,rfl,A'.p,a.zn4,dx5,_,_,rfl,a51,T.zn5,T.zpl,Uy,A'.pl,dxl5,_,rfl,hpl5,Jg ⋯ ⋯,A'.pl,A'.lr,A'.ld,S.led++[Z9 s],rfl,cl5,?_⟩;have hfin:=h.2 s x H5 hc SA5 (fr4.trans f5) fx;have e:(((S.led++[Z9 s]).length:Nat):Int)=atV S:=by rw[zwr];rfl
 rw[e];exact hfin
abbrev V2:Stmt:=Z5 (top 58) 14
theorem Vo:#[p,["self","last","deed"],["self"],V2]:=fnS
theorem Nh(F:#[i,"take_back","Season.take_back",V2])(T:#[k])(zqc:Zx P w K mg base a.zn9 "strike" 1 #[ad] (zar (ca a))):FnOk P w K mg base #[f] 2 f fd ["self"] (G7 (ca a)):=by
 refine #[n,Vo];obtain⟨A',S,rfl,SA,h1,h2⟩:=h;have hu:=Xy hr;refine⟨_,(Zb (Zy (Yt (Cf (K:=K) rfl #[ae,Zs,0] fun _=>rfl))
  (Zd (Xo Xn rfl T.zsf rfl (Za Zr Zc)))
  Zp)
 (Zb (pS 1 Vo.nd (zgq PySem.F.plainAttrs_list PySem.F.slot_list_pop PySem.F.type_list_pop zkt (Zs (K:=K) rfl (pv 0) rfl)))
 (Zb (pS 2 Vo.nd (pI (iU K) (pv 1) Zf))
 (Zb (Xk (K:=K) rfl (pv 0) (pI (iU K) (pv 1) Zf) rfl)
 (Zb (Zy (Zo Xv (pI (iU K) (pv 2) Zf) Zr (Zq _))
  (Zd (Ya (Xs (Zs (K:=K) rfl (pv 0) rfl) T.zor zqc (hr.mono ⋯) Zn (Za (pI (iU K) (pv 2) Zf) Zc))))
  Zp)
 (Zb (Zy (Zo Xv (pI (iU K) (pv 2) Zf) Zr (Zq _))
  (Zd (Ya (zhj hu (Zs (K:=K) rfl (pv 0) rfl) (Yc (Za (pI (iU K) (pv 2) Zf) (Za (pI (iU K) (pv 2) Zf) Zc))) ⟨rfl,rfl,rfl,rfl⟩)))
  Zp)
 (Zd (Zl (pv 2))))))))),?_⟩
 show let y1:TS:=_;let y2:TS:=Zw _ y1;let y3:TS:=Zw _ y2;let y4:TS:=Zw _ y3;let y5:TS:=Zw _ y4;let y6:TS:=Zw _ y5;Zw _ y6 _ _ _;intro y1 y2 y3 y4 y5 y6;obtain⟨⟨dx,v,a1,a2⟩,br,cl,d0,f0,⟨us,g1,g2⟩,_⟩:=id SA;refine⟨_,rfl,A'.p,a.zn4,dx,_,_,rfl,a1,T.zn5,T.zpa,Tc,_,.inl ⟨_,SqL.of g1,rfl⟩,?_⟩;have hul:=g2.length;rcases List.eq_nil_or_concat S.std with hn|⟨std',⟨d,s⟩,he⟩
 ·rw[hn] at hul;have hu0:us=[]:=zyh.mp hul;rw[hu0];exact iteT ⟨sz1,h1 hn⟩
 have he:S.std=std'++[(d,s)]:=by rw[he,List.concat_eq_append]
 rw[he] at g2;obtain⟨vs',t,u,v',rfl,ht,hu',hs,g3⟩:=Us.unsnoc g2;have hne:(vs'++[V.ref t]).isEmpty=false:=by cases vs'<;>rfl
 rw[hne];refine #[V];obtain⟨ppl,out,hbk,hfin⟩:=h2 std' d s he;refine⟨_,rfl,A'.p,a.zn4,dx,_,_,rfl,a1,T.zn5,T.zpa,Tc,.inl ⟨rfl,_,SqL.of g1⟩,A'.lt,_,V.ref t,rfl,rfl,g1,by simp,?_⟩;rw[List.dropLast_concat];have k1:∀ b o,H b=#[d]->b≠A'.lt->upd H A'.lt (.lst vs') b=#[d]:=fun b o e hb=>by rw[Zh hb];exact e
 have kt1:∀ t xs,H t=#[J,xs]->upd H A'.lt (.lst vs') t=#[J,xs]:=fun t xs e=>k1 t _ e (Y6 e g1 (fun z=>nomatch z));have ko1:∀ x o,x∉A'.fp->H x=#[d]->upd H A'.lt (.lst vs') x=#[d]:=fun x o hx e=>k1 x o e #[av,hx];obtain⟨SA1,f1⟩:=SA.setStd (std:=std') Ze (g3.keep ko1 kt1) k1;have ht1:=kt1 _ _ ht;have hu1:=kt1 _ _ hu';have hs1:=hs.keep ko1 kt1;generalize upd H A'.lt (.lst vs')=H1 at SA1 f1 ht1 hu1 hs1;refine⟨_,rfl,t,_,_,_,rfl,rfl,SqT.of ht1,rfl,?_⟩;obtain⟨⟨dx1,v1,a11,a12⟩,_⟩:=id SA1;refine⟨_,rfl,t,_,_,_,rfl,rfl,SqT.of ht1,rfl,_,rfl,A'.p,a.zn4,dx1,_,rfl,a11,T.zn5,T.zo2,(by show 8<1000;decide),?_⟩;have k2:∀ b o,H1 b=#[d]->b≠A'.p->upd H1 A'.p (.ins a.zn4 dx1 (putF "sheet" v' (seaF A' S.len S.rest v1))) b=#[d]:=fun b o e hb=>by rw[Zh hb];exact e
 have kt2:∀ t xs,H1 t=#[J,xs]->upd H1 A'.p (.ins a.zn4 dx1 (putF "sheet" v' (seaF A' S.len S.rest v1))) t=#[J,xs]:=fun t xs e=>k2 t _ e (Y6 e a11 (fun z=>nomatch z));obtain⟨SA2,f2⟩:=SA1.setCur (cur:=s) (v:=v') ⟨dx1,by rw[Ze];exact congrArg (fun x=>some (HO.ins a.zn4 dx1 x)) Ma⟩ (hs1.keep (fun x o hx e=>k2 x o e #[av,hx]) kt2) k2;have hu2:=kt2 _ _ hu1;generalize upd H1 A'.p (.ins a.zn4 dx1 (putF "sheet" v' (seaF A' S.len S.rest v1)))=H2 at SA2 f2 hu2;have fr2:=f1.trans f2;have d0:atI (Vj d) 0=#[b,.str,d.1]:=rfl;have d1:atI (Vj d) 1=#[b,.int,d.2.1]:=rfl;have d2:atI (Vj d) 2=#[b,.int,d.2.2]:=rfl;have es:∀ w:Str,#[g,V.str d.1=V.str w]=decide (d.1=w):=fun w=>by
  by_cases z:d.1=w
  ·rw[zwu z,zwu (congrArg V.str z)]
  ·rw[zwz z,zwz fun q=>z (V.str.inj q)]
 walk_at "if";refine Yk ?_;refine⟨_,rfl,u,_,_,_,rfl,rfl,SqT.of hu2,d0,rfl,_,rfl,?_⟩;rw[es];obtain⟨⟨dx2,v2,a21,a22⟩,br2,cl2,⟨kvs2,e21,e22⟩,_⟩:=id SA2;have n1:¬ (("enrol":Str)="away"):=by decide +kernel
 have n2:¬ (("draw up":Str)="away"):=by decide +kernel
 have n3:¬ (("draw up":Str)="enrol"):=by decide +kernel
 have n4:¬ (("away":Str)="enrol"):=by decide +kernel
 rcases hbk with ⟨hd,⟨g,c0,hp⟩,ho⟩|⟨hd,hp,ho,hno⟩|⟨hd,hp,ho⟩
 ·rw[zwu hd];refine iteT ?_;obtain⟨⟨dxr,kvr,hpr,hdr,en⟩,ndr⟩:=id br2;refine⟨_,rfl,A'.p,a.zn4,dx2,_,_,rfl,a21,T.zn5,T.zpm,Ux,A'.pr,dxr,_,rfl,hpr,X0.no ⋯,_,rfl,u,_,_,_,rfl,rfl,SqT.of hu2,d1,A'.pr,A'.dr,ppl,d.2.1,g,c0,rfl,(show X0 a.zn9 H2 A'.pr A'.dr (ppl++[(d.2.1,g,c0)]) by have:X0 a.zn9 H2 A'.pr A'.dr S.ppl:=br2;rw[hp] at this;exact this),fun H3 R3 k3=>?_⟩;obtain⟨SA3,f3⟩:=SA2.setRos R3 k3;have hu3:=SA2.tups f3 _ _ hu2;refine⟨_,rfl,u,_,_,_,rfl,rfl,SqT.of hu3,d0,rfl,_,rfl,?_⟩;rw[es,zwz (by rw[hd];exact n1)];refine iteF (Zu #[q,_,?_]);refine hfin u H3 hu3 ?_ (fr2.trans f3);rw[ho];exact SA3
 ·rw[zwz (by rw[hd];exact n4)];refine #[V];refine⟨_,rfl,u,_,_,_,rfl,rfl,SqT.of hu2,d0,rfl,_,rfl,?_⟩;rw[es,zwu hd];refine iteT ?_;refine⟨_,rfl,A'.p,a.zn4,dx2,_,_,rfl,a21,T.zn5,T.zq0,O4,A'.da,rfl,.inr ⟨kvs2,.inl e21⟩,_,rfl,u,_,_,_,rfl,rfl,SqT.of hu2,d2,_,rfl,u,_,_,_,rfl,rfl,SqT.of hu2,d1,sz2,fun tk htk=>?_⟩;refine #[z,tk,htk,fun H3 TH3 s3=>?_];have q3:H3 tk=some (.tup (([inl d.2.2,inl d.2.1]:List Key).map kV)):=TH3;have SA3:=SA2.same s3;have e22:Oc kvs2 S.out:=e22;rw[ho] at e22;have hv:∃ vv,valV kvs2 [inl d.2.2,inl d.2.1]=some vv:=zyd.mp (by rw[e22.1,zwu (by simp)]);obtain⟨vv,hv⟩:=hv;refine⟨kvs2,[inl d.2.2,inl d.2.1],tk,vv,s3 _ _ e21,rfl,q3,hv,?_⟩;obtain⟨SA4,f4⟩:=SA3.setOut (out:=out) Ze (e22.drop hno) (fun b o e hb=>by rw[Zh hb];exact e);have hu4:=SA3.tups f4 _ _ (s3 _ _ hu2);refine#[q,_,hfin u _ hu4 ?_ (fr2.trans ((FrS.of A' s3).trans f4))];rw[hp];exact SA4
 ·rw[zwz (by rw[hd];exact n3)];refine #[V];refine⟨_,rfl,u,_,_,_,rfl,rfl,SqT.of hu2,d0,rfl,_,rfl,?_⟩;rw[es,zwz (by rw[hd];exact n2)];refine iteF (Zu #[q,_,hfin u H2 hu2 ?_ fr2]);rw[hp,ho];exact SA2
abbrev U3:Stmt:=Z5 (top 58) 15
theorem Lu:#[an,U3]:=fnS
theorem Lv(F:#[i,"at_hand","Season.at_hand",U3])(T:#[k])(zoc:Zx P w K mg base a.zn7 "over" 1 ["self"] (Kf a.zn7)):FnOk P w K mg base #[f] 2 f fd ["self"] (V8 (ca a)):=by
 refine #[n,Lu];obtain⟨A',S,rfl,SA,h⟩:=h;refine⟨_,Zd (Zl (Zt Yy (Yp #[ae,Zs,0] T.zos zoc (hr.mono ⋯) Zn) Zf)),?_⟩;obtain⟨⟨dx,v,a1,a2⟩,b,c,_⟩:=id SA;obtain⟨⟨dxl,hpl⟩,_⟩:=id c;refine⟨_,rfl,A'.p,a.zn4,dx,_,_,rfl,a1,T.zn5,T.zpl,Uy,A'.pl,dxl,_,rfl,hpl,Jg ⋯ ⋯,A'.pl,A'.lr,A'.ld,S.led,rfl,c,_,_,rfl,rfl,?_⟩;exact h
abbrev Sr:Stmt:=Z5 (top 58) 16
theorem Im:#[an,Sr]:=fnS
theorem Io(F:#[i,"deeds","Season.deeds",Sr])(T:#[k]):FnOk P w K mg base #[f] 1 f fd ["self"] (Hk (ca a)):=by
 refine #[n,Im];obtain⟨A',S,rfl,SA,hz,h⟩:=h;have hu:=Xy hr;refine⟨_,Zd (Zl (Le rfl (Nj.mk (xo:=["deed","sheet"]) (ys:=[]) (js:=[]) rfl rfl ⋯ ⋯ rfl (by repeat' (first|exact True.intro|apply And.intro|rfl)) (by repeat' (first|exact True.intro|apply And.intro|rfl)) ⋯) (Z8 (K:=K) rfl #[ae,Zs,0]) (fun _ _ _ _ _=>Vg) (fun _ _ _ _ _=>(Wb (K:=K) (n:=2) rfl rfl (Z0 (V6 (i:=0) (show List.Nodup [("deed":Str),("sheet":Str)] by decide +kernel) rfl (by first|exact Or.inl rfl|exact Or.inr rfl)) (Z0 (V6 (i:=1) (show List.Nodup [("deed":Str),("sheet":Str)] by decide +kernel) rfl (by first|exact Or.inl rfl|exact Or.inr rfl)) X9)))) fun _ _ _ _ _=>(pv 0))),?_⟩;obtain⟨⟨dx,v,a1,a2⟩,br,cl,d0,f0,⟨us,g1,g2⟩,_⟩:=id SA;have hul:=g2.length;refine⟨_,rfl,A'.p,a.zn4,dx,_,_,rfl,a1,T.zn5,T.zpa,Tc,A'.lt,rfl,⟨_,SqL.of g1⟩,?_⟩;refine G2 (K:=K) (xs:=us) (fun i ys H'=>H'=H/\Z7 H ys ((S.std.take i).map fun x=>Vj x.1)/\ys.length=i) #[L,rfl,.nil] (fun i ys H' _ ⟨e,_⟩=>by rw[e];exact SqL.of g1) (szN ⋯) (fun i ys H' ⟨_,_,e⟩=>by omega) ?_ ?_
 ·rintro i x ys H' hx ⟨rfl,tl,hyl⟩;obtain⟨t,u,v',d,s,rfl,hgi,ht,hu'⟩:=g2.get hx;refine⟨t,_,rfl,SqT.of ht,rfl,_,_,rfl,_,_,rfl,rfl,#[q,[#[c,u],some v'],rfl],?_⟩;unfold tYes;dsimp only;rw[#[P]];refine⟨_,rfl,rfl,?_,by rw[zwr,hyl];rfl⟩;have e:S.std.take (i+1)=S.std.take i++[(d,s)]:=by rw[zx3,hgi];rfl
  rw[e,zwv];exact tl.snoc hu'
 ·rintro ys H' ⟨rfl,tl,hyl⟩ l hl;rw[hul,zw6] at tl;exact h l ys _ Ze (tl.same (Zj hl)) (Zj hl) hl
abbrev Ro:Stmt:=Z5 (top 58) 21
theorem Ec:#[p,["self","at"],["self","at"],Ro]:=fnS
theorem Ed(F:#[i,"goes","Season.goes",Ro])(T:#[k])(zox:Zx P w K mg base a.zn4 "sheet_of" 3 ["self","at"] (Kp (ca a)))(zpf:Zx P w K mg base a.zn8 "goes" 1 ["self"] (Gz (ca a))):FnOk P w K mg base #[f] 4 f fd ["self","at"] (zhq (ca a)):=by
 refine #[n,Ec];obtain⟨A',S,i,rfl,SA,hr0⟩:=h;refine⟨_,Zd (Zl (Yp (Xs (pv 0) T.zn5 zox (hr.mono ⋯) Zn (Za (pv 1) Zc)) T.zof zpf (hr.mono ⋯) Zn)),?_⟩;obtain⟨si,hol,h⟩:=hr0;obtain⟨⟨dx,v,a1,a2⟩,_⟩:=id SA;refine⟨_,rfl,A'.p,dx,_,rfl,a1,Yg ⋯,_,rfl,A',S,i,rfl,SA,si,hol,it2 h (fun _ z=>z) fun hn h=>⟨h.1,fun s q hs Sq=>?_⟩⟩;obtain⟨dxq,m1,m2,m3,m4,hq⟩:=ShAt.ins Sq;exact⟨q,dxq,_,rfl,hq,Ti ⋯ ⋯ ⋯ ⋯,(·∉A'.fp),q,s,rfl,Sq,fun l H' a b c=>h.2 s hs l H' a b c⟩
abbrev Q8:Stmt:=Z5 (top 58) 24
theorem Dh:#[p,["self","at"],["self","at"],Q8]:=fnS
theorem Dj(F:#[i,"why","Season.why",Q8])(T:#[k])(zox:Zx P w K mg base a.zn4 "sheet_of" 3 ["self","at"] (Kp (ca a)))(zr8:Zx P w K mg base a.zn8 "why" 3 ["self"] (zd0 (ca a))):FnOk P w K mg base #[f] 4 f fd ["self","at"] (zjz (ca a)):=by
 refine #[n,Dh];obtain⟨A',S,i,rfl,SA,hr0⟩:=h;refine⟨_,Zd (Zl (Yp (Xs (pv 0) T.zn5 zox (hr.mono ⋯) Zn (Za (pv 1) Zc)) T.zof zr8 (hr.mono ⋯) Zn)),?_⟩;obtain⟨si,hol,h⟩:=hr0;obtain⟨⟨dx,v,a1,a2⟩,_⟩:=id SA;refine⟨_,rfl,A'.p,dx,_,rfl,a1,Yg ⋯,_,rfl,A',S,i,rfl,SA,si,hol,it2 h (fun _ z=>z) fun hn h=>⟨h.1,fun s q hs Sq=>?_⟩⟩;obtain⟨dxq,m1,m2,m3,m4,hq⟩:=ShAt.ins Sq;obtain⟨⟨nu,k0⟩,k1,k2,k3⟩:=h.2 s hs;exact⟨q,dxq,_,rfl,hq,Ti ⋯ ⋯ ⋯ ⋯,(·∉A'.fp),q,s,nu,rfl,Sq,k0,k1,k2,fun t lp lr ps rs H'=>k3 t lp lr ps rs H'⟩
abbrev Q9:Stmt:=Z5 (top 58) 26
theorem Dk:#[p,["self","place"],["self","place"],Q9]:=fnS
theorem Dl(F:#[i,"may","Season.may",Q9])(T:#[k])(zob:Zx P w K mg base a.zn4 "sheet_at_hand" 1 ["self"] (Qs (ca a)))(zr1:Zx P w K mg base a.zn8 "may" 2 ["self","place"] (zd1 (ca a))):FnOk P w K mg base #[f] 3 f fd ["self","place"] (zj0 (ca a)):=by
 refine #[n,Dk];obtain⟨A',S,i,rfl,SA,si,h1,h2⟩:=h;refine⟨_,Zd (Zl (Xs (Yp (pv 0) T.zn5 zob (hr.mono ⋯) Zn) T.zof zr1 (hr.mono ⋯) Zn (Za (pv 1) Zc))),?_⟩;obtain⟨⟨dx,v,a1,a2⟩,_⟩:=id SA;refine⟨_,rfl,A'.p,dx,_,rfl,a1,Yg ⋯,A',S,rfl,SA,h1,fun s q hs Sq=>?_⟩;obtain⟨dxq,m1,m2,m3,m4,hq⟩:=ShAt.ins Sq;obtain⟨k1,k2,k3⟩:=h2 s hs;exact⟨q,dxq,_,rfl,hq,Ti ⋯ ⋯ ⋯ ⋯,_,rfl,(·∉A'.fp),q,s,i,rfl,Sq,si,k1,k2,fun k r e1 e2 l H' a b c=>k3 k r e1 e2 l H' a b c⟩
abbrev Ss:Stmt:=Z5 (top 58) 28
theorem Ip:#[an,Ss]:=fnS
theorem Iq(F:#[i,"facts","Season.facts",Ss])(T:#[k])(zn6:Zx P w K mg base a.zn4 "at_hand" 2 ["self"] (V8 (ca a)))(zqs:Zx P w K mg base a.zn7 "facts" 1 ["self","at"] (zdp a.zn7 a.zo1)):FnOk P w K mg base #[f] 3 f fd ["self"] (Kt (ca a)):=by
 refine #[n,Ip];obtain⟨A',S,rfl,SA,hl,h⟩:=h;refine⟨_,Zd (Zl (Vb rfl (cT ["self"] [0]) (D3 rfl T.zoq (Za Zf (Za (Yp (pv 0) T.zn5 zn6 (hr.mono ⋯) Zn) Zc))) (fun _ _ _ _ _=>Vg) fun _ _ _ _ _=>(Xs #[ae,Zs,1] T.zos zqs (hr.mono ⋯) zad (Za (pv 0) Zc)))),?_⟩;obtain⟨⟨dx,v,a1,a2⟩,b,c,_⟩:=id SA;obtain⟨⟨dxl,lp⟩,_⟩:=id c;have eat:(atV S-1).toNat=S.led.length:=by unfold atV;omega
 refine⟨_,rfl,A'.p,dx,_,rfl,a1,Yg ⋯,A',S,rfl,SA,1,atV S,rfl,⟨by omega,by omega,by unfold atV;omega,by unfold atV;omega⟩,?_⟩;rw[eat];refine Ny (fun i ys H'=>#[j]/\∃ ls,ys=ls.map V.ref/\RwL H' ls (S.led.take i)/\ls.length=i/\∀ x∈ls,H x=none) ⟨Same.refl _,[],rfl,.nil,rfl,by simp⟩ (szN ⋯) (fun i ys H' ⟨_,ls,e1,_,e2,_⟩=>by rw[e1,zwo];omega) (fun i ys H' hi p=>?_) fun ys H' p l' hl'=>?_
 ·obtain⟨s1,ls,rfl,rl,hll,hfr⟩:=p;have hri:S.led[i]?=some (S.led[i]'hi):=zwp hi;unfold tYes;dsimp only;rw[#[P]];refine⟨_,rfl,A'.p,a.zn4,dx,_,_,rfl,s1 _ _ a1,T.zn5,T.zpl,Uy,A'.pl,dxl,_,rfl,s1 _ _ lp,Jg ⋯ ⋯,_,rfl,A'.pl,A'.lr,A'.ld,S.led,1+(i:Int),rfl,c.same s1,Yv ⋯ ⋯,fun z=>by omega,fun k rs hk hrs l2 ts hl2 tl2=>?_⟩;have ek:k=i:=by omega
  subst ek;have s2:=Zj (o:=.lst ts) hl2;refine⟨s1.trans s2,ls++[l2],by rw[zwv];rfl,?_,by rw[zwr,hll];rfl,fun y hy=>?_⟩
  ·rw[Xx hrs];exact(rl.same s2).snoc Ze (tl2.same s2)
  ·rcases zw0.mp hy with z|z
   ·exact hfr y z
   ·rw[zwt.mp z];exact s1.free hl2
 ·obtain⟨s1,ls,rfl,rl,hll,hfr⟩:=p;rw[zw6] at rl;exact h l' ls _ Ze (rl.same (Zj hl')) (s1.trans (Zj hl')) (s1.free hl') hfr
abbrev Ot:Stmt:=top 60
theorem Ah:#[p,["_law_found"],["_law_found"],Ot]:=fnS
theorem Ai(F:#[i,"_law_whole","_law_whole",Ot])(T:#[k]):FnOk P w K mg base #[f] 1 f fd ["_law_found"] M7:=by
 refine #[n,Ah];obtain⟨i,rfl,h⟩:=h;refine⟨_,Zd (Zl (Nq #[az,Zk,Xr (K:=K) rfl,T.zod,Za (pv 0) (Za (W3 rfl T.ztv PyProof.Rows.boot_int (show RelV (.ty "int") _ from rfl)) Zc)] (Np (zj8 #[az,Zk,Xr (K:=K) rfl,T.zod,Za (pv 0) (Za (W3 rfl T.ztz PyProof.Rows.boot_bool (show RelV (.ty "bool") _ from rfl)) Zc)])))),?_⟩;refine⟨_,rfl,_,_,_,_,rfl,.of (.int i),#[M,_,rfl],zkz K,_,rfl,?_⟩;refine iteT ?_;exact⟨_,rfl,_,_,_,_,rfl,.of (.int i),#[M,_,rfl],zk0 K,_,rfl,h⟩
abbrev Ee:Stmt:=top 61
theorem zf3:#[p,["_law_script","_law_k"],["_law_script","_law_k"],Ee]:=fnS
theorem zf4(F:#[i,"_law_at","_law_at",Ee])(T:#[k]):FnOk P w K mg base #[f] 1 f fd ["_law_script","_law_k"] (zcg K):=by
 refine #[n,zf3];obtain⟨b,ns,k,rfl,hs,h⟩:=h;refine⟨_,(Zb (Zy (Zo Hq (pv 1) #[ag,Zk,cL K,T.zoa,Za (pv 0) Zc] (Zq _))
  (Zd (Zl (pI (iL K) (pv 0) (pv 1))))
  Zp)
 (Zd (Zl Zf))),?_⟩
 refine⟨_,rfl,_,rfl,b,_,rfl,.inl hs,_,_,rfl,rfl,_,rfl,?_⟩;rw[zwo];refine itD (fun hk=>?_) fun hk=>?_
 ·have hk':k<ns.length:=by omega
  refine⟨_,rfl,_,rfl,b,_,_,_,rfl,rfl,hs,Zz (show (ns.map V.int)[k]?=#[e,Xe ns k] from ?_),h⟩;unfold Xe;rw[zws,zwp hk'];rfl
 ·have e:Xe ns k=0:=by unfold Xe;rw[zym ⋯];rfl
  rw[e] at h;exact h
abbrev K3:Stmt:=top 62
theorem Pa:#[p,["_law_cell_here","_law_k","_law_one","_law_two","_law_three"],["_law_cell_here","_law_k"],K3]:=fnS
theorem zc5(F:#[i,"_law_mix","_law_mix",K3])(T:#[k]):FnOk P w K mg base #[f] 1 f fd ["_law_cell_here","_law_k"] zdl:=by
 refine #[n,Pa];obtain⟨c,k,rfl,h⟩:=h;refine⟨_,(Zb (pS 2 Pa.nd (Zt Y2 (Zt Yy (Zt P4 (pv 0) Zf) (pv 1)) Zf))
 (Zb (pS 3 Pa.nd (Zt Y2 (Zt Yy (Zt P4 (pv 2) Zf) (Zt P4 Zf (pv 1))) Zf))
 (Zb (pS 4 Pa.nd (Zt Y2 (Zt Yy (Zt P4 (pv 3) Zf) (pv 2)) Zf))
 (Zd (Zl (Zt Yy (Zt P4 (Zt Yy (Zt P4 (pv 2) Zf) (pv 3)) Zf) (pv 4))))))),?_⟩
 walk_at "rd";exact h
abbrev Y1:Stmt:=top 63
theorem Ou:#[p,["_law_cell_here","_law_many","_law_step"],["_law_cell_here","_law_many"],Y1]:=fnS
@[irreducible] def Uj:List Expr:=zfm (zbc (O9 (X3 (Zv Y1) 0)))
@[irreducible] def Ov:Pos:=zfn (zbc (O9 (X3 (Zv Y1) 0)))
theorem K4:Zv Y1=[.Assign (zhs (X3 (Zv Y1) 0)) (.Subscript (.List Uj Ov) (zje (O9 (X3 (Zv Y1) 0))) (zjf (O9 (X3 (Zv Y1) 0)))) (stP (X3 (Zv Y1) 0)),X3 (Zv Y1) 1]:=by unfold Uj Ov;kernel_rfl
theorem K5:Fb Uj [1,2,5,10,100,500,998]:=by unfold Uj;exact⟨by kernel_rfl,by kernel_rfl⟩
theorem Ef(F:#[i,"_law_numbers","_law_numbers",Y1])(T:#[k]):FnOk P w K mg base #[f] 1 f fd ["_law_cell_here","_law_many"] Gk:=by
 refine #[n,Ou];obtain⟨c,m,rfl,hm,h⟩:=h;rw[K4];refine⟨_,(Zb (pS 2 Ou.nd (pI (iL K) (Z6 (O5 [1,2,5,10,100,500,998] K5)) (Zt Y2 (pv 0) Zf)))
 (Zd (Zl (Vb rfl (cT ["_law_cell_here","_law_step"] [0,2]) (Yw rfl T.zoq (Za (pv 1) Zc)) (fun _ _ _ _ _=>Vg) (fun _ _ _ _ _=>(Zt Yy Zf (Zt Y2 (Zt Yy (Zt Xj (pv 1) Zf) (Zt P4 (pv 2) (pv 0))) Zf))))))),?_⟩
 refine⟨by show 7<=sizeLine;decide,fun p0 hp0=>?_⟩;walk_at "rd";refine⟨p0,_,_,_,rfl,rfl,SqL.of Ze,Wy (xs:=[1,2,5,10,100,500,998]) ⋯ (by show c%7<7;omega),?_⟩;refine⟨_,rfl,_,rfl,by omega,by omega,Ce (fun j=>V.int (ze0 c j)) (by rw[zw3];exact zw4 hm ⋯) (fun i R hi k=>?_) fun p hp=>?_⟩
 ·rw[zw3] at hi;walk_at "rd";refine⟨.inr ⟨by omega,by omega⟩,?_⟩;walk_at "rd";rw[zxz];exact k
 ·rw[zw3];refine h p _ ?_ ((Zj hp0).trans (Zj hp)) ((Zj hp0).free hp);rw[Ze];unfold Jf;rw[zxt];rfl
abbrev Xp:Stmt:=top 64
theorem Lw:#[p,["_law_cell_here","_law_many","_law_step"],["_law_cell_here","_law_many"],Xp]:=fnS
@[irreducible] def Tw:List Expr:=zfm (zbc (O9 (X3 (Zv Xp) 0)))
@[irreducible] def Ly:Pos:=zfn (zbc (O9 (X3 (Zv Xp) 0)))
theorem Eg:Zv Xp=[.Assign (zhs (X3 (Zv Xp) 0)) (.Subscript (.List Tw Ly) (zje (O9 (X3 (Zv Xp) 0))) (zjf (O9 (X3 (Zv Xp) 0)))) (stP (X3 (Zv Xp) 0)),X3 (Zv Xp) 1]:=by unfold Tw Ly;kernel_rfl
theorem Eh:Fb Tw [1,2,5,10,50,97,98]:=by unfold Tw;exact⟨by kernel_rfl,by kernel_rfl⟩
theorem Aj(F:#[i,"_law_clubs","_law_clubs",Xp])(T:#[k]):FnOk P w K mg base #[f] 1 f fd ["_law_cell_here","_law_many"] zdm:=by
 refine #[n,Lw];obtain⟨c,m,rfl,hm,h⟩:=h;rw[Eg];refine⟨_,(Zb (pS 2 Lw.nd (pI (iL K) (Z6 (O5 [1,2,5,10,50,97,98] Eh)) (Zt Y2 (pv 0) Zf)))
 (Zd (Zl (Vb rfl (cT ["_law_cell_here","_law_step"] [0,2]) (Yw rfl T.zoq (Za (pv 1) Zc)) (fun _ _ _ _ _=>Vg) (fun _ _ _ _ _=>(Zt Yy Zf (Zt Y2 (Zt Yy (Zt Xj (pv 1) Zf) (Zt P4 (pv 2) (pv 0))) Zf))))))),?_⟩
 refine⟨by show 7<=sizeLine;decide,fun p0 hp0=>?_⟩;walk_at "rd";refine⟨p0,_,_,_,rfl,rfl,SqL.of Ze,Wy (xs:=[1,2,5,10,50,97,98]) ⋯ (by show c%7<7;omega),?_⟩;refine⟨_,rfl,_,rfl,by omega,by omega,Ce (fun j=>V.int (Cg c j)) (by rw[zw3];exact zw4 hm ⋯) (fun i R hi k=>?_) fun p hp=>?_⟩
 ·rw[zw3] at hi;walk_at "rd";refine⟨.inr ⟨by omega,by omega⟩,?_⟩;walk_at "rd";rw[zxz];exact k
 ·rw[zw3];refine h p _ ?_ ((Zj hp0).trans (Zj hp)) ((Zj hp0).free hp);rw[Ze];unfold P6;rw[zxt];rfl
abbrev Pb:Stmt:=top 65
theorem Dm:#[p,#[af],#[af],Pb]:=fnS
theorem Dp(F:#[i,"_law_one_is","_law_one_is",Pb])(T:#[k])(zoo:Z2 P w K mg base "_law_whole" 1 ["_law_found"] M7):FnOk P w K mg base #[f] 2 f fd #[af] M8:=by
 refine #[n,Dm];obtain⟨x,rfl,hx,h⟩:=h;refine⟨_,Zd (Zl (As (Zo Ra (pv 1) Yn (Zq _)) (Wa Ra (pv 0) Yn (Zq _)) (Nq (pF zoo hr (Za (pv 0) Zc)) (Np (Wa Xv (pv 0) (pv 1) (Zq _)))))),?_⟩;rcases hx with rfl|⟨i,rfl⟩
 ·refine⟨_,rfl,rfl,_,rfl,?_⟩;refine iteT ?_;exact⟨_,rfl,rfl,h⟩
 ·refine⟨_,rfl,rfl,_,rfl,?_⟩;refine iteF ?_;refine⟨_,rfl,i,rfl,_,rfl,?_⟩;refine iteT ?_;refine⟨_,rfl,_,rfl,rfl,?_⟩;rw[zwu rfl];exact h
abbrev Rp:Stmt:=top 66
theorem Ow:#[p,["_law_found","_law_due","_law_k"],#[af],Rp]:=fnS
theorem Ei(F:#[i,"_law_list_is","_law_list_is",Rp])(T:#[k])(zoj:Z2 P w K mg base "_law_one_is" 2 #[af] M8):FnOk P w K mg base #[f] 3 f fd #[af] (Gm K):=by
 refine #[n,Ow];obtain⟨b,c,xs,rfl,hb,hc,ho,hl,h⟩:=h;refine⟨_,(Zb (Zy #[aE,Zk,Xr,pv,0,Za,W3,_,Zc,Xu (Zo P5 #[ag,Zk,cL K,T.zoa,Za (pv 0) Zc] #[ag,Zk,cL K,T.zoa,Za (pv 1) Zc] (Zq _))]
  (Zd (Zl Yr))
  Zp)
 (Zb (Yi PassesOwn.leaving rfl (Yw rfl T.zoq (Za (Zk (cL K) (by rfl) T.zoa PySem.boot_len (Za (pv 1) Zc)) Zc)) (pN 2 Ow.nd)
  (Zd (Zy (Yt (Yo (pF zoj hr (Za (pI (iL K) (pv 0) (pv 2)) (Za (pI (iL K) (pv 1) (pv 2)) Zc)))))
   (Zd (Zl Yr))
   Zp)))
 (Zd (Zl Yr)))),?_⟩
 refine⟨_,rfl,_,_,_,_,rfl,.of (.lst hb),#[M,_,rfl],N2 K,_,rfl,?_⟩;refine iteF ?_;refine⟨_,rfl,b,_,rfl,#[t,hb],_,rfl,c,_,rfl,.inl hc,rfl,_,rfl,?_⟩;rw[zwu rfl];refine iteF ?_;refine⟨_,rfl,c,_,rfl,.inl hc,_,rfl,by omega,by omega,#[aF,Xb,_]⟩
 ·subst e hv;rw[zw3] at hi;have h1:xs[i]?=some (xs[i]'hi):=zwp hi;rw[zxz];refine⟨_,rfl,_,rfl,b,_,_,_,rfl,rfl,SqL.of hb,Zz h1,_,rfl,_,rfl,c,_,_,_,rfl,rfl,hc,Zz h1,_,rfl,ho _ (zxd hi),_,rfl,?_⟩;exact iteF ⟨rfl,#[w,_]⟩
 ·subst e hv;exact h
abbrev Su:Stmt:=top 67
theorem Pn:#[p,["_law_found","_law_due","_law_k"],#[af],Su]:=fnS
theorem Ir(F:#[i,"_law_tuple_is","_law_tuple_is",Su])(T:#[k])(zoj:Z2 P w K mg base "_law_one_is" 2 #[af] M8):FnOk P w K mg base #[f] 3 f fd #[af] (Ci K):=by
 refine #[n,Pn];obtain⟨b,c,xs,rfl,hb,hc,ho,hl,h⟩:=h;refine⟨_,(Zb (Zy (PW.pt (X8 (Yt (Yo #[az,Zk,Xr (K:=K) rfl,T.zod,Za (pv 0) (Za (W3 rfl T.zrr PyProof.Rows.boot_tuple (show RelV (.ty "tuple") _ from rfl)) Zc)])) (Xu (Zo P5 #[ag,Zk,cL K,T.zoa,Za (pv 0) Zc] #[ag,Zk,cL K,T.zoa,Za (pv 1) Zc] (Zq _)))))
  (Zd (Zl Yr))
  Zp)
 (Zb (Yi PassesOwn.leaving rfl (Yw rfl T.zoq (Za (Zk (cL K) (by rfl) T.zoa PySem.boot_len (Za (pv 1) Zc)) Zc)) (pN 2 Pn.nd)
  (Zd (Zy (Yt (Yo (pF zoj hr (Za (pI (iU K) (pv 0) (pv 2)) (Za (pI (iU K) (pv 1) (pv 2)) Zc)))))
   (Zd (Zl Yr))
   Zp)))
 (Zd (Zl Yr)))),?_⟩
 refine⟨_,rfl,_,_,_,_,rfl,.of (.tup hb),#[M,_,rfl],Bm K,_,rfl,?_⟩;refine iteF ?_;refine⟨_,rfl,b,_,rfl,.inr (SqT.of hb),_,rfl,c,_,rfl,.inr hc,rfl,_,rfl,?_⟩;rw[zwu rfl];refine iteF ?_;refine⟨_,rfl,c,_,rfl,.inr hc,_,rfl,by omega,by omega,#[aF,Xb,_]⟩
 ·subst e hv;rw[zw3] at hi;have h1:xs[i]?=some (xs[i]'hi):=zwp hi;rw[zxz];refine⟨_,rfl,_,rfl,b,_,_,_,rfl,rfl,SqT.of hb,Zz h1,_,rfl,_,rfl,c,_,_,_,rfl,rfl,hc,Zz h1,_,rfl,ho _ (zxd hi),_,rfl,?_⟩;exact iteF ⟨rfl,#[w,_]⟩
 ·subst e hv;exact h
abbrev Sv:Stmt:=top 68
theorem Po:#[p,["_law_found","_law_due","_law_k"],#[af],Sv]:=fnS
theorem Iu(F:#[i,"_law_rows_are","_law_rows_are",Sv])(T:#[k])(zq5:Z2 P w K mg base "_law_tuple_is" 3 #[af] (Ci K)):FnOk P w K mg base #[f] 4 f fd #[af] (Cj K):=by
 refine #[n,Po];obtain⟨b,c,ts,us,R,rfl,hb,hc,tl,ul,ho,hl,h⟩:=h;refine⟨_,(Zb (Zy #[aE,Zk,Xr,pv,0,Za,W3,_,Zc,Xu (Zo P5 #[ag,Zk,cL K,T.zoa,Za (pv 0) Zc] #[ag,Zk,cL K,T.zoa,Za (pv 1) Zc] (Zq _))]
  (Zd (Zl Yr))
  Zp)
 (Zb (Yi PassesOwn.leaving rfl (Yw rfl T.zoq (Za (Zk (cL K) (by rfl) T.zoa PySem.boot_len (Za (pv 1) Zc)) Zc)) (pN 2 Po.nd)
  (Zd (Zy (Yt (Yo (pF zq5 hr (Za (pI (iL K) (pv 0) (pv 2)) (Za (pI (iL K) (pv 1) (pv 2)) Zc)))))
   (Zd (Zl Yr))
   Zp)))
 (Zd (Zl Yr)))),?_⟩
 have el:ts.length=us.length:=by rw[tl.length,ul.length]
 have hul:=ul.length;refine⟨_,rfl,_,_,_,_,rfl,.of (.lst hb),#[M,_,rfl],N2 K,_,rfl,?_⟩;refine iteF ?_;refine⟨_,rfl,b,_,rfl,#[t,hb],_,rfl,c,_,rfl,.inl hc,rfl,_,rfl,?_⟩;rw[el,zwu rfl];refine iteF ?_;refine⟨_,rfl,c,_,rfl,.inl hc,_,rfl,by omega,by omega,#[aF,Xb,_]⟩
 ·subst e hv;rw[zw3] at hi;have hR:i<R.length:=by rw[<- ul.length];exact hi
  obtain⟨t1,e1,q1⟩:=tl.getR (zwp hR);obtain⟨t2,e2,q2⟩:=ul.getR (zwp hR);obtain⟨o1,o2⟩:=ho _ (zxd hR);rw[zxz];refine⟨_,rfl,_,rfl,b,_,_,_,rfl,rfl,SqL.of hb,Zz e1,_,rfl,_,rfl,c,_,_,_,rfl,rfl,hc,Zz e2,t1,t2,_,rfl,q1,SqT.of q2,o2,o1,_,rfl,?_⟩;exact iteF ⟨rfl,#[w,_]⟩
 ·subst e hv;exact h
abbrev U4:Stmt:=top 69
theorem Uk:#[p,["_law_may","_law_given","_law_seen","_law_k"],["_law_may","_law_given"],U4]:=fnS
theorem Lz(F:#[i,"_law_is_filling","_law_is_filling",U4])(T:#[k])(zoo:Z2 P w K mg base "_law_whole" 1 ["_law_found"] M7):FnOk P w K mg base #[f] 2 f fd ["_law_may","_law_given"] (Ji K):=by
 refine #[n,Uk];obtain⟨l,lg,ls,rows,gs,rfl,hl,il,hrl,hg,FP,h⟩:=h;have hu:=Xy hr;refine⟨_,(Zb (Zy #[aE,Zk,Xr,pv,1,Za,W3,_,Zc,Xu (Zo P5 #[ag,Zk,cL K,T.zoa,Za (pv 1) Zc] #[ag,Zk,cL K,T.zoa,Za (pv 0) Zc] (Zq _))]
  (Zd (Zl Yr))
  Zp)
 (Zb (pS 2 Uk.nd T4)
 (Zb (Yi PassesOwn.leaving rfl (Yw rfl T.zoq (Za (Zk (cL K) (by rfl) T.zoa PySem.boot_len (Za (pv 0) Zc)) Zc)) (pN 3 Uk.nd)
  (Zd (Zy (Zo Vs (pI (iL K) (pv 1) (pv 3)) Yn (Zq _))
   (Zb (Zy (PW.pt (X8 (Yt (Yo (pF zoo hr (Za (pI (iL K) (pv 1) (pv 3)) Zc)))) (X8 (Zo (Wg (K:=K) rfl) (pI (iL K) (pv 1) (pv 3)) (pI (iL K) (pv 0) (pv 3)) (by with_unfolding_all rfl)) (Xu (Tf (Nu hu (pI (iL K) (pv 1) (pv 3)) (pv 2)))))))
    (Zd (Zl Yr))
    Zp)
   (Zd (Ym hu (pv 2) (pI (iL K) (pv 1) (pv 3)) Yr rfl)))
   Zp)))
 (Zd (Zl Yr))))),?_⟩
 refine⟨_,rfl,_,_,_,_,rfl,.of (.lst hg),#[M,_,rfl],N2 K,_,rfl,?_⟩;refine iteF ?_;refine⟨_,rfl,lg,_,rfl,#[t,hg],_,rfl,l,_,rfl,#[t,hl],rfl,_,rfl,?_⟩;rw[zwo,il.length,FP.len,zwu rfl];refine iteF ?_;intro ld hld;refine #[z,ld,hld,fun H1 q0 s0=>?_];refine⟨_,rfl,l,_,rfl,#[t,s0 _ _ hl],_,rfl,by omega,by rw[zwo,il.length];omega,?_⟩;rw[zwo,il.length,zw3]
 let jv1:Nat->L2.St->Hp->Prop:=fun i σ H'=>(∃ v3,σ=[#[c,l],#[c,lg],#[c,ld],v3])/\#[j]/\∃ kvs,H' ld=#[b,.dK,kvs]/\kvs.length<=i/\∀ n:Int,(valV kvs (inl n:Key)).isSome=true->∃ j,j<i/\gs[j]?=some (.int n)
 refine Xb jv1 ⟨#[w,_],s0,[],q0,zw1 _,fun n z=>(nomatch z)⟩ ?_ ?_
 ·rintro i σ H' hi ⟨⟨v3,rfl⟩,sm,kvs,hd,hkl,hks⟩;rw[zxz];have hgi:i<gs.length:=by rw[FP.len];exact hi
  have hx:gs[i]?=some (gs[i]'hgi):=zwp hgi;have hone:=FP.one _ (zxd hgi);generalize (gs[i]'hgi)=x at hx hone;refine⟨_,rfl,_,rfl,lg,_,_,_,rfl,rfl,#[F,sm,hg],Zz hx,rfl,_,rfl,?_⟩;rcases hone with rfl|⟨n,rfl⟩
  ·refine iteF ?_;refine⟨#[w,_],sm,kvs,hd,by omega,fun n hn=>?_⟩;obtain⟨j,h1,h2⟩:=hks n hn;exact⟨j,by omega,h2⟩
  ·refine iteT ?_;obtain⟨r,hr',hnr⟩:=FP.may i n hx;obtain⟨lr,e1,e2⟩:=il.getR hr';have hl':(ls.map V.ref)[i]?=#[c,lr]:=by rw[zws,e1];rfl
   have hno:valV kvs (inl n:Key)=none:=by
    cases q:valV kvs (inl n:Key) with
    | none=>rfl
    | some v =>
      obtain⟨j,h1,h2⟩:=hks n (by rw[q];rfl);exact absurd (FP.inj j i n h2 hx) ⋯
   have gx:∀ {Q:VK},Q (.int n) H'->∃ v,([some (V.ref l),some (V.ref lg),some (V.ref ld),some (V.int (i:Int))]:L2.St)[1]?=#[b,some,v]/\∃ w,([some (V.ref l),some (V.ref lg),some (V.ref ld),some (V.int (i:Int))]:L2.St)[3]?=#[b,some,w]/\Et K v w H' Q:=fun q=>⟨_,rfl,_,rfl,lg,_,_,_,rfl,rfl,#[F,sm,hg],Zz hx,q⟩
   walk_at "if";refine Yk (Y9 (b:=false) (Wc (b:=false) (c:=false) (fun Q q=>⟨_,rfl,_,rfl,lg,_,_,_,rfl,rfl,#[F,sm,hg],Zz hx,n,rfl,_,rfl,q⟩) (Wc (b:=false) (c:=false) (fun Q q=>⟨_,rfl,_,rfl,lg,_,_,_,rfl,rfl,#[F,sm,hg],Zz hx,_,rfl,_,rfl,l,_,_,_,rfl,rfl,#[F,sm,hl],Zz hl',lr,_,rfl,#[t,sm _ _ e2],rfl,Kj r,_,rfl,by rw[Qm,zwu hnr];exact q⟩)
    (fun Q q=>⟨_,rfl,_,rfl,lg,_,_,_,rfl,rfl,#[F,sm,hg],Zz hx,_,rfl,ld,_,rfl,DGet.k (k:=inl n) hd,_,rfl,by rw[hno];exact q⟩))) #[V])
   refine⟨_,rfl,_,rfl,_,rfl,lg,_,_,_,rfl,rfl,#[F,sm,hg],Zz hx,ld,_,rfl,DPut.k (k:=inl n) hd (X4 ⋯),?_⟩;refine⟨#[w,_],Yb hld sm,_,Ze,zw4 (Xm _ _ _) ⋯,fun n' hn'=>?_⟩;rw[Vr] at hn';by_cases e:(inl n':Key)=inl n
   ·cases e;exact⟨i,zyz _,hx⟩
   ·rw[#[h,e]] at hn';obtain⟨j,h1,h2⟩:=hks n' hn';exact⟨j,by omega,h2⟩
 ·rintro σ H' ⟨⟨v3,rfl⟩,sm,_⟩;exact h H' sm
def zea(K:Frag):Sp:=fun vs H Q _=>∃ (l lg:Addr) (ls:List Addr) (rows:List (List Int)) (gs:List V) (p:Nat),vs=[.ref l,.ref lg,.int p]/\H l=#[I,ls.map,V.ref]/\ILs H ls rows/\rows.length<=100/\H lg=#[r,gs]/\Ye rows gs/\p<rows.length/\Ql rows gs p/\∀ H',#[j]->Q (.bl true) H'
theorem zia{c:Nat}{cs:#[B]}:inV (.int (c:Nat)) (cs.map fun k=>V.int (k:Nat))=#[g,c∈cs]:=by
 have e:(cs.map fun k=>V.int (k:Nat))=(cs.map fun (k:Nat)=>((k:Nat):Int)).map V.int:=by rw[zxt];rfl
 rw[e,Qm];by_cases h:c∈cs
 ·rw[zwu h,zwu (zwx.mpr #[L,c,h])]
 ·rw[zwz h,zwz];intro z;obtain⟨k,hk,q⟩:=zwx.mp z;have:k=c:=by omega
  subst this;exact h hk
abbrev Ox:Stmt:=top 70
theorem Wv:#[p,["_law_may","_law_given","_law_place","_law_held","_law_k","_law_came","_law_done","_law_number"],["_law_may","_law_given","_law_place"],Ox]:=fnS
theorem Ak(F:#[i,"_law_stuck","_law_stuck",Ox])(T:#[k]):FnOk P w K mg base #[f] 1 f fd ["_law_may","_law_given","_law_place"] (zea K):=by
 refine #[n,Wv];obtain⟨l,lg,ls,rows,gs,p,rfl,hl,il,hrl,hg,FP,hp,SA,h⟩:=h;have hu:=Xy hr;refine⟨_,(Zb (pS 3 Wv.nd T4)
 (Zb (Yi PassesOwn.leaving rfl (Yw rfl T.zoq (Za (pv 2) Zc)) (pN 4 Wv.nd)
  (Zd (Zy (Zo Vs (pI (iL K) (pv 1) (pv 4)) Yn (Zq _))
   (Zd (Ym hu (pv 3) (pI (iL K) (pv 1) (pv 4)) (pv 4) rfl))
   Zp)))
 (Zb (pS 5 Wv.nd (Z6 (Za (pv 2) Zc)))
 (Zb (pS 6 Wv.nd Zf)
 (Zb (Mz PassesOwn.leaving (Zo Hq (pv 6) (Zk (cL K) (by rfl) T.zoa PySem.boot_len (Za (pv 5) Zc)) (Zq _))
  (Zb (Yi PassesOwn.leaving rfl (Z8 (K:=K) rfl (pI (iL K) (pv 0) (pI (iL K) (pv 5) (pv 6)))) (pN 7 Wv.nd)
   (Zb (Zy (Tf (Rw hu (pv 7) (pv 3)))
    (Zd (Zl Yr))
    Zp)
   (Zd (Zy (Zo (Wg (K:=K) rfl) (pD hu (pv 3) (pv 7)) (pv 5) (by with_unfolding_all rfl))
    (Zd (Yu (pv 5) (pD hu (pv 3) (pv 7))))
    Zp))))
  (Zd (pS 6 Wv.nd (Zt Yy (pv 6) Zf)))))
 (Zd (Zl Yr))))))),?_⟩
 show let y1:TS:=_;let y2:TS:=_;let y3:TS:=_;let y4:TS:=Zw (C9 _ (Zw (zei _ _ (Zw _ y1)) y2)) y3;let y5:TS:=Zw _ y4;let y6:TS:=Zw _ y5;let y7:TS:=Zw _ y6;Zw _ y7 _ _ _;intro y1 y2 y3 y4 y5 y6 y7;obtain⟨S,hSp,hS⟩:=SA;intro ld hld;refine #[z,ld,hld,fun H1 q0 s0=>?_];refine⟨_,rfl,_,rfl,by omega,by omega,?_⟩;rw[zw3]
 let jv2:Nat->L2.St->Hp->Prop:=fun i σ H'=>(∃ v4,σ=[some (.ref l),some (.ref lg),some (.int p),some (.ref ld),v4,none,none,none])/\#[j]/\∃ kvs,H' ld=#[b,.dK,kvs]/\kvs.length<=i/\∀ (n:Int) (j:Nat),j<i->gs[j]?=#[e,n]->valV kvs (inl n:Key)=#[e,j]
 refine Xb jv2 ⟨#[w,_],s0,[],q0,zw1 _,fun n j hj=>absurd hj (zyc _)⟩ ?_ ?_
 ·rintro i σ H' hi ⟨⟨v4,rfl⟩,sm,kvs,hd,hkl,hks⟩;rw[zxz];have hgi:i<gs.length:=by rw[FP.len];omega
  have hx:gs[i]?=some (gs[i]'hgi):=zwp hgi;have hone:=FP.one _ (zxd hgi);generalize (gs[i]'hgi)=x at hx hone;refine⟨_,rfl,_,rfl,lg,_,_,_,rfl,rfl,#[F,sm,hg],Zz hx,rfl,_,rfl,?_⟩;rcases hone with rfl|⟨n,rfl⟩
  ·refine iteF ?_;refine⟨#[w,_],sm,kvs,hd,by omega,fun n j hj e=>?_⟩;by_cases hji:j=i
   ·subst hji;rw[hx] at e;cases e
   ·exact hks n j ⋯ e
  ·refine iteT ?_;refine⟨_,rfl,_,rfl,_,rfl,_,rfl,lg,_,_,_,rfl,rfl,#[F,sm,hg],Zz hx,ld,_,rfl,DPut.k (k:=inl n) hd (X4 ⋯),?_⟩;refine⟨#[w,_],Yb hld sm,_,Ze,zw4 (Xm _ _ _) ⋯,fun n' j hj e=>?_⟩;rw[Vr];by_cases en:n'=n
   ·subst en;have:j=i:=FP.inj j i n' e hx;subst this;rw[#[P]]
   ·rw[#[h,fun z=>en (inl.inj z)]];refine hks n' j ?_ e;have:j≠i:=fun z=>by subst z;rw[hx] at e;cases e;exact en rfl
    omega
 rintro σ H' ⟨⟨v4,rfl⟩,sm,kvs,hd,hkl,hks⟩;refine⟨_,rfl,sz1,fun lc hlc=>?_⟩;refine #[z,lc,hlc,fun H2 TH2 t2=>?_];have s2:=sm.trans t2;have fc:H lc=none:=sm.free hlc;have q2:H2 lc=some (.lst (([p]:List Nat).map fun k=>V.int (k:Nat))):=TH2;have hd2:=t2 _ _ hd;have ncd:ld≠lc:=Zg hd hlc;clear sm hd;have hbound:∀ cs:#[B],cs.Nodup->(∀ c∈cs,S c)->cs.length<=rows.length:=fun cs nd hc=>by
  have:=#[aD,zxr.mpr (hS c (hc c hcc)).1];rw[zxo] at this;exact this
 refine⟨fun m σ H'=>∃ (d:Nat) (cs:#[B]) (v4 v7:Option V),m=rows.length-d/\d<=cs.length/\σ=[#[c,l],#[c,lg],#[e,p],#[c,ld],v4,#[c,lc],#[e,d],v7]/\#[j]/\H' ld=#[b,.dK,kvs]/\H' lc=#[I,cs.map,fun k=>V.int (k:Nat)]/\cs.Nodup/\∀ c∈cs,S c,
  ⟨_,0,[p],_,_,rfl,zxj _,rfl,s2,hd2,q2,by simp,by simpa using hSp⟩,?_⟩
 rintro m σ Ha ⟨d,cs,w4,w7,rfl,hdl,rfl,sa,hda,hca,nd,hcs⟩;have hcl:=hbound cs nd hcs;refine⟨_,rfl,_,rfl,lc,_,rfl,#[t,hca],_,_,rfl,rfl,_,rfl,?_⟩;rw[zwo];refine itD (fun hlt=>?_) fun hlt=>?_
 ·have hdc:d<cs.length:=by omega
  have hcd:cs[d]?=some (cs[d]'hdc):=zwp hdc;have hSc:=hcs _ (zxd hdc);generalize (cs[d]'hdc)=c at hcd hSc;obtain⟨hcr,hcn⟩:=hS c hSc;have hr':rows[c]?=some (rows[c]'hcr):=zwp hcr;generalize (rows[c]'hcr)=r at hr';obtain⟨lr,e1,e2⟩:=il.getR hr';have hl':(ls.map V.ref)[c]?=#[c,lr]:=by rw[zws,e1];rfl
  have hcv:(cs.map fun k=>V.int (k:Nat))[d]?=#[e,c]:=by rw[zws,hcd];rfl
  refine⟨fun σ' H'=>∃ (cs:#[B]) (v4 v7:Option V),d+1<=cs.length/\σ'=[#[c,l],#[c,lg],#[e,p],#[c,ld],v4,#[c,lc],#[e,(d:Int)+1],v7]/\#[j]/\H' ld=#[b,.dK,kvs]/\H' lc=#[I,cs.map,fun k=>V.int (k:Nat)]/\cs.Nodup/\∀ c∈cs,S c,
   fun σ' H' ⟨cs',u4,u7,h1,h2,h3,h4,h5,h6,h7⟩=>⟨rows.length-(d+1),by omega,d+1,cs',u4,u7,rfl,h1,h2,h3,h4,h5,h6,h7⟩,?_⟩
  refine⟨_,rfl,_,rfl,_,rfl,lc,_,_,_,rfl,rfl,SqL.of hca,Zz hcv,l,_,_,_,rfl,rfl,#[F,sa,hl],Zz hl',lr,rfl,⟨_,SqL.of (sa _ _ e2)⟩,?_⟩
  let jv3:Nat->L2.St->Hp->Prop:=fun i σ H'=>∃ (cs:List Nat) (v4 v7:Option V),d+1<=cs.length/\σ=[#[c,l],#[c,lg],#[e,p],#[c,ld],v4,#[c,lc],#[e,d],v7]/\#[j]/\H' ld=#[b,.dK,kvs]/\H' lc=#[I,cs.map,fun k=>V.int (k:Nat)]/\cs.Nodup/\∀ c∈cs,S c
  refine Xd (K:=K) (a:=lr) (xs:=r.map V.int) jv3 ⟨cs,_,_,hdc,rfl,sa,hda,hca,nd,hcs⟩ (by rintro i σ H' _ ⟨_,_,_,_,_,s,_⟩;exact #[F,s,e2]) ?_ ?_
  ·rintro i y σ Hb hy ⟨cs',u4,u7,hdl',rfl,sb,hdb,hcb,nd',hcs'⟩;obtain⟨n,hn,rfl⟩:=zwx.mp (zww hy);obtain⟨q',hq',hgq,hSq⟩:=hcn r hr' n hn;have hv:valV kvs (inl n:Key)=#[b,.int,q']:=hks n q' hq' hgq;have hcl':=hbound cs' nd' hcs';have hflat:(cs'.map fun k=>V.int (k:Nat)).all Tb=true:=by rw[List.all_map];exact zyb.mpr fun _ _=>rfl
   have hget:DGet Hb ld (.int n) #[e,q']:=by rw[<- hv];exact DGet.k (k:=inl n) hdb
   refine⟨_,rfl,_,rfl,ld,_,rfl,hget,_,rfl,?_⟩;refine iteF ?_;refine⟨_,rfl,_,rfl,ld,_,rfl,hget,_,rfl,lc,_,rfl,#[t,hcb],rfl,hflat,_,rfl,?_⟩;rw[#[P],zia];refine itN (fun hnot=>?_) fun hin=>?_
   ·refine⟨_,rfl,lc,_,rfl,hcb,_,rfl,_,rfl,ld,_,rfl,hget,_,hcb,X4 (by rw[zwo];omega),?_⟩;refine⟨cs'++[q'],_,_,by rw[zwr];omega,rfl,Yb fc sb,by rw[Zh ncd];exact hdb,by rw[Ze,zwv];rfl,Hf nd' hnot,fun c' hc'=>?_⟩;rcases zw0.mp hc' with w|w
    ·exact hcs' c' w
    ·rw[zwt.mp w];exact hSq
   ·exact⟨cs',_,_,hdl',rfl,sb,hdb,hcb,nd',hcs'⟩
  ·rintro σ Hb ⟨cs',u4,u7,hdl',rfl,sb,hdb,hcb,nd',hcs'⟩;exact⟨_,rfl,_,_,rfl,rfl,cs',_,_,hdl',rfl,sb,hdb,hcb,nd',hcs'⟩
 ·exact h Ha sa
def Ej(K:Frag):Sp:=fun vs H Q _=>∃ (l lg:Addr) (ls:List Addr) (rows:List (List Int)) (gs:List V),vs=[.ref l,.ref lg]/\H l=#[I,ls.map,V.ref]/\ILs H ls rows/\rows.length<=100/\H lg=#[r,gs]/\Ye rows gs/\Vw rows gs/\∀ H',#[j]->Q (.bl true) H'
abbrev W2:Stmt:=top 71
theorem Ul:#[p,["_law_may","_law_given","_law_k"],["_law_may","_law_given"],W2]:=fnS
theorem Pc(F:#[i,"_law_left_just_where","_law_left_just_where",W2])(T:#[k])(zr5:#[T,P,w,K,"_law_stuck",1,["_law_may","_law_given","_law_place"],zea]):FnOk P w K mg base #[f] 2 f fd ["_law_may","_law_given"] (Ej K):=by
 refine #[n,Ul];obtain⟨l,lg,ls,rows,gs,rfl,hl,il,hrl,hg,FP,SP,h⟩:=h;refine⟨_,(Zb (Yi PassesOwn.leaving rfl (Yw rfl T.zoq (Za #[ag,Zk,cL K,T.zoa,Za (pv 0) Zc] Zc)) (pN 2 Ul.nd)
  (Zd (Zy (PW.pt (S9 (Zo Ra (pI (iL K) (pv 1) (pv 2)) Yn (Zq _)) (U8 (Yt (Yo (pF zr5 hr (Za (pv 0) (Za (pv 1) (Za (pv 2) Zc)))))))))
   (Zd (Zl Yr))
   Zp)))
 (Zd (Zl Yr))),?_⟩
 refine⟨_,rfl,l,_,rfl,#[t,hl],_,rfl,by omega,by rw[zwo,il.length];omega,?_⟩;rw[zwo,il.length,zw3];refine Xb (fun i σ H'=>(∃ v2,σ=[some (.ref l),some (.ref lg),v2])/\#[j]) ⟨#[w,_],Same.refl _⟩ ?_ ?_
 ·rintro i σ H' hi ⟨⟨v2,rfl⟩,sm⟩;rw[zxz];have hgi:i<gs.length:=by rw[FP.len];exact hi
  have hx:gs[i]?=some (gs[i]'hgi):=zwp hgi;have hone:=FP.one _ (zxd hgi);generalize (gs[i]'hgi)=x at hx hone;refine⟨_,rfl,_,rfl,lg,_,_,_,rfl,rfl,#[F,sm,hg],Zz hx,rfl,_,rfl,?_⟩;rcases hone with rfl|⟨n,rfl⟩
  ·refine iteT ?_;refine⟨_,rfl,_,rfl,_,rfl,l,lg,ls,rows,gs,i,rfl,sm _ _ hl,il.same sm,hrl,sm _ _ hg,FP,hi,SP i hx,fun H2 s2=>#[q,_,?_]⟩;exact iteF ⟨#[w,_],sm.trans s2⟩
  ·exact iteF ⟨#[w,_],sm⟩
 ·rintro σ H' ⟨⟨v2,rfl⟩,sm⟩;exact h H' sm
abbrev Sw:Stmt:=top 72
theorem X7:#[p,["_law_may","_law_given","_law_place","_law_steps_here","_law_here","_law_k","_law_spot","_law_number"],#[aC],Sw]:=fnS
theorem Iv(F:#[i,"_law_is_chain","_law_is_chain",Sw])(T:#[k])(zoo:Z2 P w K mg base "_law_whole" 1 ["_law_found"] M7):FnOk P w K mg base #[f] 2 f fd #[aC] (Cq K):=by
 refine #[n,X7];obtain⟨l,lg,lt,ls,rows,gs,ts,p,e,st,w,rfl,hl,il,hrl,hg,FP,hp,ht,tl,hst,hc,hw,h⟩:=h;refine⟨_,(Zb (Zy (Yt (Yo #[az,Zk,Xr (K:=K) rfl,T.zod,Za (pv 3) (Za (W3 rfl T.zo3 PyProof.Rows.boot_list (show RelV (.ty "list") _ from rfl)) Zc)]))
  (Zd (Zl Yr))
  Zp)
 (Zb (pS 4 X7.nd (pv 2))
 (Zb (Yi PassesOwn.leaving rfl (Yw rfl T.zoq (Za (Zk (cL K) (by rfl) T.zoa PySem.boot_len (Za (pv 3) Zc)) Zc)) (pN 5 X7.nd)
  (Zb (Zy (PW.pt (X8 (Yt (Yo (Zk (Xr (K:=K) rfl) (by rfl) T.zod PyProof.Rows.boot_isinstance (Za (pI (iL K) (pv 3) (pv 5)) (Za (W3 rfl T.zrr PyProof.Rows.boot_tuple (show RelV (.ty "tuple") _ from rfl)) Zc))))) (Xu (Zo P5 (Zk (cL K) (by rfl) T.zoa PySem.boot_len (Za (pI (iL K) (pv 3) (pv 5)) Zc)) Zf (Zq _)))))
   (Zd (Zl Yr))
   Zp)
  (Zb (Qg (pI (iL K) (pv 3) (pv 5)) (Wb (K:=K) (n:=2) rfl rfl (Z0 (pN 6 X7.nd) (Z0 (pN 7 X7.nd) X9))))
  (Zb (Zy (PW.pt (X8 (Yt (Yo (pF zoo hr (Za (pv 6) Zc)))) (Xu (Zo P5 (pv 6) (pv 4) (Zq _)))))
   (Zd (Zl Yr))
   Zp)
  (Zb (Zy (Zo Ra (pv 7) Yn (Zq _))
   (Zd (Zl (Wa Xv (Zt Yy (pv 5) Zf) (Zk (cL K) (by rfl) T.zoa PySem.boot_len (Za (pv 3) Zc)) (Zq _))))
   Zp)
  (Zb (Zy (PW.pt (X8 (Yt (Yo (pF zoo hr (Za (pv 7) Zc)))) (Xu (Zo (Wg (K:=K) rfl) (pv 7) (pI (iL K) (pv 0) (pv 4)) (by with_unfolding_all rfl)))))
   (Zd (Zl Yr))
   Zp)
  (Zb (Zy (Zo (Wg (K:=K) rfl) (pv 7) (pv 1) (by with_unfolding_all rfl))
   (Zd (Zl (Wa Xv (Zt Yy (pv 5) Zf) (Zk (cL K) (by rfl) T.zoa PySem.boot_len (Za (pv 3) Zc)) (Zq _))))
   Zp)
  (Zd (pS 4 X7.nd (zdg PySem.F.plainAttrs_list PySem.F.slot_list_index PySem.F.type_list_index Gn (pv 1) (Za (pv 7) Zc)))))))))))
 (Zd (Zl Yr))))),?_⟩
 show let y1:TS:=_;let y2:TS:=Zw _ y1;let y3:TS:=Zw _ y2;let y4:TS:=Zw _ y3;let y5:TS:=Zw _ y4;let y6:TS:=Zw _ y5;let y7:TS:=_;let y8:TS:=Zw (zei _ _ (Zw _ y6)) y7;let y9:TS:=Zw _ y8;Zw _ y9 _ _ _;intro y1 y2 y3 y4 y5 y6 y7 y8 y9;have htl:ts.length=st.length:=by rw[tl.length,zwo]
 have hgf:gs.all Tb=true:=zyb.mpr fun z hz=>M9 (FP.one z hz);refine⟨_,rfl,_,_,_,_,rfl,.of (.lst ht),#[M,_,rfl],N2 K,_,rfl,?_⟩;refine iteF ?_;refine#[q,_,?_];refine⟨_,rfl,lt,_,rfl,#[t,ht],_,rfl,by omega,by omega,?_⟩;rw[htl,zw3]
 let jv4:Nat->L2.St->Hp->Prop:=fun i σ H'=>H'=H/\∃ (q:Nat) (v5 v6 v7:Option V),σ=[#[c,l],#[c,lg],#[e,p],#[c,lt],#[e,q],v5,v6,v7]/\q<rows.length/\Ch rows gs q (st.drop i) e w
 refine Xb jv4 ⟨rfl,p,_,_,_,rfl,hp,hc⟩ ?_ ?_
 ·rintro i σ H' hi ⟨rfl,q,v5,v6,v7,rfl,hq,hci⟩;rw[zxz];obtain⟨x,rest,ed⟩:=hci.hd;have hsi:st[i]?=some (q,x):=by
   have:(st.drop i)[0]?=some (q,x):=by rw[ed];rfl
   rw[zy5,Nat.add_zero] at this;exact this
  obtain⟨t,e1,htt⟩:=zdq tl hsi;have hlen:st.length=i+(rest.length+1):=by
   have:=congrArg List.length ed;rw[zyt,zw9] at this;omega
  walk_at "if";refine Yk (Y9 (b:=false) (Wc (b:=false) (c:=false) (fun Q k=>⟨_,rfl,_,rfl,lt,_,_,_,rfl,rfl,SqL.of ht,Zz e1,_,_,_,_,rfl,.of (.tup htt),#[M,_,rfl],Bm K,_,rfl,k⟩) fun Q k=>⟨_,rfl,_,rfl,lt,_,_,_,rfl,rfl,SqL.of ht,Zz e1,t,_,rfl,.inr (SqT.of htt),rfl,_,rfl,k⟩) #[V]);refine⟨_,rfl,_,rfl,lt,_,_,_,rfl,rfl,SqL.of ht,Zz e1,t,_,rfl,SqT.of htt,rfl,_,_,rfl,_,_,rfl,rfl,?_⟩;walk_at "if";refine Yk (Y9 (b:=false) (Wc (b:=false) (c:=false) (fun Q k=>⟨_,rfl,_,rfl,_,rfl,k⟩) fun Q k=>⟨_,rfl,_,rfl,rfl,_,rfl,by rw[zwu rfl];exact k⟩) #[V]);have fin:rest.length=0->∀ {Q':VK},Q' (.bl true) H'->∀ {D:Pp} {σ2:L2.St},D.rt=Q'->σ2[5]?=some #[e,(i:Int)]->σ2[3]?=some #[c,lt]->zef (tOp rEq (tOp (rI0 fun i j=>V.int (i+j)) (tVar 5) (tC (V.int 1))) (tCB (fun xs H Q=>∃ p ys,xs=[V.ref p]/\(SqL K H p ys\/SqT K H p ys)/\Q (V.int (ys.length:Nat)) H) (Ph (tVar 3) tNil))) D σ2 H':=fun h0 {Q'} q {D} {σ2} hD h5 h3=>by
   refine⟨_,h5,_,_,rfl,rfl,_,h3,lt,_,rfl,#[t,ht],rfl,?_⟩;rw[hD,htl,zwu (by rw[hlen,h0];rfl)];exact q
  refine⟨_,rfl,rfl,_,rfl,?_⟩;cases x with
  | none =>
    refine iteT ?_;have h0:rest.length=0:=by
     rw[ed] at hci;cases hci with
     | one q w=>rfl
    exact fin h0 h rfl rfl rfl
  | some n =>
    refine #[V];have hr':rows[q]?=some (rows[q]'hq):=zwp hq;generalize (rows[q]'hq)=r at hr';obtain⟨lr,e2,e3⟩:=il.getR hr';have hl':(ls.map V.ref)[q]?=#[c,lr]:=by rw[zws,e2];rfl
    have hnr:n∈r:=by
     have:∃ r,rows[q]?=some r/\n∈r:=by
      rw[ed] at hci;cases hci with
      | one q w=>exact(hw n rfl).1
      | step a h=>exact a.1
     obtain⟨r',h1,h2⟩:=this;rw[hr'] at h1;cases h1;exact h2
    walk_at "if";refine Yk (Y9 (b:=false) (Wc (b:=false) (c:=false) (fun Q k=>⟨_,rfl,n,rfl,_,rfl,k⟩) fun Q k=>⟨_,rfl,_,rfl,_,rfl,l,_,_,_,rfl,rfl,SqL.of hl,Zz hl',lr,_,rfl,#[t,e3],rfl,Kj r,_,rfl,by rw[show oV (some n)=V.int n from rfl,Qm,zwu hnr];exact k⟩) #[V]);refine⟨_,rfl,_,rfl,lg,gs,rfl,#[t,hg],rfl,hgf,_,rfl,?_⟩;rw[#[P]];rw[ed] at hci;cases hci with
    | one q w =>
      have hno:inV (.int n) gs=false:=by
       rw[Bool.eq_false_iff];intro z;obtain⟨j,hj⟩:=(R4 FP.one).mp z;exact(hw n rfl).2 j hj
      rw[show inV (oV (some n)) gs=false from hno];refine iteT ?_;exact fin rfl h rfl rfl rfl
    | @step q q' e n st' w a hc' =>
      have hin:inV (.int n) gs=true:=(R4 FP.one).mpr ⟨q',a.2⟩;rw[show inV (oV (some n)) gs=true from hin];refine iteF ?_;have hq':q' < rows.length:=by
       have:=(zwq.mp a.2).1;rw[FP.len] at this;exact this
      refine⟨_,rfl,.inl ⟨rfl,_,SqL.of hg⟩,_,rfl,lg,gs,.int n,q',rfl,rfl,hg,rfl,hgf,⟨_,a.2,by show (n == n)=true;simp⟩,fun m z hm hz=>?_,rfl,q',_,_,_,rfl,hq',?_⟩
      ·rw[Bool.eq_false_iff];intro k;have:=(Qn (FP.one z (zww hz))).mp k;subst this;exact absurd (FP.inj m q' n hz a.2) ⋯
      ·have:st.drop (i+1)=rest:=by
        rw[<- List.drop_drop,ed];rfl
       rw[this];exact hc'
 ·rintro σ H' ⟨rfl,q,v5,v6,v7,rfl,hq,hci⟩;rw[List.drop_length] at hci;cases hci
abbrev Oy:Stmt:=top 73
theorem Ww:#[p,["_law_may","_law_given","_law_place","_law_known","_law_news","_law_more","_law_here","_law_there"],["_law_may","_law_given","_law_place"],Oy]:=fnS
theorem Al(F:#[i,"_law_steps","_law_steps",Oy])(T:#[k]):FnOk P w K mg base #[f] 1 f fd ["_law_may","_law_given","_law_place"] (zdr K):=by
 refine #[n,Ww];obtain⟨l,lg,ls,rows,gs,p,rfl,hl,il,hrl,hg,FP,hp,h⟩:=h;have hu:=Xy hr;refine⟨_,(Zb (pS 3 Ww.nd (Bb (Ta (pv 2) Zf Ba) rfl rfl (by simp) ⋯))
 (Zb (pS 4 Ww.nd (Z6 (Za (pv 2) Zc)))
 (Zb (Mz PassesOwn.leaving (Zo (Hh (K:=K) rfl hr.units) (pv 4) (Z6 Zc) (Zq _))
  (Zb (pS 5 Ww.nd (Z6 Zc))
  (Zb (Yi PassesOwn.leaving rfl (Z8 (K:=K) rfl (pv 4)) (pN 6 Ww.nd)
   (Zd (Yi PassesOwn.leaving rfl (Yw rfl T.zoq (Za (Zk (cL K) (by rfl) T.zoa PySem.boot_len (Za (pv 1) Zc)) Zc)) (pN 7 Ww.nd)
    (Zd (Zy (PW.pt (S9 (Zo (N1 (K:=K) rfl) (pI (iL K) (pv 1) (pv 7)) (pI (iL K) (pv 0) (pv 6)) (by with_unfolding_all rfl)) (U8 (Tf (Rw hu (pv 7) (pv 3))))))
     (Zb (Ym hu (pv 3) (pv 7) (Zt Yy (pD hu (pv 3) (pv 6)) Zf) rfl)
     (Zd (Yu (pv 5) (pv 7))))
     Zp)))))
  (Zd (pS 4 Ww.nd (pv 5))))))
 (Zd (Zl (pv 3)))))),?_⟩
 show let y1:TS:=_;let y2:TS:=Zw _ y1;let y3:TS:=_;let y4:TS:=Zw (C9 _ (Zw _ y2)) y3;let y5:TS:=Zw _ y4;Zw _ y5 _ _ _;intro y1 y2 y3 y4 y5;intro ld hld;refine#[Y,_,Ze,[(inl (p:Int),.int 1)],(by show 1<=15;decide),?_];have s0:Same H (upd (upd H ld (.dK [])) ld (.dK (Vl [] [(inl (p:Int),.int 1)]))):=Yb hld (Zj hld);have q0:upd (upd H ld (.dK [])) ld (.dK (Vl [] [(inl (p:Int),.int 1)])) ld=#[b,.dK,Xf [p] fun _=>0]:=Ze;generalize upd (upd H ld (.dK [])) ld (.dK (Vl [] [(inl (p:Int),.int 1)]))=H1 at s0 q0;refine⟨_,rfl,sz1,fun ln hln=>?_⟩;refine #[z,ln,hln,fun H2 TH2 s1=>?_];have e1:H2 ln=some (.lst (Yf [p])):=TH2;have q1:=s1 _ _ q0;have s01:=s0.trans s1;have nln:ld≠ln:=Zg q0 hln;have fln:H ln=none:=s0.free hln;have hbound:∀ line:#[B],line.Nodup->(∀ c∈line,c<rows.length)->line.length<=rows.length:=fun line nd hc=>by
  have:=#[aD,zxr.mpr (hc c hcc)];rw[zxo] at this;exact this
 refine⟨fun m σ H'=>∃ (line pre news:#[B]) (dep:Nat->Nat) (ln:Addr) (v5 v6 v7:Option V) (D:Nat),m=rows.length-pre.length/\line=pre++news/\σ=[#[c,l],#[c,lg],#[e,p],#[c,ld],#[c,ln],v5,v6,v7]/\#[j]/\H' ld=#[b,.dK,Xf line dep]/\H' ln=#[I,Yf,news]/\ln≠ld/\#[ar]/\Done rows gs line dep pre.length/\(∀ q∈line,q<rows.length)/\(∀ q∈line,dep q<=D)/\∀ q∈news,dep q=D,
  ⟨_,[p],[],[p],fun _=>0,ln,_,_,_,0,rfl,rfl,rfl,s01,q1,e1,Ne.symm nln,Cp rows gs p,fun i q hi=>absurd hi (zyc _),by simpa using hp,fun q _=>zw1 _,fun q _=>rfl⟩,?_⟩
 rintro m σ Ha ⟨line,pre,news,dep,ln',v5,v6,v7,D,rfl,rfl,rfl,sa,hda,hna,nn,B,Dn,hlt,hD1,hD2⟩;have hll:=hbound _ B.nodup hlt;rw[zwr] at hll;refine⟨_,rfl,by show 0<=sizeLine;decide,fun m0 hm0=>⟨.lst ((news.map fun (k:Nat)=>((k:Nat):Int)).map Dt.int),.lst [],.lst (SqL.of (Zj hm0 _ _ hna)) (Bq news),.lst (SqL.of Ze) .nil,Hi _,Tt,_,rfl,?_⟩⟩;rw[#[P],Lc];refine #[z,m0,hm0,fun Hb _ t0=>?_];have sb:=sa.trans t0;have hdb:=t0 _ _ hda;have hnb:=t0 _ _ hna;cases hne:(news.map fun (k:Nat)=>((k:Nat):Int)).isEmpty with
 | true =>
   refine iteF ?_;have e0:news=[]:=by
    cases news with
    | nil=>rfl
    | cons x xs=>cases hne
   subst e0;rw[zx4] at hdb B Dn hlt;exact#[q,_,h ld pre dep Hb hdb B Dn hlt sb hld]
 | false =>
   refine iteT ?_;have npos:0<news.length:=by
    cases news with
    | nil=>cases hne
    | cons x xs=>rw[zw9];omega
   refine⟨fun σ' H'=>∃ (more:#[B]) (dep:Nat->Nat) (lm:Addr) (v5 v6 v7:Option V),σ'=[#[c,l],#[c,lg],#[e,p],#[c,ld],#[c,lm],v5,v6,v7]/\#[j]/\H' ld=#[b,.dK,Xf (pre++news++more) dep]/\H' lm=#[I,Yf,more]/\lm≠ld/\Bfs rows gs p (pre++news++more) dep/\Done rows gs (pre++news++more) dep (pre++news).length/\(∀ q∈pre++news++more,q<rows.length)/\(∀ q∈pre++news++more,dep q<=D+1)/\∀ q∈more,dep q=D+1,
    fun σ' H' ⟨more,dep',lm,w5,w6,w7,a1,a2,a3,a4,a5,a6,a7,a8,a9,a10⟩=>⟨rows.length-(pre++news).length,by rw[zwr];omega,_,pre++news,more,dep',lm,w5,w6,w7,D+1,rfl,rfl,a1,a2,a3,a4,a5,a6,a7,a8,a9,a10⟩,?_⟩
   refine#[aq,fun lm hlm=>?_];refine #[z,lm,hlm,fun Hc THc t1=>?_];have sc:=sb.trans t1;have hdc:=t1 _ _ hdb;have hnc:=t1 _ _ hnb;have qm:Hc lm=some (.lst (Yf [])):=THc;have nmd:lm≠ld:=Ne.symm (Zg hdb hlm);have nmn:ln'≠lm:=Zg hnb hlm;have flm:H lm=none:=sb.free hlm;refine⟨_,rfl,ln',rfl,⟨_,SqL.of hnc⟩,?_⟩
   let jv5:Nat->L2.St->Hp->Prop:=fun j σ H'=>∃ (more:List Nat) (dep:Nat->Nat) (v6 v7:Option V),σ=[#[c,l],#[c,lg],#[e,p],#[c,ld],#[c,ln'],#[c,lm],v6,v7]/\#[j]/\H' ln'=#[I,Yf,news]/\H' ld=#[b,.dK,Xf (pre++news++more) dep]/\H' lm=#[I,Yf,more]/\Bfs rows gs p (pre++news++more) dep/\Done rows gs (pre++news++more) dep (pre.length+j)/\(∀ q∈pre++news++more,q<rows.length)/\(∀ q∈pre++news++more,dep q<=D+1)/\(∀ q∈news,dep q=D)/\∀ q∈more,dep q=D+1
   refine Xd (K:=K) (a:=ln') (xs:=Yf news) jv5
    ⟨[],dep,_,_,rfl,sc,hnc,by rw[zx4];exact hdc,qm,by rw[zx4];exact B,by rw[zx4];exact Dn,by rw[zx4];exact hlt,by rw[zx4];exact fun q hq=>zx8 (hD1 q hq),hD2,by simp⟩ (by rintro j σ H' _ ⟨_,_,_,_,_,_,z,_⟩;exact SqL.of z) ?_ ?_
   ·rintro j y σ Hx hy ⟨more,dx,w6,w7,rfl,sx,hnx,hdx,hmx,Bx,Dx,hlx,hd1,hd2,hd3⟩;have hj:j<news.length:=by
     have:=(zwq.mp hy).1;unfold Yf at this;rw[zwo] at this;exact this
    have hnj:news[j]?=some (news[j]'hj):=zwp hj;generalize (news[j]'hj)=here at hnj;have ey:y=.int here:=by unfold Yf at hy;rw[zws,hnj] at hy;exact(Option.some.inj hy).symm
    subst ey;have hhn:=zww hnj;have hhere:here<rows.length:=hlx here (zxa _ (zw7 _ hhn));have hidx:∀ more:#[B],(pre++news++more)[pre.length+j]?=some here:=fun more=>by
     rw[zxw,zxl ⋯,Nat.add_sub_cancel_left,zxm hj];exact hnj
    have hr':rows[here]?=some (rows[here]'hhere):=zwp hhere;generalize (rows[here]'hhere)=r at hr';obtain⟨lr,e2,e3⟩:=il.getR hr';have hl':(ls.map V.ref)[here]?=#[c,lr]:=by rw[zws,e2];rfl
    refine⟨_,rfl,lg,_,rfl,#[t,sx _ _ hg],_,rfl,by omega,by rw[FP.len];omega,?_⟩;rw[FP.len,zw3]
    let jv6:Nat->L2.St->Hp->Prop:=fun t σ H'=>∃ (more:List Nat) (dep:Nat->Nat) (v7:Option V),σ=[#[c,l],#[c,lg],#[e,p],#[c,ld],#[c,ln'],#[c,lm],#[e,here],v7]/\#[j]/\H' ln'=#[I,Yf,news]/\H' ld=#[b,.dK,Xf (pre++news++more) dep]/\H' lm=#[I,Yf,more]/\Bfs rows gs p (pre++news++more) dep/\Done rows gs (pre++news++more) dep (pre.length+j)/\(∀ q∈pre++news++more,q<rows.length)/\(∀ q∈pre++news++more,dep q<=D+1)/\(∀ q∈news,dep q=D)/\(∀ q∈more,dep q=D+1)/\∀ q',q' < t->∀ n,adjN rows gs here n q'->q'∈pre++news++more
    refine Xb jv6
     ⟨more,dx,_,rfl,sx,hnx,hdx,hmx,Bx,Dx,hlx,hd1,hd2,hd3,fun q' hq'=>absurd hq' (zyc _)⟩ ?_ ?_
    ·rintro t σ Hy ht ⟨more,dy,u7,rfl,sy,hny,hdy,hmy,By,Dy,hly,hy1,hy2,hy3,hy4⟩;rw[zxz];have hgt:t<gs.length:=by rw[FP.len];exact ht
     have hx:gs[t]?=some (gs[t]'hgt):=zwp hgt;have hone:=FP.one _ (zxd hgt);generalize (gs[t]'hgt)=x at hx hone;have hyl:=hbound _ By.nodup hly;have hdh:dy here=D:=hy2 here hhn;refine Y9 (b:=inV x (r.map V.int) && !(valV (Xf (pre++news++more) dy) (inl (t:Int):Key)).isSome) (Kh (fun Q k=>⟨_,rfl,_,rfl,lg,_,_,_,rfl,rfl,#[F,sy,hg],Zz hx,_,rfl,_,rfl,l,_,_,_,rfl,rfl,#[F,sy,hl],Zz hl',lr,_,rfl,#[t,sy _ _ e3],M9 hone,Kj r,_,rfl,k⟩) fun Q k=>⟨_,rfl,_,rfl,ld,_,rfl,DGet.k (k:=inl (t:Int)) hdy,_,rfl,k⟩) ?_;refine itB (fun hb=>?_) fun hb=>?_
     ·rw[zx6] at hb;obtain⟨b1,b2⟩:=hb;have hnt:t∉pre++news++more:=fun z=>by rw[Ld z] at b2;cases b2
      obtain⟨n,rfl⟩:∃ n,x=.int n:=by
       rcases hone with rfl|z
       ·exfalso
        unfold inV at b1;obtain⟨w',hw',ew⟩:=zy1.mp b1;obtain⟨z,_,rfl⟩:=zwx.mp hw';cases ew
       ·exact z
      rw[Qm,decide_eq_true_eq] at b1;have ha:adjN rows gs here n t:=⟨⟨r,hr',b1⟩,hx⟩;obtain⟨B',old,all⟩:=By.app (dn:=pre.length+j) (hidx more) (fun z hz=>by rw[hdh];exact hy1 z hz) ha hnt;have hkh:valV (Xf (pre++news++more) dy) (inl (here:Int):Key)=#[b,.int,((dy here+1:Nat):Int)]:=Ld (zxa _ (zw7 _ hhn));have hget:DGet Hy ld (.int here) #[e,((dy here+1:Nat):Int)]:=by rw[<- hkh];exact DGet.k (k:=inl (here:Int)) hdy
      refine⟨_,rfl,_,rfl,ld,_,rfl,hget,_,_,rfl,rfl,_,rfl,_,rfl,ld,_,rfl,DPut.k (k:=inl (t:Int)) hdy (X4 (by rw[ze9];omega)),?_⟩;have ek:putK (Xf (pre++news++more) dy) (inl (t:Int)) (.int (((dy here+1:Nat):Int)+1))=Xf (pre++news++(more++[t])) (Wi dy t (dy here+1)):=by
       rw[show (((dy here+1:Nat):Int)+1)=((dy here+1+1:Nat):Int) from rfl,ze8 hnt,zxw (pre++news)]
      rw[ek];have hm2:upd Hy ld (.dK (Xf (pre++news++(more++[t])) (Wi dy t (dy here+1)))) lm=some (.lst (Yf more)):=by rw[Zh nmd];exact hmy
      refine⟨_,rfl,lm,_,rfl,hm2,_,rfl,_,hm2,X4 (by unfold Yf;rw[zwo];rw[zwr] at hyl;omega),?_⟩;rw[zxw (pre++news)] at B' all;refine⟨more++[t],Wi dy t (dy here+1),_,rfl,Yb flm (Yb hld sy),?_,?_,?_,B',?_,?_,?_,?_,?_,?_⟩
      ·rw[Zh nmn,Zh nn];exact hny
      ·rw[Zh (Ne.symm nmd),Ze]
      ·rw[Ze];unfold Yf;rw[zwv];rfl
      ·exact Dy.app (by rw[zwr,zwr];omega) ⟨[t],by rw[zxw (pre++news)]⟩ old
      ·intro q hq;rw[<- zxw] at hq;rcases zw0.mp hq with z|z
       ·exact hly q z
       ·rw[zwt.mp z];exact ht
      ·intro q hq;have:=all q hq;omega
      ·intro q hq;rw[old q (zxa _ (zw7 _ hq))];exact hy2 q hq
      ·intro q hq;rcases zw0.mp hq with z|z
       ·rw[old q (zw7 _ z)];exact hy3 q z
       ·rw[zwt.mp z];unfold Wi;rw[#[P],hdh]
      ·intro q' hq' n' a';rw[<- zxw];by_cases hqt:q'=t
       ·rw[hqt];exact zw7 _ (by simp)
       ·exact zxa _ (hy4 q' ⋯ n' a')
     ·refine⟨more,dy,_,rfl,sy,hny,hdy,hmy,By,Dy,hly,hy1,hy2,hy3,fun q' hq' n' a'=>?_⟩;by_cases hqt:q'=t
      ·subst hqt;have hxn:x=.int n':=by have:=a'.2;rw[hx] at this;exact Option.some.inj this
       subst hxn;obtain⟨r',g1,g2⟩:=a'.1;rw[hr'] at g1;cases g1;rw[Qm,zwu g2,Bool.true_and] at hb;cases hv:#[g,q'∈pre++news++more] with
       | true=>exact of_decide_eq_true hv
       | false=>rw[Cr (of_decide_eq_false hv)] at hb;cases hb
      ·exact hy4 q' ⋯ n' a'
    ·rintro σ Hy ⟨more,dy,u7,rfl,sy,hny,hdy,hmy,By,Dy,hly,hy1,hy2,hy3,hy4⟩;refine⟨more,dy,_,_,rfl,sy,hny,hdy,hmy,By,fun i q hi e n q' a'=>?_,hly,hy1,hy2,hy3⟩;by_cases hij:i<pre.length+j
     ·exact Dy i q hij e n q' a'
     ·have:i=pre.length+j:=by omega
      subst this;rw[hidx more] at e;cases e;have hq':q' < rows.length:=by
       have:=(zwq.mp a'.2).1;rw[FP.len] at this;exact this
      have hin:=hy4 q' hq' n a';exact⟨hin,by rw[hy2 here hhn];exact hy1 q' hin⟩
   ·rintro σ Hx ⟨more,dx,w6,w7,rfl,sx,hnx,hdx,hmx,Bx,Dx,hlx,hd1,hd2,hd3⟩;refine⟨_,rfl,more,dx,lm,_,_,_,rfl,sx,hdx,hmx,nmd,Bx,?_,hlx,hd1,hd3⟩;rw[zwr];unfold Yf at Dx;rw[zwo] at Dx;exact Dx
abbrev Rq:Stmt:=top 74
theorem Um:#[p,["_law_may","_law_given","_law_known","_law_counts","_law_here","_law_number"],["_law_may","_law_given","_law_known"],Rq]:=fnS
theorem Ek(F:#[i,"_law_to_free","_law_to_free",Rq])(T:#[k]):FnOk P w K mg base #[f] 1 f fd ["_law_may","_law_given","_law_known"] (zam K):=by
 refine #[n,Um];obtain⟨l,lg,lk,ls,rows,gs,line,dep,rfl,hl,il,hrl,hrr,hg,ho,hk,nd,hlt,h⟩:=h;have hu:=Xy hr;refine⟨_,(Zb (pS 3 Um.nd (Z6 Zc))
 (Zb (Yi PassesOwn.leaving rfl (Z8 (K:=K) rfl (Yx (Nz rfl) (by rfl) T.zo3 PyProof.Rows.boot_list (Za (pv 2) Zc))) (pN 4 Um.nd)
  (Zd (Yi PassesOwn.leaving rfl (Z8 (K:=K) rfl (pI (iL K) (pv 0) (pv 4))) (pN 5 Um.nd)
   (Zd (Zy (Zo (Wg (K:=K) rfl) (pv 5) (pv 1) (by with_unfolding_all rfl))
    (Zd (Yu (pv 3) (pD hu (pv 2) (pv 4))))
    Zp)))))
 (Zd (Zl (zi6 (K:=K) rfl rfl rfl T.ztt (Za (pv 3) Zc) (zin Zf zkh)))))),?_⟩
 have big:1000000<sizeLine:=by rw[sizeLine_eq];decide
 have hgf:gs.all Tb=true:=zyb.mpr fun z hz=>M9 (ho z hz);have hll:line.length<=rows.length:=by
  have:=#[aD,zxr.mpr (hlt c hcc)];rw[zxo] at this;exact this
 refine#[aq,fun lc hlc=>?_];refine al (upd _ lc _) hlc rfl fun H1 TH1 s1=>?_;have e1:#[y,H1,lc,([]:#[a])]:=TH1;refine#[Y,_,lk,_,.inl (s1 _ _ hk),fun ln hln=>?_];rw[zcn];refine #[z,ln,hln,fun H2 e2 s2=>?_];have e12:=s2 _ _ e1;have s12:=s1.trans s2;have nlc:ln≠lc:=Ne.symm (Zg e1 hln);refine⟨ln,rfl,⟨_,SqL.of e2⟩,?_⟩
 let jv7:Nat->L2.St->Hp->Prop:=fun i σ' H'=>∃ (cs:List Nat) (v4 v5:Option V),σ'=[#[c,l],#[c,lg],#[c,lk],#[c,lc],v4,v5]/\#[j]/\H' ln=#[I,Yf,line]/\H' lc=#[I,Yf,cs]/\cs.length<=i*1000/\(∀ c∈cs,∃ q∈line,X2 rows gs q/\c=dep q+1)/\∀ (j q:Nat),j<i->line[j]?=some q->X2 rows gs q->dep q+1∈cs
 refine Xd (K:=K) (a:=ln) (xs:=Yf line) jv7
  ⟨[],_,_,rfl,s12,e2,e12,by simp,by simp,fun j q hj=>absurd hj (zyc _)⟩ (by rintro i σ' H' _ ⟨_,_,_,_,_,z,_⟩;exact SqL.of z) ?_ ?_
 ·rintro i y σ' Hx hy ⟨cs,v4,v5,rfl,sx,hnx,hcx,hcl,h1,h2⟩;have hi:i<line.length:=by
   have:=(zwq.mp hy).1;unfold Yf at this;rw[zwo] at this;exact this
  have hli:line[i]?=some (line[i]'hi):=zwp hi;generalize (line[i]'hi)=here at hli;have ey:y=.int here:=by unfold Yf at hy;rw[zws,hli] at hy;exact(Option.some.inj hy).symm
  subst ey;have hhm:=zww hli;have hhere:=hlt here hhm;have hr':rows[here]?=some (rows[here]'hhere):=zwp hhere;generalize (rows[here]'hhere)=r at hr';have hrl2:=hrr r (zww hr');obtain⟨lr,e3,e4⟩:=il.getR hr';have hl':(ls.map V.ref)[here]?=#[c,lr]:=by rw[zws,e3];rfl
  refine⟨_,rfl,_,rfl,l,_,_,_,rfl,rfl,#[F,sx,hl],Zz hl',lr,rfl,⟨_,SqL.of (sx _ _ e4)⟩,?_⟩
  let jv8:Nat->L2.St->Hp->Prop:=fun j σ' H'=>∃ (cs:List Nat) (v5:Option V),σ'=[#[c,l],#[c,lg],#[c,lk],#[c,lc],#[e,here],v5]/\#[j]/\H' ln=#[I,Yf,line]/\H' lc=#[I,Yf,cs]/\cs.length<=i*1000+j/\(∀ c∈cs,∃ q∈line,X2 rows gs q/\c=dep q+1)/\(∀ (j q:Nat),j<i->line[j]?=some q->X2 rows gs q->dep q+1∈cs)/\∀ n∈r.take j,(∀ k:Nat,gs[k]?≠some (.int n))->dep here+1∈cs
  refine Xd (K:=K) (a:=lr) (xs:=r.map V.int) jv8
   ⟨cs,_,rfl,sx,hnx,hcx,by omega,h1,h2,by simp⟩ (by rintro j σ' H' _ ⟨_,_,_,z,_⟩;exact #[F,z,e4]) ?_ ?_
  ·rintro j y σ' Hy hy ⟨cs,v5,rfl,sy,hny,hcy,hcl,h1,h2,h3⟩;have hj:j<r.length:=by have:=(zwq.mp hy).1;rw[zwo] at this;exact this
   have hrj:r[j]?=some (r[j]'hj):=zwp hj;have etk:r.take (j+1)=r.take j++[r[j]'hj]:=zw8 hj;generalize (r[j]'hj)=n at hrj etk;have ey:y=.int n:=by rw[zws,hrj] at hy;exact(Option.some.inj hy).symm
   subst ey;refine Y9 (b:=!inV (.int n) gs) (fun Q k=>⟨_,rfl,_,rfl,lg,gs,rfl,#[t,sy _ _ hg],rfl,hgf,_,rfl,k⟩) ?_;cases hin:inV (.int n) gs with
   | true =>
     refine iteF (Zu ⟨cs,_,rfl,sy,hny,hcy,by omega,h1,h2,fun m hm hno=>?_⟩);rw[etk] at hm;rcases zw0.mp hm with z|z
     ·exact h3 m z hno
     ·rw[zwt.mp z] at hno;obtain⟨k,hk⟩:=(R4 ho).mp hin;exact absurd hk (hno k)
   | false =>
     have hno:∀ k:Nat,gs[k]?≠some (.int n):=fun k hk=>by
      rw[(R4 ho).mpr ⟨k,hk⟩] at hin;cases hin
     have hf:X2 rows gs here:=⟨n,⟨r,hr',zww hrj⟩,hno⟩;have hkv:valV (Xf line dep) (inl (here:Int):Key)=#[b,.int,((dep here+1:Nat):Int)]:=Ld hhm;have hget:DGet Hy lk (.int here) #[e,((dep here+1:Nat):Int)]:=by rw[<- hkv];exact DGet.k (k:=inl (here:Int)) (sy _ _ hk)
     have hsz:(Yf cs).length<sizeLine:=by
      unfold Yf;rw[zwo];have:i*1000<=100*1000:=Nat.mul_le_mul_right _ ⋯;omega
     refine iteT ⟨_,rfl,lc,_,rfl,hcy,_,rfl,_,rfl,lk,_,rfl,hget,_,hcy,hsz,cs++[dep here+1],_,rfl,Yb hlc sy,?_,?_,?_,?_,?_,?_⟩
     ·rw[Zh nlc];exact hny
     ·rw[Ze];unfold Yf;rw[zwv];rfl
     ·rw[zwr];show cs.length+1<=_;omega
     ·intro c hc;rcases zw0.mp hc with z|z
      ·exact h1 c z
      ·rw[zwt.mp z];exact⟨here,hhm,hf,rfl⟩
     ·intro j q hj hq hqf;exact zxa _ (h2 j q hj hq hqf)
     ·intro m hm hno;exact zw7 _ (zwt.mpr rfl)
  ·rintro σ' Hy ⟨cs,v5,rfl,sy,hny,hcy,hcl,h1,h2,h3⟩;rw[zwo] at hcl;rw[zwo,zw6] at h3;refine⟨cs,_,_,rfl,sy,hny,hcy,by omega,h1,fun j q hj hq hqf=>?_⟩;by_cases e:j=i
   ·rw[e,hli] at hq;cases hq;obtain⟨n,⟨r2,g1,g2⟩,g3⟩:=hqf;rw[hr'] at g1;cases g1;exact h3 n g2 g3
   ·exact h2 j q ⋯ hq hqf
 ·rintro σ' Hx ⟨cs,v4,v5,rfl,sx,hnx,hcx,hcl,h1,h2⟩;unfold Yf at h2;rw[zwo] at h2;have ec:Yf cs=(cs.map fun c:Nat=>(c:Int)).map V.int:=by unfold Yf;rw[zxt];rfl
  refine⟨_,rfl,lc,cs.map fun c:Nat=>(c:Int),_,rfl,rfl,by rw[<- ec];exact SqL.of hcx,fun z=>?_,fun M hM hmin=>?_⟩
  ·have z':cs=[]:=List.map_eq_nil_iff.mp z;subst z';refine h 0 Hx #[M,rfl,fun q hq hqf=>?_] sx;obtain⟨j,hj,e⟩:=zxq hq;have:=h2 j q hj (by rw[zwp hj,e]) hqf;cases this
  ·obtain⟨c,hc,rfl⟩:=zwx.mp hM;obtain⟨q,hq,hqf,rfl⟩:=h1 c hc;refine h (dep q+1) Hx (.inr ⟨by omega,⟨q,hq,hqf,rfl⟩,fun q2 hq2 hqf2=>?_⟩) sx;obtain⟨j,hj,e⟩:=zxq hq2;have hm:=h2 j q2 hj (by rw[zwp hj,e]) hqf2;have:=hmin _ (zwx.mpr #[L,_,hm]);omega
def El(K:Frag):Sp:=fun vs H Q _=>∃ (l lg lt:Addr) (ls:List Addr) (rows:List (List Int)) (nu:List Int) (gs ts:List V) (p e:Nat) (st:List (Nat×Option Int)) (w:Option Int),vs=[.ref l,.ref lg,.int p,.ref lt]/\H l=#[I,ls.map,V.ref]/\ILs H ls rows/\Uv rows nu/\H lg=#[r,gs]/\Ye rows gs/\p<rows.length/\H lt=#[r,ts]/\Z7 H ts (st.map Wz)/\Y4 rows gs p st e w/\∀ H',#[j]->Q (.bl true) H'
abbrev V3:Stmt:=top 75
theorem Wn:#[p,["_law_may","_law_given","_law_place","_law_steps_here","_law_known","_law_free","_law_low"],#[aC],V3]:=fnS
theorem Ni(F:#[i,"_law_chain_is_due","_law_chain_is_due",V3])(T:#[k])(zq3:#[T,P,w,K,"_law_is_chain",2,#[aC],Cq])(zsb:#[T,P,w,K,"_law_steps",1,["_law_may","_law_given","_law_place"],zdr])(zri:#[T,P,w,K,"_law_to_free",1,["_law_may","_law_given","_law_known"],zam]):FnOk P w K mg base #[f] 3 f fd #[aC] (El K):=by
 refine #[n,Wn];obtain⟨l,lg,lt,ls,rows,nu,gs,ts,p,e,st,w',rfl,hl,il,MO,hg,FP,hp,hlt,tl,CR,h⟩:=h;have hu:=Xy hr;refine⟨_,(Zb (Zy (Yt (Yo (pF zq3 hr (Za (pv 0) (Za (pv 1) (Za (pv 2) (Za (pv 3) Zc)))))))
  (Zd (Zl Yr))
  Zp)
 (Zb (pS 4 Wn.nd (pF zsb hr (Za (pv 0) (Za (pv 1) (Za (pv 2) Zc)))))
 (Zb (pS 5 Wn.nd (pF zri hr (Za (pv 0) (Za (pv 1) (Za (pv 4) Zc)))))
 (Zb (Zy (Zo T2 (pv 5) Zf (Zq _))
  (Zd (Zl (Nq (Wa Vs (pI (iU K) (pI (iL K) (pv 3) (Pf Tg Zf)) Zf) Yn (Zq _)) (Np (Wa Xv (Zk (cL K) (by rfl) T.zoa PySem.boot_len (Za (pv 3) Zc)) (pv 5) (Zq _))))))
  Zp)
 (Zb (pS 6 Wn.nd (Zk (zfa (K:=K) rfl rfl) (by rfl) T.zto PyProof.Rows.boot_max (Za (Yx (Nz rfl) (by rfl) T.zo3 PyProof.Rows.boot_list (Za (pv 4) Zc)) Zc)))
 (Zd (Zl (Nq (Wa (Hg (K:=K) rfl hr.units) (pI (iL K) (pv 3) (Pf Tg Zf)) (Yc (Za (pv 6) (Za Yn Zc))) (Zq _)) (Np (Wa Xv (Zk (cL K) (by rfl) T.zoa PySem.boot_len (Za (pv 3) Zc)) (pD hu (pv 4) (pv 6)) (Zq _))))))))))),?_⟩
 have hr100:rows.length<=100:=zw4 MO.few ⋯;have hst100:st.length<=100:=zw4 (CR.len FP hp) hr100;refine⟨_,rfl,_,rfl,_,rfl,_,rfl,l,lg,lt,ls,rows,gs,ts,p,e,st,w',rfl,hl,il,hr100,hg,FP,hp,hlt,tl,hst100,CR.ch,fun n hn=>(CR.free n hn).1,_,rfl,?_⟩;refine iteF ?_;refine⟨_,rfl,_,rfl,_,rfl,l,lg,ls,rows,gs,p,rfl,hl,il,hr100,hg,FP,hp,fun ld line dep H8 hd B Dn hlt' s8 _=>?_⟩;refine⟨_,rfl,_,rfl,_,rfl,l,lg,ld,ls,rows,gs,line,dep,rfl,s8 _ _ hl,il.same s8,hr100,fun r hr=>zw4 (MO.len hr) ⋯,s8 _ _ hg,FP.one,hd,B.nodup,hlt',fun c H9 FC s9=>?_⟩;have s89:=s8.trans s9;have hlt9:=s89 _ _ hlt;have tl9:=tl.same s89;have hd9:=s9 _ _ hd;have htl:ts.length=st.length:=by rw[tl9.length,zwo]
 obtain⟨tt,g1,g2⟩:=zhd tl9 CR.ch.lastStep;walk_at "if";rcases FC.chain B Dn CR with ⟨rfl,rfl⟩|⟨hc0,hw,hlen⟩
 ·refine Yk (Y9 (b:=false) (fun Q k=>⟨_,rfl,_,_,rfl,rfl,_,rfl,k⟩) #[V]);obtain⟨_,c2,c3⟩:=CR.none rfl;have cw:=CR.ch.walk;have cp:=CR.ch.pos;obtain⟨eline,edep⟩:=B.full Dn cw;have elen:st.length=dep e+1:=by
   have:=c3 _ (B.walk e eline);omega
  have emax:∀ q∈line,q<=e:=fun q hq=>c2 q _ (B.walk q hq);have hkeys:((Xf line dep).map fun kv=>kV kv.1)=(line.map fun (q:Nat)=>((q:Nat):Int)).map V.int:=by
   unfold Xf;rw[zxt,zxt];rfl
  refine#[Y,_,ld,_,.inl hd9,fun ll hll=>?_];rw[hkeys];refine⟨ll,line.map fun (q:Nat)=>((q:Nat):Int),rfl,SqL.of Ze,by rw[zwo];exact List.length_pos_of_mem eline,fun M hM hmax=>?_⟩;have hMe:M=(e:Int):=by
   obtain⟨q,hq,rfl⟩:=zwx.mp hM;have h1:=emax q hq;have h2:=hmax (e:Int) (zwx.mpr #[L,e,eline]);omega
  subst hMe;refine #[z,ll,hll,fun H10 _ t9=>?_];have hd10:=t9 _ _ hd9;have s10:=s89.trans t9;have hlt10:=t9 _ _ hlt9;have g10:=t9 _ _ g2;refine⟨_,rfl,_,rfl,lt,_,_,_,rfl,rfl,SqL.of hlt10,g1,_,rfl,sz2,fun t10 ht10=>?_⟩;have t10':=Zj (o:=.tup [.int e,.non]) ht10;refine⟨.tup [.int e,.non],.tup [.int e,.non],.tup (SqT.of (t10' _ _ g10)) (.cons (.int _) (.cons .non .nil)),.tup (SqT.of Ze) (.cons (.int _) (.cons .non .nil)),?_,?_,?_⟩
  ·unfold shD SeqAt.shaped;simp[toPy,Xq,PyData.canLay0,PyData.canLayAll0,PyData.depth,PyData.depthAll]
  ·unfold shD SeqAt.shaped;simp[toPy,Xq,PyData.canLay0,PyData.canLayAll0,PyData.depth,PyData.depthAll]
  ·rw[M5];refine#[q,true,iteT ?_];have hk:valV (Xf line dep) (inl (e:Int):Key)=#[b,.int,((dep e+1:Nat):Int)]:=Ld eline;have hget:DGet (upd H10 t10 (HO.tup [V.int e,V.non])) ld (.int e) #[e,((dep e+1:Nat):Int)]:=by
    rw[<- hk];exact DGet.k (k:=inl (e:Int)) (t10' _ _ hd10)
   refine⟨_,rfl,lt,ts,rfl,#[t,t10' _ _ hlt10],_,rfl,_,rfl,ld,_,rfl,hget,rfl,?_⟩;rw[htl,elen,zwu rfl];exact h _ (s10.trans t10')
 ·refine Yk (Y9 (b:=true) (fun Q k=>⟨_,rfl,_,_,rfl,rfl,_,rfl,?_⟩) (iteT ?_))
  ·rw[zwu (show (0:Int)<((c:Nat):Int) by omega)];exact k
  cases w' with
  | none=>exact absurd rfl hw
  | some n =>
    refine⟨_,rfl,_,rfl,lt,_,_,_,rfl,rfl,SqL.of hlt9,g1,tt,_,_,_,rfl,rfl,SqT.of g2,rfl,rfl,true,rfl,iteT ?_⟩;refine⟨_,rfl,lt,ts,rfl,#[t,hlt9],_,rfl,rfl,?_⟩;rw[htl,hlen,zwu rfl];exact h _ s89
abbrev Uo:Stmt:=top 76
theorem Xg:#[p,["_law_found","_law_may","_law_left","_law_past","_law_due","_law_place","_law_number"],["_law_found","_law_may","_law_left"],Uo]:=fnS
theorem Mt(F:#[i,"_law_is_shortage","_law_is_shortage",Uo])(T:#[k])(zoo:Z2 P w K mg base "_law_whole" 1 ["_law_found"] M7)(zo6:Z2 P w K mg base "_law_list_is" 3 #[af] (Gm K)):FnOk P w K mg base #[f] 4 f fd ["_law_found","_law_may","_law_left"] (Cv K):=by
 refine #[n,Xg];obtain⟨t,l,lp,lr,ls,rows,nu,gs,ps,rs,rfl,ht,hl,il,mo,hp,hrs,SP,h⟩:=h;have hu:=Xy hr;refine⟨_,(Zb (Zy (PW.pt (X8 (Yt (Yo #[az,Zk,Xr (K:=K) rfl,T.zod,Za (pv 0) (Za (W3 rfl T.zrr PyProof.Rows.boot_tuple (show RelV (.ty "tuple") _ from rfl)) Zc)])) (X8 (Zo P5 #[ag,Zk,cL K,T.zoa,Za (pv 0) Zc] Zf (Zq _)) (Xu (Yt (Yo #[az,Zk,Xr (K:=K) rfl,T.zod,Za (pI (iU K) (pv 0) Zf) (Za (W3 rfl T.zo3 PyProof.Rows.boot_list (show RelV (.ty "list") _ from rfl)) Zc)]))))))
  (Zd (Zl Yr))
  Zp)
 (Zb (pS 3 Xg.nd (Pf Tg Zf))
 (Zb (pS 4 Xg.nd T4)
 (Zb (Yi PassesOwn.leaving rfl (Z8 (K:=K) rfl (pI (iU K) (pv 0) Zf)) (pN 5 Xg.nd)
  (Zb (Zy (PW.pt (X8 (Yt (Yo (pF zoo hr (Za (pv 5) Zc)))) (X8 (Zo zgb (pv 5) (pv 3) (Zq _)) (Xu (Zo zdb (pv 5) (Zk (cL K) (by rfl) T.zoa PySem.boot_len (Za (pv 1) Zc)) (Zq _))))))
   (Zd (Zl Yr))
   Zp)
  (Zb (pS 3 Xg.nd (pv 5))
  (Zd (Yi PassesOwn.leaving rfl (Z8 (K:=K) rfl (pI (iL K) (pv 1) (pv 5))) (pN 6 Xg.nd)
   (Zd (Ym hu (pv 4) (pv 6) Yr rfl)))))))
 (Zb (Zy (Yt (Yo (pF zo6 hr (Za (pI (iU K) (pv 0) Zf) (Za (Zk (Qp rfl) (by rfl) T.zsa PyProof.Rows.boot_sorted (Za (pv 4) Zc)) Zc)))))
  (Zd (Zl Yr))
  Zp)
 (Zd (Zl (Nq (Wa Xv (Zk (cL K) (by rfl) T.zoa PySem.boot_len (Za (pI (iU K) (pv 0) Zf) Zc)) (Zt Yy (Zk (cL K) (by rfl) T.zoa PySem.boot_len (Za (pI (iU K) (pv 0) Zf) Zc)) (pv 2)) (Zq _)) (Np (zlr (Wa T2 (pv 2) Zf (Zq _)) (Np (Wa (Hg (K:=K) rfl hr.units) (pI (iU K) (pv 0) Zf) (Z6 Zc) (Zq _))))))))))))),?_⟩
 show let y1:TS:=_;let y2:TS:=Zw _ y1;let y3:TS:=_;let y4:TS:=Zw _ y3;let y5:TS:=Zw (zei _ _ (Zw _ y2)) y4;let y6:TS:=Zw _ y5;let y7:TS:=Zw _ y6;Zw _ y7 _ _ _;intro y1 y2 y3 y4 y5 y6 y7;have line0:1000<sizeLine:=X4 ⋯;have hll:(ls.map V.ref).length=rows.length:=by rw[zwo];exact il.length
 have hnl:(Yf ps).length=ps.length:=by unfold Yf;rw[zwo]
 refine Yk (Y9 (b:=false) (Wc (b:=false) (c:=false) (fun Q k=>⟨_,rfl,_,_,_,_,rfl,.of (.tup ht),#[M,_,rfl],Bm K,_,rfl,k⟩) (Wc (b:=false) (c:=false) (fun Q k=>⟨_,rfl,t,_,rfl,.inr (SqT.of ht),rfl,_,rfl,k⟩) fun Q k=>⟨_,rfl,t,_,_,_,rfl,rfl,SqT.of ht,rfl,_,_,_,_,rfl,.of (.lst hp),#[M,_,rfl],N2 K,_,rfl,k⟩)) #[V]);refine#[q,_,fun ld hld=>?_];refine al (upd _ ld _) hld rfl fun H1 q1 s1=>?_;have fld:H ld=none:=hld;refine⟨_,rfl,t,_,_,_,rfl,rfl,SqT.of (s1 _ _ ht),rfl,lp,rfl,⟨_,SqL.of (s1 _ _ hp)⟩,?_⟩
 let jv9:Nat->L2.St->Hp->Prop:=fun i σ' H'=>∃ (pst:Int) (kr:List (Key×V)) (rl:List Int) (v5 v6:Option V),σ'=[#[c,t],#[c,l],#[e,((W8 gs).length:Nat)],#[e,pst],#[c,ld],v5,v6]/\#[j]/\H' ld=#[b,.dK,kr]/\kr.map (·.1)=rl.map (inl:Int->Key)/\rl.Nodup/\(∀ p∈ps.drop i,pst<(p:Nat))/\∀ n,n∈rl↔∃ p∈ps.take i,∃ r,rows[p]?=some r/\n∈r
 refine Xd (K:=K) (a:=lp) (xs:=Yf ps) jv9
  ⟨-1,[],[],_,_,rfl,s1,q1,rfl,zyo,fun p _=>by omega,by simp⟩ (by rintro i σ' H' _ ⟨_,_,_,_,_,_,z,_⟩;exact #[F,z,hp]) ?_ ?_
 ·rintro i x σ' Ha hx ⟨pst,kr,rl,v5,v6,rfl,sa,hda,kkr,ndr,past,memr⟩;have hi:i<ps.length:=by have:=(zwq.mp hx).1;rw[hnl] at this;exact this
  have hq0:ps[i]?=some (ps[i]'hi):=zwp hi;have etk:ps.take (i+1)=ps.take i++[ps[i]'hi]:=zw8 hi;have edr:ps.drop i=ps[i]'hi :: ps.drop (i+1):=List.drop_eq_getElem_cons hi;generalize (ps[i]'hi)=q at hq0 etk edr;have ex:x=.int (q:Nat):=by unfold Yf at hx;rw[zws,hq0] at hx;exact(Option.some.inj hx).symm
  subst ex;have hqm:=zww hq0;have hqr0:=SP.lt q hqm;have hpast:pst<(q:Nat):=past q (by rw[edr];simp);have hnext:∀ p∈ps.drop (i+1),((q:Nat):Int)<(p:Nat):=fun p hp'=>by
   have h1:(ps.drop i).Pairwise (· < ·):=SP.up.sublist (List.drop_sublist _ _);rw[edr,List.pairwise_cons] at h1;have:=h1.1 p hp';omega
  have hqr:rows[q]?=some (rows[q]'hqr0):=zwp hqr0;have hrm:rows[q]'hqr0∈rows:=zxd _;generalize (rows[q]'hqr0)=r at hqr hrm;obtain⟨lq,e2',e3⟩:=il.getR hqr;have hl':(ls.map V.ref)[q]?=#[c,lq]:=by rw[zws,e2'];rfl
  walk_at "if";refine Yk (Y9 (b:=false) (Wc (b:=false) (c:=false) (fun Q k=>⟨_,rfl,_,rfl,_,rfl,k⟩) (Wc (b:=false) (c:=false) (fun Q k=>⟨_,rfl,_,rfl,_,_,rfl,rfl,_,rfl,by rw[zwz (show ¬ (((q:Nat):Int)<=pst) by omega)];exact k⟩) fun Q k=>⟨_,rfl,_,rfl,l,_,rfl,#[t,sa _ _ hl],_,_,rfl,rfl,_,rfl,by rw[hll,zwz (show ¬ (((rows.length:Nat):Int)<=(q:Nat)) by omega)];exact k⟩)) #[V]);refine#[q,_,?_];refine⟨_,rfl,_,rfl,l,_,_,_,rfl,rfl,#[F,sa,hl],Zz hl',lq,rfl,⟨_,SqL.of (sa _ _ e3)⟩,?_⟩
  let jv10:Nat->L2.St->Hp->Prop:=fun j σ' H'=>∃ (kr:List (Key×V)) (rl:List Int) (v6:Option V),σ'=[#[c,t],#[c,l],#[e,((W8 gs).length:Nat)],#[e,(q:Nat)],#[c,ld],#[e,(q:Nat)],v6]/\#[j]/\H' ld=#[b,.dK,kr]/\kr.map (·.1)=rl.map (inl:Int->Key)/\rl.Nodup/\∀ n,n∈rl↔(∃ p∈ps.take i,∃ r,rows[p]?=some r/\n∈r)\/n∈r.take j
  refine Xd (K:=K) (a:=lq) (xs:=r.map V.int) jv10
   ⟨kr,rl,_,rfl,sa,hda,kkr,ndr,fun n=>by rw[memr];simp⟩ (by rintro j σ' H' _ ⟨_,_,_,_,z,_⟩;exact #[F,z,e3]) ?_ ?_
  ·rintro j y σ' Hd hy ⟨kr,rl,w6,rfl,sd,hrd,kkr,ndr,memr⟩;have hj:j<r.length:=by have:=(zwq.mp hy).1;rw[zwo] at this;exact this
   have hrj:r[j]?=some (r[j]'hj):=zwp hj;have etj:r.take (j+1)=r.take j++[r[j]'hj]:=zw8 hj;generalize (r[j]'hj)=n at hrj etj;have ey:y=.int n:=by rw[zws,hrj] at hy;exact(Option.some.inj hy).symm
   subst ey;have hsub:∀ m∈rl,m∈nu:=fun m hm=>by
    rcases(memr m).mp hm with ⟨p,_,r',h1,h2⟩|h1
    ·exact(mo.sub r' (zww h1)).2 m h2
    ·exact(mo.sub r hrm).2 m (zyp h1)
   have hkr:kr.length<=30:=by
    have:=congrArg List.length kkr;rw[zwo,zwo] at this;rw[this];exact zw4 (ndr.length_le_of_subset hsub) mo.crowd
   refine⟨_,rfl,_,rfl,ld,_,rfl,DPut.k (k:=inl n) hrd ⋯,putK kr (inl n) (.bl true),Gq rl n,_,rfl,Yb fld sd,Ze,Gs zmt kkr n _,N5 ndr,fun m=>?_⟩;rw[Gv,memr,etj,zw0,zwt,or_assoc]
  ·rintro σ' Hd ⟨kr,rl,w6,rfl,sd,hrd,kkr,ndr,memr⟩;rw[zwo,zw6] at memr;refine⟨_,kr,rl,_,_,rfl,sd,hrd,kkr,ndr,hnext,fun n=>?_⟩;rw[memr,etk];constructor
   ·rintro(⟨p,h1,h2⟩|h1)
    ·exact⟨p,zxa _ h1,h2⟩
    ·exact⟨q,by simp,r,hqr,h1⟩
   ·rintro⟨p,h1,r',h2,h3⟩;rcases zw0.mp h1 with z|z
    ·exact .inl ⟨p,z,r',h2,h3⟩
    ·rw[zwt.mp z,hqr] at h2;cases h2;exact .inr h3
 ·rintro σ' Ha ⟨pst,kr,rl,v5,v6,rfl,sa,hda,kkr,ndr,past,memr⟩;rw[hnl,zw6] at memr;have hsub:∀ m∈rl,m∈nu:=fun m hm=>by
   obtain⟨p,_,r',h1,h2⟩:=(memr m).mp hm;exact(mo.sub r' (zww h1)).2 m h2
  have hrl30:rl.length<=30:=zw4 (ndr.length_le_of_subset hsub) mo.crowd;have hrr:∀ n,n∈rl↔n∈rs:=fun n=>by rw[memr,SP.all]
  have hrs30:rs.length<=30:=by
   rw[<- Gw ndr (SP.rup.imp fun h z=>by omega) hrr];exact hrl30
  refine⟨_,rfl,t,_,_,_,rfl,rfl,SqT.of (sa _ _ ht),rfl,_,rfl,ld,kr,rl,rfl,.inl hda,kkr,by omega,fun l2 ns hl2 p3 p4=>?_⟩;have ens:=zaq p3 p4 ndr SP.rup hrr;subst ens;refine #[z,l2,hl2,fun H8 q8 s8=>?_];have s08:=sa.trans s8;refine⟨lr,l2,_,rfl,s08 _ _ hrs,SqL.of q8,zg4,by rw[zwo];omega,_,rfl,?_⟩;refine #[V];refine⟨_,rfl,t,_,_,_,rfl,rfl,SqT.of (s08 _ _ ht),rfl,lp,_,rfl,#[t,s08 _ _ hp],_,rfl,t,_,_,_,rfl,rfl,SqT.of (s08 _ _ ht),rfl,lr,_,rfl,#[t,s08 _ _ hrs],_,rfl,_,_,rfl,rfl,rfl,_,rfl,?_⟩;have hcnt:=SP.cnt;rw[hnl,zwo,Ry,zwu (show ((ps.length:Nat):Int)=((ns.length:Nat):Int)+(((W8 gs).length:Nat):Int) by omega)];refine iteT ?_;refine⟨_,rfl,_,_,rfl,rfl,_,rfl,?_⟩;refine itD (fun hz=>h H8 s08) fun hz=>?_;have hl0:W8 gs=[]:=zyh.mp ⋯;have hps:=SP.nil hl0;refine⟨_,rfl,t,_,_,_,rfl,rfl,SqT.of (s08 _ _ ht),rfl,by show 0<=sizeLine;decide,fun m0 hm0=>⟨.lst ((ps.map fun (k:Nat)=>((k:Nat):Int)).map Dt.int),.lst [],.lst (SqL.of (Zj hm0 _ _ (s08 _ _ hp))) (Bq ps),.lst (SqL.of Ze) .nil,Hi _,Tt,?_⟩⟩;rw[if_neg ⋯,Lc,hps];exact h _ (s08.trans (Zj hm0))
abbrev Rr:Stmt:=top 77
theorem Em:#[p,#[af],#[af],Rr]:=fnS
theorem En(F:#[i,"_law_deed_is","_law_deed_is",Rr])(T:#[k])(zoj:Z2 P w K mg base "_law_one_is" 2 #[af] M8):FnOk P w K mg base #[f] 3 f fd #[af] zbm:=by
 refine #[n,Em];obtain⟨t1,t2,d,rfl,h1,h2,h⟩:=h;refine⟨_,(Zb (Zy (PW.pt (X8 (Yt (Yo #[az,Zk,Xr (K:=K) rfl,T.zod,Za (pv 0) (Za (W3 rfl T.zrr PyProof.Rows.boot_tuple (show RelV (.ty "tuple") _ from rfl)) Zc)])) (X8 (Zo P5 #[ag,Zk,cL K,T.zoa,Za (pv 0) Zc] Zf (Zq _)) (Xu (Yt (Yo #[az,Zk,Xr (K:=K) rfl,T.zod,Za (pI (iU K) (pv 0) Zf) (Za (W3 rfl T.zt4 PyProof.Rows.boot_str (show RelV (.ty "str") _ from rfl)) Zc)]))))))
  (Zd (Zl Yr))
  Zp)
 (Zd (Zl (Nq (Wa Xv (pI (iU K) (pv 0) Zf) (pI (iU K) (pv 1) Zf) (Zq _)) (Nq (pF zoj hr (Za (pI (iU K) (pv 0) Zf) (Za (pI (iU K) (pv 1) Zf) Zc))) (Np (pF zoj hr (Za (pI (iU K) (pv 0) Zf) (Za (pI (iU K) (pv 1) Zf) Zc))))))))),?_⟩
 have h1:#[N,H,t1,[.str d.1,.int d.2.1,.int d.2.2]]:=h1;have h2:#[N,H,t2,[.str d.1,.int d.2.1,.int d.2.2]]:=h2;refine Yk ?_;refine⟨_,rfl,_,_,_,_,rfl,.of (.tup h1),#[M,_,rfl],Bm K,_,rfl,?_⟩;refine iteF ?_;refine⟨_,rfl,t1,_,rfl,.inr (SqT.of h1),rfl,_,rfl,?_⟩;refine(show if (!#[g,V.int ((3:Nat):Int)=V.int 3])=true then _ else _ from ?_);rw[zwu (show V.int ((3:Nat):Int)=V.int 3 from rfl)];refine iteF ?_;refine⟨_,rfl,t1,_,_,_,rfl,rfl,SqT.of h1,rfl,_,_,_,_,rfl,.of (.str _),#[M,_,rfl],zk1 K,_,rfl,?_⟩;refine #[V];dsimp only;refine⟨_,rfl,t1,_,_,_,rfl,rfl,SqT.of h1,rfl,_,rfl,t2,_,_,_,rfl,rfl,SqT.of h2,rfl,rfl,true,by rw[zwu rfl],iteT ?_⟩;refine⟨_,rfl,t1,_,_,_,rfl,rfl,SqT.of h1,rfl,_,rfl,t2,_,_,_,rfl,rfl,SqT.of h2,rfl,.int d.2.1,rfl,.inr ⟨_,rfl⟩,true,rfl,iteT ?_⟩;exact⟨_,rfl,t1,_,_,_,rfl,rfl,SqT.of h1,rfl,_,rfl,t2,_,_,_,rfl,rfl,SqT.of h2,rfl,.int d.2.2,rfl,.inr ⟨_,rfl⟩,h⟩
abbrev Tq:Stmt:=top 78
theorem Qf:#[p,["_law_found","_law_due","_law_k"],#[af],Tq]:=fnS
theorem K6(F:#[i,"_law_deeds_are","_law_deeds_are",Tq])(T:#[k])(zre:Z2 P w K mg base "_law_deed_is" 3 #[af] zbm):FnOk P w K mg base #[f] 4 f fd #[af] (Qw K):=by
 refine #[n,Qf];obtain⟨b,c,ts,us,ds,rfl,hb,hc,tl,ul,hl,h⟩:=h;refine⟨_,(Zb (Zy #[aE,Zk,Xr,pv,0,Za,W3,_,Zc,Xu (Zo P5 #[ag,Zk,cL K,T.zoa,Za (pv 0) Zc] #[ag,Zk,cL K,T.zoa,Za (pv 1) Zc] (Zq _))]
  (Zd (Zl Yr))
  Zp)
 (Zb (Yi PassesOwn.leaving rfl (Yw rfl T.zoq (Za (Zk (cL K) (by rfl) T.zoa PySem.boot_len (Za (pv 1) Zc)) Zc)) (pN 2 Qf.nd)
  (Zd (Zy (Yt (Yo (pF zre hr (Za (pI (iL K) (pv 0) (pv 2)) (Za (pI (iL K) (pv 1) (pv 2)) Zc)))))
   (Zd (Zl Yr))
   Zp)))
 (Zd (Zl Yr)))),?_⟩
 have e1:=tl.length;have e2:=ul.length;rw[zwo] at e1 e2;have el:ts.length=us.length:=by omega
 refine⟨_,rfl,_,_,_,_,rfl,.of (.lst hb),#[M,_,rfl],N2 K,_,rfl,?_⟩;refine iteF ?_;refine⟨_,rfl,b,_,rfl,#[t,hb],_,rfl,c,_,rfl,#[t,hc],rfl,_,rfl,?_⟩;rw[el,zwu rfl];refine #[V];dsimp only;refine⟨_,rfl,c,_,rfl,#[t,hc],_,rfl,by omega,by omega,#[aF,Xb,_]⟩
 ·subst e hv;rw[zw3] at hi;have hd:i<ds.length:=by omega
  obtain⟨t1,x1,x2⟩:=tl.getR (i:=i) (r:=Vj (ds[i]'hd)) (by rw[zws,zwp hd];rfl);obtain⟨t2,y1,y2⟩:=ul.getR (i:=i) (r:=Vj (ds[i]'hd)) (by rw[zws,zwp hd];rfl);rw[zxz];walk_at "if";refine⟨_,rfl,_,rfl,b,_,_,_,rfl,rfl,SqL.of hb,Zz x1,_,rfl,_,rfl,c,_,_,_,rfl,rfl,SqL.of hc,Zz y1,t1,t2,_,rfl,x2,y2,true,rfl,?_⟩;exact iteF (Zu ⟨rfl,#[w,_]⟩)
 ·subst e hv;exact h
abbrev Oz:Stmt:=top 79
theorem L4:#[p,["_law_rounds_here","_law_rest_here","_law_page"],["_law_rounds_here","_law_rest_here"],Oz]:=fnS
theorem Am(F:#[i,"_law_first","_law_first",Oz])(T:#[k]):FnOk P w K mg base #[f] 1 f fd ["_law_rounds_here","_law_rest_here"] zd6:=by
 refine #[n,L4];obtain⟨r,q,rfl,h⟩:=h;have hu:=Xy hr;refine⟨_,(Zb (pS 2 L4.nd (Bb (Ta Zr (pv 0) (Ta Zr (pv 1) (Ta Zr (Z6 Zc) (Ta Zr (Z6 Zc) (Ta Zr (Z6 Zc) (Ta Zr Yn Ba)))))) rfl rfl (by simp) ⋯))
 (Zb (Ym hu (pv 2) Zr Yn rfl)
 (Zb (Ym hu (pv 2) Zr (Z6 Zc) rfl)
 (Zb (Ym hu (pv 2) Zr (Z6 Zc) rfl)
 (Zd (Zl (pv 2))))))),?_⟩
 have sz0:([]:List V).length<=sizeLine:=zxj _;refine fun p fp=>?_;refine #[z,p,fp,fun H1 p1 s1=>?_];refine⟨_,rfl,_,rfl,sz0,fun l1 f1=>?_⟩;refine #[z,l1,f1,fun H2 a1 s2=>?_];have n1:l1≠p:=fun z=>by rw[z,p1] at f1;cases f1
 refine⟨sz0,fun l2 f2=>?_⟩;refine #[z,l2,f2,fun H3 a2 s3=>?_];have n2:l2≠p:=fun z=>by rw[z,s2 _ _ p1] at f2;cases f2
 refine⟨sz0,fun l3 f3=>?_⟩;refine #[z,l3,f3,fun H4 a3 s4=>?_];have n3:l3≠p:=fun z=>by rw[z,s3 _ _ (s2 _ _ p1)] at f3;cases f3
 refine⟨s4 _ _ (s3 _ _ (s2 _ _ p1)),pg6 r q l1 l2 l3 .non,rfl,(show 6<=15 by decide),?_⟩;rw[zfp];have s5:=Yb (o:=.dK (pg6 r q l1 l2 l3 .non)) fp (s1.trans (s2.trans (s3.trans s4)));have p5:(upd H4 p (.dK (pg6 r q l1 l2 l3 .non))) p=#[b,.dK,pg6 r q l1 l2 l3 .non]:=Ze;have b1:#[y,upd H4 p (.dK (pg6 r q l1 l2 l3 .non)),l1,[]]:=by rw[Zh n1];exact s4 _ _ (s3 _ _ a1)
 have b2:#[y,upd H4 p (.dK (pg6 r q l1 l2 l3 .non)),l2,[]]:=by rw[Zh n2];exact s4 _ _ a2
 have b3:#[y,upd H4 p (.dK (pg6 r q l1 l2 l3 .non)),l3,[]]:=by rw[Zh n3];exact a3
 generalize upd H4 p (.dK (pg6 r q l1 l2 l3 .non))=H5 at s5 p5 b1 b2 b3 ⊢;walk_at "if";refine#[Y,_,p,_,DPut.k (k:=inr "listed") p5 (Kq (x:=.non) (y:=.non)).1,?_];have s6:=Yb (o:=.dK (putK (pg6 r q l1 l2 l3 .non) (.inr "listed") .non)) fp s5;have p6:(upd H5 p (.dK (putK (pg6 r q l1 l2 l3 .non) (.inr "listed") .non))) p=#[b,.dK,putK (pg6 r q l1 l2 l3 .non) (.inr "listed") .non]:=Ze;have c1:=(Zh (H:=H5) (o:=.dK (putK (pg6 r q l1 l2 l3 .non) (.inr "listed") .non)) n1).trans b1;have c2:=(Zh (H:=H5) (o:=.dK (putK (pg6 r q l1 l2 l3 .non) (.inr "listed") .non)) n2).trans b2;have c3:=(Zh (H:=H5) (o:=.dK (putK (pg6 r q l1 l2 l3 .non) (.inr "listed") .non)) n3).trans b3;generalize upd H5 p (.dK (putK (pg6 r q l1 l2 l3 .non) (.inr "listed") .non))=H6 at s6 p6 c1 c2 c3 ⊢;refine⟨sz0,fun l4 f4=>?_⟩;refine #[z,l4,f4,fun H7 a4 s7=>?_];have n4:l4≠p:=fun z=>by rw[z,p6] at f4;cases f4
 refine#[Y,_,p,_,DPut.k (k:=inr "goes") (s7 _ _ p6) (Kq (y:=.non)).2.1,?_];have s8:=Yb (o:=.dK (putK (putK (pg6 r q l1 l2 l3 .non) (.inr "listed") .non) (.inr "goes") (.ref l4))) fp (s6.trans s7);have p8:(upd H7 p (.dK (putK (putK (pg6 r q l1 l2 l3 .non) (.inr "listed") .non) (.inr "goes") (.ref l4)))) p=#[b,.dK,putK (putK (pg6 r q l1 l2 l3 .non) (.inr "listed") .non) (.inr "goes") (.ref l4)]:=Ze;have d1:=(Zh (H:=H7) (o:=.dK (putK (putK (pg6 r q l1 l2 l3 .non) (.inr "listed") .non) (.inr "goes") (.ref l4))) n1).trans (s7 _ _ c1);have d2:=(Zh (H:=H7) (o:=.dK (putK (putK (pg6 r q l1 l2 l3 .non) (.inr "listed") .non) (.inr "goes") (.ref l4))) n2).trans (s7 _ _ c2);have d3:=(Zh (H:=H7) (o:=.dK (putK (putK (pg6 r q l1 l2 l3 .non) (.inr "listed") .non) (.inr "goes") (.ref l4))) n3).trans (s7 _ _ c3);have d4:=(Zh (H:=H7) (o:=.dK (putK (putK (pg6 r q l1 l2 l3 .non) (.inr "listed") .non) (.inr "goes") (.ref l4))) n4).trans a4;generalize upd H7 p (.dK (putK (putK (pg6 r q l1 l2 l3 .non) (.inr "listed") .non) (.inr "goes") (.ref l4)))=H8 at s8 p8 d1 d2 d3 d4 ⊢;refine⟨sz0,fun l5 f5=>?_⟩;refine #[z,l5,f5,fun H9 a5 s9=>?_];have n5:l5≠p:=fun z=>by rw[z,p8] at f5;cases f5
 refine#[Y,_,p,_,DPut.k (k:=inr "moves") (s9 _ _ p8) Kq.2.2,?_];rw[zjh];refine#[q,_,h p _ ?_ (Yb fp (s8.trans s9)) fp];have fr:∀ x,H4 x=none->H x=none:=fun x hx=>s1.free (s2.free (s3.free (s4.free hx)));exact⟨l1,l2,l3,.non,.non,l4,l5,[],[],[],[],Ze,(Zh n1).trans (s9 _ _ d1),.nil,(Zh n2).trans (s9 _ _ d2),.nil,(Zh n3).trans (s9 _ _ d3),.nil,rfl,rfl,(Zh n4).trans (s9 _ _ d4),(Zh n5).trans a5,.nil,
  fp,s1.free f1,s1.free (s2.free f2),s1.free (s2.free (s3.free f3)),s6.free f4,s8.free f5⟩
abbrev K7:Stmt:=top 80
theorem V4:#[p,["_law_page","_law_met_here","_law_listed","_law_goes","_law_moves","_law_may","_law_k"],["_law_page"],K7]:=fnS
theorem zc6(F:#[i,"_law_met","_law_met",K7])(T:#[k]):FnOk P w K mg base #[f] 1 f fd ["_law_page"] (zd7 K):=by
 refine #[n,V4];obtain⟨ok,d,P0,rfl,PA,PO,h⟩:=h;have hu:=Xy hr;refine⟨_,(Zb (pS 1 V4.nd Gd)
 (Zb (Yi PassesOwn.leaving rfl (Z8 (K:=K) rfl (Gf (Gi (K:=K) rfl) (pD hu (pv 0) Zr) (Be (Zk (D5 rfl) (by rfl) T.zto PyProof.Rows.boot_max (Za Zf (Za (Zt Py (Zk (cL K) (by rfl) T.zoa PySem.boot_len (Za (pD hu (pv 0) Zr) Zc)) (pD hu (pv 0) Zr)) Zc)))) Bd)) (Wb (K:=K) (n:=4) rfl rfl (Z0 (pN 2 V4.nd) (Z0 (pN 3 V4.nd) (Z0 (pN 4 V4.nd) (Z0 (pN 5 V4.nd) X9)))))
  (Zd (Yi PassesOwn.leaving rfl (Yw rfl T.zoq (Za (Zk (cL K) (by rfl) T.zoa PySem.boot_len (Za (pv 2) Zc)) Zc)) (pN 6 V4.nd)
   (Zd (Zy (Zo Vs (pI (iL K) (pv 3) (pv 6)) Yn (Zq _))
    (Zb (Ym hu (pv 1) (Yc (Za (pI (iL K) (pv 3) (pv 6)) (Za (pI (iU K) (pI (iL K) (pv 2) (pv 6)) Zf) Zc))) Yr rfl)
    (Zd (Ym hu (pv 1) (Yc (Za (pI (iL K) (pv 3) (pv 6)) (Za (pI (iU K) (pI (iL K) (pv 2) (pv 6)) Zf) Zc))) Yr rfl)))
    Zp)))))
 (Zd (Zl (pv 1))))),?_⟩
 obtain⟨lp,lo,lv,dv,li,lg,lm,pts,ots,vts,mts,a1,a2,a3,a4,a5,a6,a7,a8,a9,b1,b2,b3,o1,o2,o3,o4,o5,o6⟩:=PA;refine fun m fm=>?_;refine #[z,m,fm,fun H1 m1 s1=>?_];walk_at "if";refine#[Y,_,d,_,DGet.k (k:=.inr "over") (s1 _ _ a1),?_];refine⟨_,rfl,d,_,rfl,DGet.k (k:=.inr "over") (s1 _ _ a1),lv,vts,rfl,#[t,s1 _ _ a6],_,rfl,d,_,rfl,DGet.k (k:=.inr "rest") (s1 _ _ a1),_,_,rfl,rfl,_,_,rfl,_,rfl,lv,vts,rfl,#[F,s1,a6],fun c fc=>?_⟩;have e0:=zhw vts vts.length P0.rest;rw[a7.length] at e0;have ez:(vts.length:Int)=(P0.over.length:Int):=by rw[a7.length]
 rw[ez,e0];obtain⟨k0,hk0⟩:∃ k:Nat,k=((P0.over.length:Int)-P0.rest).toNat:=#[w,_];rw[<- hk0];refine #[z,c,fc,fun H2 c2 s2=>?_];have ncm:c≠m:=fun z=>by rw[z,m1] at fc;cases fc
 have OV:Xt ok H2 (vts.drop k0) (P0.over.drop k0):=(a7.drop k0).keep (fun x o _ z=>s2 _ _ (s1 _ _ z)) fun x o z=>s2 _ _ (s1 _ _ z);have m2:=s2 _ _ m1;have hin:∀ s∈P0.over.drop k0,s∈P0.over:=fun s hs=>List.mem_of_mem_drop hs;have hlen:(P0.over.drop k0).length<=100:=by rw[zyt];have:=PO.1;omega
 generalize vts.drop k0=ds at c2 OV ⊢;refine⟨c,rfl,⟨_,SqL.of c2⟩,Xd (K:=K) (a:=c) (xs:=ds) (fun i σ H'=>(∃ v1 v2 v3 v4 v5,σ=[#[c,d],#[c,m],v1,v2,v3,v4,v5])/\(∀ x o,H2 x=#[d]->x≠m->H' x=#[d]) /\
  ∃ kvs,H' m=#[b,.dT,kvs]/\Md kvs (P0.over.drop k0) i 0/\kvs.length<=40*i) ⟨⟨_,_,_,_,_,rfl⟩,fun _ _ e _=>e,[],m2,.zero _,by simp⟩ (fun i σ H' _ ⟨_,k,_⟩=>SqL.of (k _ _ c2 ncm)) ?_ ?_⟩
 ·rintro i x σ H' hx ⟨⟨v1,v2,v3,v4,v5,rfl⟩,k2,kvs,hm,mi,kl⟩;obtain⟨t,l,g,mm,y,ts,s,rfl,hs,ht,hl,tl,hg,_,_⟩:=OV.get hx;have htn:t≠m:=Y6 ht m2 (by intro z;cases z);have hln:l≠m:=Y6 hl m2 (by intro z;cases z);have hgn:g≠m:=Y6 hg m2 (by intro z;cases z);refine⟨t,_,rfl,SqT.of (k2 _ _ ht htn),rfl,_,_,rfl,_,_,rfl,_,_,rfl,_,_,rfl,rfl,?_⟩;have hsz:=PO.2.2 s (hin s (zww hs));have hi:i<ds.length:=(zwq.mp hx).1;have hdl:=OV.length;have tln:ts.length=s.ms.length:=by rw[tl.length,zwo]
  have rln:(Z9 s).length=s.ms.length:=by unfold Z9;rw[zy2,hsz.2.1,Nat.min_self]
  refine⟨_,rfl,l,ts,rfl,#[t,k2 _ _ hl hln],_,rfl,by omega,by omega,Xb (fun j σ H'=>(∃ v,σ=[#[c,d],#[c,m],#[c,l],#[c,g],#[c,mm],#[c,y],v])/\(∀ x o,H2 x=#[d]->x≠m->H' x=#[d]) /\
   ∃ kvs,H' m=#[b,.dT,kvs]/\Md kvs (P0.over.drop k0) i j/\kvs.length<=40*i+2*j) ⟨⟨_,rfl⟩,k2,kvs,hm,mi,by omega⟩ ?_ ?_⟩
  ·rintro j σ H3 hj ⟨⟨v,rfl⟩,k3,kvs3,hm3,mi3,kl3⟩;rw[zw3] at hj;rw[zxz];have hj2:j<s.gv.length:=by omega
   have hg3:s.gv[j]?=some (s.gv[j]'hj2):=zwp hj2;have hone:=hsz.2.2 _ (zxd hj2);generalize s.gv[j]'hj2=xv at hg3 hone;have ht3:ts[j]?=some (ts[j]'hj):=zwp hj;obtain⟨tj,mj,e1,hmj,htj⟩:=Jz tl ht3;rw[e1] at ht3;have htjn:tj≠m:=Y6 htj m2 (by intro z;cases z);have hr3:(Z9 s)[j]?=some (G0 mj xv):=by unfold Z9;rw[List.getElem?_zipWith,hmj,hg3]
   refine⟨_,rfl,_,rfl,g,_,_,_,rfl,rfl,SqL.of (k3 _ _ hg hgn),Zz hg3,rfl,_,rfl,?_⟩;rcases hone with rfl|⟨w,rfl⟩
   ·refine iteF ?_;exact⟨#[w,_],k3,kvs3,hm3,mi3.none hs hr3 rfl,by omega⟩
   ·refine iteT ?_;refine⟨_,rfl,_,rfl,_,rfl,g,_,_,_,rfl,rfl,SqL.of (k3 _ _ hg hgn),Zz hg3,?_⟩;have big:∀ n:Nat,n<=200000->n<sizeLine:=fun n hn=>Nat.lt_trans (zye hn ⋯) T9;refine⟨_,rfl,_,rfl,l,_,_,_,rfl,rfl,SqL.of (k3 _ _ hl hln),Zz ht3,tj,_,_,_,rfl,rfl,SqT.of (k3 _ _ htj htjn),rfl,sz2,fun t2 ht2=>⟨m,_,rfl,DPut.t (k:=[inl w,inl mj.1]) (by rw[Zh (Zg hm3 ht2)];exact hm3) Ze (big _ ⋯),?_⟩⟩;have k4:∀ x o,H2 x=#[d]->x≠m->upd (upd H3 t2 (.tup [.int w,.int mj.1])) m (.dT (putK kvs3 [inl w,inl mj.1] (.bl true))) x=#[d]:=fun x o e n=>by
     have:=k3 x o e n;rw[Zh n,Zh (Zg this ht2)];exact this
    have hm4:upd (upd H3 t2 (.tup [.int w,.int mj.1])) m (.dT (putK kvs3 [inl w,inl mj.1] (.bl true))) m=#[b,.dT,putK kvs3 [inl w,inl mj.1] (.bl true)]:=Ze;have l4:=Xm kvs3 ([inl w,inl mj.1]:List Key) (.bl true);generalize upd (upd H3 t2 (.tup [.int w,.int mj.1])) m (.dT (putK kvs3 [inl w,inl mj.1] (.bl true)))=H4 at k4 hm4 ⊢;refine⟨_,rfl,_,rfl,_,rfl,g,_,_,_,rfl,rfl,SqL.of (k4 _ _ hg hgn),Zz hg3,?_⟩;refine⟨_,rfl,_,rfl,l,_,_,_,rfl,rfl,SqL.of (k4 _ _ hl hln),Zz ht3,tj,_,_,_,rfl,rfl,SqT.of (k4 _ _ htj htjn),rfl,sz2,fun t4 ht4=>⟨m,_,rfl,DPut.t (k:=[inl w,inl mj.2.1]) (by rw[Zh (Zg hm4 ht4)];exact hm4) Ze (big _ ⋯),?_⟩⟩;have l5:=Xm (putK kvs3 ([inl w,inl mj.1]:List Key) (.bl true)) ([inl w,inl mj.2.1]:List Key) (.bl true);refine⟨#[w,_],fun x o e n=>?_,_,Ze,mi3.some hs hr3 rfl,by omega⟩;have:=k4 x o e n;rw[Zh n,Zh (Zg this ht4)];exact this
  ·rintro σ H3 ⟨⟨v,rfl⟩,k3,kvs3,hm3,mi3,kl3⟩;rw[zw3] at mi3 kl3;rw[tln,<- rln] at mi3;exact⟨⟨_,_,_,_,_,rfl⟩,k3,kvs3,hm3,mi3.next hs,by omega⟩
 ·rintro σ H' ⟨⟨v1,v2,v3,v4,v5,rfl⟩,k2,kvs,hm,mi,kl⟩;rw[OV.length] at mi;refine#[q,_,h m kvs H' hm (mi.all hk0) (fun x o e=>k2 _ _ (s2 _ _ (s1 _ _ e)) (Zg e fm)) fm]
abbrev Mu:Stmt:=top 81
theorem Ws:#[p,["_law_page","_law_met_here","_law_person","_law_match","_law_number","_law_grade","_law_club","_law_home","_law_guest","_law_asked","_law_told"],["_law_page","_law_met_here","_law_person","_law_match"],Mu]:=fnS
theorem zbq(F:#[i,"_law_bars","_law_bars",Mu])(T:#[k]):FnOk P w K mg base #[f] 1 f fd ["_law_page","_law_met_here","_law_person","_law_match"] (zbi K):=by
 refine #[n,Ws];obtain⟨ok,d,m,t1,t2,P0,kvs,x,y,rfl,PA,hm,mo,h1,h2,h⟩:=h;have hu:=Xy hr;refine⟨_,(Zb (Qg (pv 2) (Wb (K:=K) (n:=3) rfl rfl (Z0 (pN 4 Ws.nd) (Z0 (pN 5 Ws.nd) (Z0 (pN 6 Ws.nd) X9)))))
 (Zb (Qg (pv 3) (Wb (K:=K) (n:=3) rfl rfl (Z0 (pN 7 Ws.nd) (Z0 (pN 8 Ws.nd) (Z0 (pN 9 Ws.nd) X9)))))
 (Zb (pS 10 Ws.nd (Z6 Zc))
 (Zb (Zy (Zo (B3 (K:=K) rfl hr.units) (Yc (Za (Zt Yy (Zk (cL K) (by rfl) T.zoa PySem.boot_len (Za (pD hu (pv 0) Zr) Zc)) Zf) (Za (pv 4) Zc))) (pD hu (pv 0) Zr) (by with_unfolding_all rfl))
  (Zd (Yu (pv 10) Zr))
  Zp)
 (Zb (Zy (Zo T2 (pv 9) (pv 5) (Zq _))
  (Zd (Yu (pv 10) Zr))
  Zp)
 (Zb (Zy (PW.pt (X8 (Zo Xv (pv 6) (pv 7) (Zq _)) (Xu (Zo Xv (pv 6) (pv 8) (Zq _)))))
  (Zd (Yu (pv 10) Zr))
  Zp)
 (Zb (Zy (PW.pt (X8 (Tf (Nu hu (Yc (Za (pv 4) (Za (pv 7) Zc))) (pv 1))) (Xu (Tf (Nu hu (Yc (Za (pv 4) (Za (pv 8) Zc))) (pv 1))))))
  (Zd (Yu (pv 10) Zr))
  Zp)
 (Zd (Zl (pv 10)))))))))),?_⟩
 show let y1:TS:=_;let y2:TS:=Zw _ y1;let y3:TS:=Zw _ y2;let y4:TS:=Zw _ y3;let y5:TS:=Zw _ y4;let y6:TS:=Zw _ y5;let y7:TS:=Zw _ y6;Zw _ y7 _ _ _;intro y1 y2 y3 y4 y5 y6 y7;obtain⟨n,g,c⟩:=x;obtain⟨ho,gu,as⟩:=y;have h1:#[N,H,t1,[.int n,.int g,.int c]]:=h1;have h2:#[N,H,t2,[.int ho,.int gu,.int as]]:=h2;obtain⟨lp,lo,lv,dv,li,lg,lm,pts,ots,vts,mts,a1,a2,a3,a4,a5,a6,a7,a8,a9,c1,c2,c3,o1,o2,o3,o4,o5,o6⟩:=PA;refine⟨_,rfl,t1,_,rfl,SqT.of h1,rfl,_,_,rfl,_,_,rfl,_,_,rfl,rfl,?_⟩;refine⟨_,rfl,t2,_,rfl,SqT.of h2,rfl,_,_,rfl,_,_,rfl,_,_,rfl,rfl,?_⟩;refine#[aq,fun l hl=>?_];refine al (upd _ l _) hl rfl fun H1 TH1 s1=>?_;have q1:H1 l=some (.lst (([]:List Str).map V.str)):=TH1;walk_at "if";have b1:=Ki (decide (((P0.over.length:Int)+1,n)∈P0.out)) "away";have b2:=Ki (decide (g<as)) "grade";have b3:=Ki (#[g,c=ho]||#[g,c=gu]) "club";refine S4 (b:=decide (((P0.over.length:Int)+1,n)∈P0.out)) (H0:=H) (fun Q q=>?_) hl s1 q1 ⋯ rfl fun H2 s2 q2 _=>?_
 ·refine⟨_,rfl,d,_,rfl,DGet.k (k:=.inr "over") (s1 _ _ a1),lv,vts,rfl,#[t,s1 _ _ a6],_,_,rfl,rfl,_,rfl,sz2,fun t ht=>?_⟩;have s3:=Zj (o:=.tup [.int ((vts.length:Int)+1),.int n]) ht;refine⟨_,rfl,d,_,rfl,DGet.k (k:=.inr "out") (s3 _ _ (s1 _ _ a1)),t,lo,ots,_,_,P0.out,rfl,rfl,SqT.of Ze,#[F,s3,s1 _ _ a4],a5.mono fun _ _ z=>s3 _ _ (s1 _ _ z),_,rfl,?_⟩;rw[a7.length] at s3 ⊢;exact q _ s3
 rw[List.nil_append] at q2;have din:∀ (H3:Hp) (cc:Int) (Q3:Bool->Hp->Prop),Same H H3->(∀ H4,Same H3 H4->Q3 (Pk (P0.over.map Z9) n cc P0.rest) H4)->∀ t,H3 t=none->Q3 (valV kvs [inl n,inl cc]).isSome (upd H3 t (.tup [.int n,.int cc])):=fun H3 cc Q3 s3 q3 t ht=>by
  rw[mo n cc];exact q3 _ (Zj ht)
 refine S4 (b:=decide (g<as)) (H0:=H) (Qk fun Q q=>⟨_,rfl,_,rfl,_,_,rfl,rfl,_,rfl,q⟩) hl s2 q2 ⋯ rfl fun H3 s3 q3 _=>?_;refine S4 (b:=decide (c=ho)||decide (c=gu)) (H0:=H) (Qk (Wc (fun Q q=>⟨_,rfl,_,rfl,rfl,_,rfl,Ry▸q⟩) fun Q q=>⟨_,rfl,_,rfl,rfl,_,rfl,Ry▸q⟩)) hl s3 q3 (by rw[zwr];omega) rfl fun H4 s4 q4 _=>?_;refine S4 (b:=Pk (P0.over.map Z9) n ho P0.rest||Pk (P0.over.map Z9) n gu P0.rest) (H0:=H) (zah (fun Q q=>?_) fun H5 s5 Q q=>?_) hl s4 q4 (by rw[zwr,zwr];omega) rfl fun H5 s5 q5 _=>?_
 ·exact⟨_,rfl,_,rfl,sz2,fun t ht=>⟨_,rfl,m,_,rfl,DGet.t (k:=[inl n,inl ho]) (Zj ht _ _ (s4 _ _ hm)) Ze,_,rfl,din _ ho _ s4 q t ht⟩⟩
 ·exact⟨_,rfl,_,rfl,sz2,fun t ht=>⟨_,rfl,m,_,rfl,DGet.t (k:=[inl n,inl gu]) (Zj ht _ _ (s5 _ _ (s4 _ _ hm))) Ze,_,rfl,din _ gu _ (s4.trans s5) q t ht⟩⟩
 refine#[q,_,h l H5 ?_ s5 hl];unfold Na whyS;rw[q5,zxw,zxw]
abbrev Mv:Stmt:=top 82
theorem Te:#[p,["_law_page","_law_met_here","_law_may","_law_match","_law_fit"],["_law_page"],Mv]:=fnS
theorem zbr(F:#[i,"_law_open","_law_open",Mv])(T:#[k])(zs2:#[T,P,w,K,"_law_met",1,["_law_page"],zd7])(zsm:#[T,P,w,K,"_law_bars",1,["_law_page","_law_met_here","_law_person","_law_match"],zbi]):FnOk P w K mg base #[f] 2 f fd ["_law_page"] (Fg K):=by
 refine #[n,Te];obtain⟨ok,d,P0,ms,rfl,PA,PO,hms,hl1,hl2,h⟩:=h;have hu:=Xy hr;refine⟨_,(Zb (pS 1 Te.nd (pF zs2 hr (Za (pv 0) Zc)))
 (Zb (pS 2 Te.nd (Z6 Zc))
 (Zb (Yi PassesOwn.leaving rfl (Z8 (K:=K) rfl (pD hu (pv 0) Zr)) (pN 3 Te.nd)
  (Zb (Td (i:=4) Te.nd rfl rfl rfl (cT ["_law_page","_law_met_here","_law_match"] [0,1,3]) (Z8 (K:=K) rfl (pD hu (pv 0) Zr)) (fun _ _ _ _ _=>Qi (Zo (Hg (K:=K) rfl hr.units) (zdj zsm (hr.mono ⋯) zad rfl (Za (pv 1) (Za (pv 2) (Za (pv 0) (Za (pv 3) Zc))))) (Z6 Zc) (Zq _))) (fun _ _ _ _ _=>(pv 0)))
  (Zd (Yu (pv 2) (Vb rfl (cT [] []) (Z8 (K:=K) rfl (pv 4)) (fun _ _ _ _ _=>Vg) (fun _ _ _ _ _=>(pI (iU K) (pv 0) Zf)))))))
 (Zd (Zl (pv 2)))))),?_⟩
 refine⟨_,rfl,ok,d,P0,rfl,PA,PO,fun m kvs H1 hm mo s1 fm=>?_⟩;obtain⟨lp,lo,lv,dv,li,lg,lm,pts,ots,vts,mts,a1,a2,a3,a4,a5,a6,a7,a8,a9,c1,c2,c3,o1,o2,o3,o4,o5,o6⟩:=id PA;refine#[aq,fun r hr'=>?_];have s2:=s1.trans (Zj (o:=.lst []) hr');have q2:upd H1 r (.lst []) r=#[b,.lst,[]]:=Ze;have hm2:upd H1 r (.lst []) m=#[b,.dT,kvs]:=Zj hr' _ _ hm;have fr:=s1.free hr';walk_at "if";generalize upd H1 r (.lst [])=H2 at s2 q2 hm2 ⊢;rw[hms] at a9;obtain⟨ll,ts,rfl,hll,tl,_⟩:=a9;have htl:ts.length=ms.length:=by rw[tl.length,zwo]
 have hpl:pts.length=P0.ppl.length:=by rw[a3.length,zwo]
 have hmr:m≠r:=fun z=>by rw[z,q2] at hm2;cases hm2
 refine⟨_,rfl,d,_,rfl,DGet.k (k:=.inr "listed") (s2 _ _ a1),ll,rfl,⟨_,SqL.of (s2 _ _ hll)⟩,Xd (K:=K) (a:=ll) (xs:=ts) (fun i σ H'=>(∃ v1 v2,σ=[#[c,d],#[c,m],#[c,r],v1,v2])/\(∀ x o,H2 x=#[d]->x≠r->H' x=#[d]) /\
  ∃ ls,H' r=#[I,ls.map,V.ref]/\ILs H' ls ((Sy P0 ms).take i)/\ls.length=i/\∀ x∈ls,H x=none/\x≠r) ⟨#[L,_,_],fun _ _ e _=>e,[],q2,.nil,rfl,by simp⟩ (fun i σ H' _ ⟨_,k,_⟩=>SqL.of (k _ _ (s2 _ _ hll) (Zg hll fr))) ?_ ?_⟩
 ·rintro i x σ H' hx ⟨⟨v1,v2,rfl⟩,k2,ls,hr3,il,hln,hfr⟩;obtain⟨t,mm,rfl,hmm,ht⟩:=Jz tl hx;have sh:#[j]:=fun x o e=>k2 _ _ (s2 _ _ e) (Zg e fr);refine⟨_,rfl,d,_,rfl,DGet.k (k:=.inr "people") (sh _ _ a1),lp,rfl,⟨_,SqL.of (sh _ _ a2)⟩,?_⟩;refine X5 (K:=K) (a:=lp) (xs:=pts) (fun i ys H''=>Same H' H''/\Z7 H'' ys (((P0.ppl.take i).filter fun x=>(Na P0 x mm).isEmpty).map pV)) ⟨Same.refl _,.nil⟩ (fun i ys H'' _ ⟨z,_⟩=>#[F,z,sh _ _ a2]) (szN ⋯) (fun i ys H' ⟨_,e⟩=>by rw[e.length,zwo];exact zw4 (zxn _ _) (zx1 _ _)) ?_ ?_
  ·rintro j x ys H3 hx3 ⟨s3,tl3⟩;obtain⟨tp,pp,rfl,hpp,htp⟩:=Jz a3 hx3;have sh3:=sh.trans s3;refine⟨_,rfl,_,rfl,_,rfl,_,rfl,ok,d,m,tp,t,P0,kvs,pp,mm,rfl,PA.same sh3,s3 _ _ (k2 _ _ hm2 hmr),mo,sh3 _ _ htp,sh3 _ _ ht,fun lw H4 hlw s4 fw=>?_⟩;refine#[aq,fun le hle=>?_];have s5:=s4.trans (Zj (o:=.lst []) hle);refine⟨_,_,.lst (SqL.of (Zj hle _ _ hlw)) (Fh _),.lst (SqL.of Ze) .nil,zjj _ zjk,Tt,_,rfl,?_⟩;generalize upd H4 le (.lst [])=H5 at s5 ⊢;rw[#[h,(show ¬ false=true by decide)],Lc];have e:P0.ppl.take (j+1)=P0.ppl.take j++[pp]:=Xx hpp;rw[e,zyf,zwv];refine itB (fun hb=>?_) fun hb=>?_
   ·refine⟨_,rfl,s3.trans s5,?_⟩;rw[zx9 (p:=fun x=>(Na P0 x mm).isEmpty) (a:=pp) hb,zyw];exact(tl3.same s5).snoc (s5 _ _ (sh3 _ _ htp))
   ·refine⟨s3.trans s5,?_⟩;rw[zya (p:=fun x=>(Na P0 x mm).isEmpty) (a:=pp) (by rw[hb];decide),zyw,List.map_nil,zx4];exact tl3.same s5
  ·rintro ys H3 ⟨s3,tl3⟩ lf hlf;rw[hpl,zw6] at tl3;have s4:=s3.trans (Zj (o:=.lst ys) hlf);have q4:upd H3 lf (.lst ys) lf=#[b,.lst,ys]:=Ze;have tl4:=tl3.same (Zj (o:=.lst ys) hlf);show Vp 4 (V.ref lf) _ (upd H3 lf (.lst ys)) _;generalize upd H3 lf (.lst ys)=H4 at s4 q4 tl4 ⊢;have hfl:ys.length<=100:=by rw[tl3.length,zwo];exact zw4 (zxn _ _) hl2
   walk_at "if";refine⟨_,rfl,r,_,rfl,s4 _ _ hr3,_,rfl,lf,rfl,⟨_,SqL.of q4⟩,X5 (K:=K) (a:=lf) (xs:=ys) (fun i zs H''=>Same H4 H''/\zs=((P0.ppl.filter fun x=>(Na P0 x mm).isEmpty).take i).map fun x=>V.int x.1) #[w,Same.refl _] (fun i zs H'' _ ⟨z,_⟩=>#[F,z,q4]) (szN ⋯) (fun i zs H'' ⟨_,e⟩=>by rw[e,zwo];exact zx1 _ _) ?_ ?_⟩
   ·rintro j x zs H5 hx5 ⟨s5,rfl⟩;obtain⟨tp,pp,rfl,hpp,htp⟩:=Jz tl4 hx5;unfold tYes;dsimp only;rw[#[P]];refine⟨_,rfl,tp,_,_,_,rfl,rfl,SqT.of (s5 _ _ htp),show atI (pV pp) 0=some _ from rfl,s5,?_⟩;rw[Xx hpp,zwv];rfl
   ·rintro zs H5 ⟨s5,rfl⟩ ln hln';have hyl:ys.length=(P0.ppl.filter fun x=>(Na P0 x mm).isEmpty).length:=by rw[tl3.length,zwo]
    rw[hyl,zw6];have er:(P0.ppl.filter fun x=>(Na P0 x mm).isEmpty).map (fun x=>V.int x.1)=((P0.ppl.filter fun x=>(Na P0 x mm).isEmpty).map (·.1)).map V.int:=by rw[zxt];rfl
    rw[er];have s6:=(s4.trans s5).trans (Zj (o:=.lst (((P0.ppl.filter fun x=>(Na P0 x mm).isEmpty).map (·.1)).map V.int)) hln');have q6:upd H5 ln (.lst (((P0.ppl.filter fun x=>(Na P0 x mm).isEmpty).map (·.1)).map V.int)) ln=some (.lst (((P0.ppl.filter fun x=>(Na P0 x mm).isEmpty).map (·.1)).map V.int)):=Ze;have fl:H' ln=none:=(s4.trans s5).free hln';dsimp only;generalize upd H5 ln (.lst (((P0.ppl.filter fun x=>(Na P0 x mm).isEmpty).map (·.1)).map V.int))=H6 at s6 q6 ⊢;refine⟨_,s6 _ _ hr3,szN (by rw[zwo];have:=(zwq.mp hx).1;omega),#[L,_,_],fun x o e n=>by rw[Zh n];exact s6 _ _ (k2 _ _ e n),ls++[ln],by rw[zwv];exact Ze,?_,by rw[zwr,hln];rfl,fun y hy=>?_⟩
    ·have e:(Sy P0 ms).take (i+1)=(Sy P0 ms).take i++[(P0.ppl.filter fun x=>(Na P0 x mm).isEmpty).map (·.1)]:=by
      unfold Sy;rw[zx3,zws,hmm];rfl
     rw[e];refine ILs.snoc (by rw[Zh (Zg hr3 fl).symm];exact q6) (il.keep fun x hx' o q=>?_);rw[Zh (hfr x hx').2];exact s6 _ _ q
    ·rcases zw0.mp hy with z|z
     ·exact hfr y z
     ·rw[zwt.mp z];exact⟨sh.free fl,(Zg hr3 fl).symm⟩
 ·rintro σ H' ⟨⟨v1,v2,rfl⟩,k2,ls,hr3,il,hln,hfr⟩;have sh:#[j]:=fun x o e=>k2 _ _ (s2 _ _ e) (Zg e fr);have hml:(Sy P0 ms).length=ms.length:=by unfold Sy;rw[zwo]
  rw[htl,<- hml,zw6] at il;exact#[q,_,h r ls H' hr3 il sh fr fun x hx=>(hfr x hx).1]
abbrev O0:Stmt:=top 83
theorem Tz:#[p,["_law_pages","_law_deed_here","_law_page","_law_at_here","_law_kept"],["_law_pages","_law_deed_here"],O0]:=fnS
theorem An(F:#[i,"_law_paged","_law_paged",O0])(T:#[k])(zo0:#[T,P,w,K,"_law_open",2,["_law_page"],Fg]):FnOk P w K mg base #[f] 3 f fd ["_law_pages","_law_deed_here"] (B5 K):=by
 refine #[n,Tz];obtain⟨ok,l,t,ds,d,P0,D,rfl,hl,PA,hD,PO,hpl,hol,hdl,hcl,h⟩:=h;have hu:=Xy hr;refine⟨_,(Zb (pS 2 Tz.nd (Yx zcp (by rfl) T.zt1 PyProof.Rows.boot_dict (Za (pI (iL K) (pv 0) (Pf Tg Zf)) Zc)))
 (Zb (pS 3 Tz.nd (Zt Yy (Zk (cL K) (by rfl) T.zoa PySem.boot_len (Za (pD hu (pv 2) Zr) Zc)) Zf))
 (Zb (Zy (Zo Xv (pI (iU K) (pv 1) Zf) Zr (Zq _))
  (Zd (Zl (Gf (Gi (K:=K) rfl) (pv 0) Bd (Be (Pf Tg Zf)))))
  Zp)
 (Zb (Zy (Zo Xv (pI (iU K) (pv 1) Zf) Zr (Zq _))
  (Zb (pS 4 Tz.nd (Yc (Za (pD hu (pv 2) Zr) (Za (pD hu (pv 2) Zr) (Za (pD hu (pv 2) Zr) (Za (pF zo0 hr (Za (pv 2) Zc)) Zc))))))
  (Zb (Ym hu (pv 2) Zr (Zt Gh (pD hu (pv 2) Zr) (Z6 (Za (pv 4) Zc))) rfl)
  (Zb (Ym hu (pv 2) Zr Yn rfl)
  (Zb (Ym hu (pv 2) Zr (Z6 Zc) rfl)
  (Zb (Ym hu (pv 2) Zr (Z6 Zc) rfl)
  (Zd (Zl (Z6 (Za (pv 2) Zc)))))))))
  Zp)
 (Zb (Zy (Zo Xv (pI (iU K) (pv 1) Zf) Zr (Zq _))
  (Zb (Ym hu (pv 2) Zr (Zt Gh (pD hu (pv 2) Zr) (Z6 (Za (Yc (Za (pI (iU K) (pv 1) Zf) (Za (pI (iU K) (pv 1) Zf) (Za (pI (iU K) (pv 1) Zf) Zc)))) Zc))) rfl)
  (Zd (Ym hu (pv 2) Zr (Yc (Za Zr (Za (pI (iU K) (pv 1) Zf) (Za (pv 3) Zc)))) rfl)))
  (Zd (Zy (Zo Xv (pI (iU K) (pv 1) Zf) Zr (Zq _))
   (Zb (Ym hu (pv 2) Zr (pI (iU K) (pv 1) Zf) rfl)
   (Zd (Ym hu (pv 2) Zr (Yc (Za Zr (Za (Zk (cL K) (by rfl) T.zoa PySem.boot_len (Za (pI (iU K) (pv 1) Zf) Zc)) (Za (pv 3) Zc)))) rfl)))
   (Zb (Ym hu (pv 2) Zr (Zt Gh (pD hu (pv 2) Zr) (Z6 (Za (Yc (Za (pI (iU K) (pv 1) Zf) (Za (pI (iU K) (pv 1) Zf) Zc))) Zc))) rfl)
   (Zd (Ym hu (pv 2) Zr (Yc (Za Zr (Za (pI (iU K) (pv 1) Zf) (Za (pI (iU K) (pv 1) Zf) Zc)))) rfl))))))
 (Zd (Zl (Zt Gh (pv 0) (Z6 (Za (pv 2) Zc)))))))))),?_⟩
 show let y1:TS:=_;let y2:TS:=Zw _ y1;let y3:TS:=Zw _ y2;let y4:TS:=Zw _ y3;let y5:TS:=Zw _ y4;let y6:TS:=_;let y7:TS:=Zw _ y6;let y8:TS:=Zw (L8 _ (Zw _ y5) _) y7;let y9:TS:=Zw _ y8;let y10:TS:=Zw _ y9;Zw _ y10 _ _ _;intro y1 y2 y3 y4 y5 y6 y7 y8 y9 y10;obtain⟨lp,lo,lv,dv,li,lg,lm,a1,PB,okd⟩:=id PA.split;have hat:atI ((ds++[d]).map V.ref) (-1)=#[b,V.ref,d]:=by rw[zwv];exact L2.atI_last _ _
 refine⟨_,rfl,_,rfl,l,_,_,_,rfl,rfl,SqL.of hl,hat,d,_,rfl,.inl a1,fun d' fd'=>al (upd _ d' _) fd' rfl fun H1 q1 s1=>?_⟩;obtain⟨ok1,hok1⟩:∃ ok1:Addr->Prop,ok1=fun x=>ok x\/H x=none:=#[w,_];have okf:∀ x,H x=none->ok1 x:=fun x hx=>by rw[hok1];exact .inr hx
 have oko:∀ x,ok x->ok1 x:=fun x hx=>by rw[hok1];exact .inl hx
 rw[<- hok1] at h;have PB1:=(PB.imp (fun x _ o=>oko x o)).keepL (.of s1);walk_at "if";have PA1:PgAt ok1 H1 d' P0:=.join q1 PB1 (okf _ fd');obtain⟨vts,v1,v2,v3⟩:=PB1.vv;refine⟨_,rfl,d',_,rfl,DGet.k (k:=.inr "over") q1,lv,vts,rfl,#[t,v1],_,_,rfl,rfl,?_⟩;rw[v2.length];have sz0:([]:List V).length<=sizeLine:=zxj _;have sz3:∀ {x y z:V},[x,y,z].length<=sizeLine:=fun {x y z}=>by show 3<=sizeLine;rw[sizeLine_eq];decide
 have sz1:∀ x:V,[x].length<=sizeLine:=fun x=>by show 1<=sizeLine;rw[sizeLine_eq];decide
 walk_at "if";have fin:B4 ds d d' D=ds++[d]++[d']->∀ v Hx,PgAt ok1 Hx d' (Tj P0 D)->Same H Hx->y6 { nx:=fun x H'=>Q V.non H',rt:=Q } [#[c,l],#[c,t],#[c,d'],#[e,(P0.over.length:Int)+1],v] Hx:=fun ek v Hx PAx sx=>by
  refine⟨_,rfl,_,rfl,sz1 _,fun l2 f2=>#[z,l2,f2,fun H8 t8 s8=>⟨l,l2,_,_,rfl,rfl,(sx.trans s8) _ _ hl,t8,szN (by rw[zwo,zwr];show ds.length+1+1<=1000;omega),fun lr flr=>#[z,lr,flr,fun H9 t9 s9=>?_]⟩]⟩;have s89:=s8.trans s9;exact h lr d' H9 (by rw[ek,t9,zwv (l₁:=ds++[d])];rfl) (fun _=>PAx.same s89) (sx.trans s89) (sx.free (s8.free flr)) fd'
 cases D with
 | back =>
   have ht:#[N,H,t,[.str "take back"]]:=hD;refine Yk (zd9 rfl (s1 _ _ ht) ⟨_,rfl,_,rfl,_,rfl,l,_,rfl,#[F,s1,hl],fun c fc=>?_⟩);rw[zwv,show Jx (ds.map V.ref++[d].map V.ref) none (some (-1))=ds.map V.ref from zhx _ _];exact h c d' _ Ze (fun z=>absurd rfl z) (s1.trans (Zj fc)) (s1.free fc) fd'
 | close =>
   have ht:#[N,H,t,[.str "close"]]:=hD;obtain⟨ms,hms,hml⟩:=hcl rfl;refine Mg rfl (s1 _ _ ht) ⋯ (Yk (zd9 rfl (s1 _ _ ht) ⟨_,rfl,d',_,rfl,DGet.k (k:=.inr "listed") q1,_,rfl,d',_,rfl,DGet.k (k:=.inr "goes") q1,_,rfl,d',_,rfl,DGet.k (k:=.inr "moves") q1,_,rfl,ok1,d',P0,ms,rfl,PA1,PO,hms,hml,hpl,fun ly ls H2 hly ily s2 fly fls=>⟨by show 4<=sizeLine;rw[sizeLine_eq];decide,fun tk ftk=>#[z,tk,ftk,fun H3 t3 s3=>?_]⟩⟩));obtain⟨ll,ts,rfl,b1,b2,b3⟩:∃ l ts,li=.ref l/\H1 l=#[r,ts]/\Z7 H1 ts (ms.map pV)/\ok1 l:=by have:=PB1.li;rw[hms] at this;exact this
   obtain⟨mts,c1,c2,c3⟩:=PB1.mm;obtain⟨g1,g2⟩:=PB1.gg;have s13:=s2.trans s3;walk_at "if";refine⟨_,rfl,d',_,rfl,DGet.k (k:=.inr "over") (s13 _ _ q1),_,rfl,sz1 _,fun l1 f1=>#[z,l1,f1,fun H4 t4 s4=>⟨lv,l1,vts,_,rfl,rfl,(s13.trans s4) _ _ v1,t4,szN (by rw[v2.length];have:=PO.1;show P0.over.length+1<=1000;omega),fun lv' fv'=>#[z,lv',fv',fun H5 t5 s5=>?_]⟩]⟩;have s35:=s4.trans s5;have s15:=s13.trans s35;refine pgw { P0 with over:=P0.over++[⟨ms,Sy P0 ms,P0.gv,P0.mv⟩] } rfl (PA1.same s15) fd' (s1.trans s15) (fun {_ _ _ _ _ _ _ H'} kk b=>?_) fun H6 PA6 s6=>?_
   ·have k1:=(Vk.of s15).trans kk;have k3:=(Vk.of s35).trans kk;exact⟨_,_,lv',_,_,_,_,zht,b.pp,b.oo,⟨_,kk.1 _ _ t5,Xt.snoc (s:=⟨ms,Sy P0 ms,P0.gv,P0.mv⟩) (k3.2 _ _ t3) (k1.1 _ _ b1) (b2.mono k1.2) (k1.1 _ _ g1) (k1.1 _ _ c1) (c2.keepL k1) (k3.1 _ _ (s3 _ _ hly)) (ILs.keepL k3 (ily.same s3)) ⟨b3,g2,c3,okf _ (s1.free fly),fun x hx=>okf _ (s1.free (fls x hx))⟩ (v2.keepL k1),okf _ (s1.free (s13.free (s4.free fv')))⟩,b.dd,b.li,b.gg,b.mm⟩
   refine pgw { P0 with over:=P0.over++[⟨ms,Sy P0 ms,P0.gv,P0.mv⟩],lis:=none } rfl PA6 fd' s6 (fun kk b=>⟨_,_,_,_,.non,_,_,Fd,b.pp,b.oo,b.vv,b.dd,rfl,b.gg,b.mm⟩) fun H7 PA7 s7=>⟨sz0,fun lg' fg'=>#[z,lg',fg',fun H8 t8 s8=>?_]⟩
   refine pgw { P0 with over:=P0.over++[⟨ms,Sy P0 ms,P0.gv,P0.mv⟩],lis:=none,gv:=[] } rfl (PA7.same s8) fd' (s7.trans s8) (fun kk b=>⟨_,_,_,_,_,lg',_,zbg,b.pp,b.oo,b.vv,b.dd,b.li,⟨kk.1 _ _ t8,okf _ (s7.free fg')⟩,b.mm⟩) fun H9 PA9 s9=>⟨sz0,fun lm' fm'=>#[z,lm',fm',fun H10 t10 s10=>?_]⟩
   refine pgw (Tj P0 .close) rfl (PA9.same s10) fd' (s9.trans s10) (fun kk b=>⟨_,_,_,_,_,_,lm',zfo,b.pp,b.oo,(by unfold Tj;rw[hms];exact b.vv),b.dd,b.li,b.gg,[],kk.1 _ _ t10,.nil,okf _ (s9.free fm')⟩) fun H11 PA11 s11=>⟨_,rfl,sz1 _,fun lr flr=>?_⟩
   exact h lr d' _ Ze (fun _=>PA11.same (Zj flr)) (s11.trans (Zj flr)) (s11.free flr) fd'
 | enrol n g c =>
   have ht:#[N,H,t,[.str "enrol",.int n,.int g,.int c]]:=hD;obtain⟨pts,p1,p2,p3⟩:=PB1.pp;refine Mg rfl (s1 _ _ ht) ⋯ (Mg rfl (s1 _ _ ht) ⋯ (Yk (zd9 rfl (s1 _ _ ht) ⟨_,rfl,d',_,rfl,DGet.k (k:=.inr "people") q1,_,rfl,t,_,_,_,rfl,rfl,SqT.of (s1 _ _ ht),rfl,_,rfl,t,_,_,_,rfl,rfl,SqT.of (s1 _ _ ht),rfl,_,rfl,t,_,_,_,rfl,rfl,SqT.of (s1 _ _ ht),rfl,sz3,fun tp ftp=>#[z,tp,ftp,fun H2 t2 s2=>⟨sz1 _,fun l1 f1=>#[z,l1,f1,fun H3 t3 s3=>⟨lp,l1,pts,_,rfl,rfl,(s2.trans s3) _ _ p1,t3,szN (by rw[p2.length,zwo];show _+1<=1000;omega),fun lp' fp'=>#[z,lp',fp',fun H4 t4 s4=>?_]⟩]⟩]⟩)));have s13:=s2.trans s3;have s14:=s13.trans s4;refine pgw { P0 with ppl:=P0.ppl++[(n,g,c)] } rfl (PA1.same s14) fd' (s1.trans s14) (fun kk b=>⟨lp',_,_,_,_,_,_,zcr,⟨_,kk.1 _ _ t4,?_,okf _ (s1.free (s13.free fp'))⟩,b.oo,b.vv,b.dd,b.li,b.gg,b.mm⟩) fun H5 PA5 s5=>⟨_,rfl,t,_,_,_,rfl,rfl,SqT.of (s5 _ _ ht),rfl,_,rfl,sz3,fun td ftd=>#[z,td,ftd,fun H6 t6 s6=>?_]⟩
   ·rw[zwv];exact((p2.same s14).mono kk.2).snoc (kk.2 _ _ (s4 _ _ (s3 _ _ t2)))
   exact pgw (Tj P0 (.enrol n g c)) rfl (PA5.same s6) fd' (s5.trans s6) (fun kk b=>⟨_,_,_,.ref td,_,_,_,Fc,b.pp,b.oo,b.vv,#[q,td,kk.2 _ _ t6],b.li,b.gg,b.mm⟩) fun H7 PA7 s7=>fin rfl _ H7 PA7 s7
 | draw ms =>
   obtain⟨ll,ts,ht,hll,tl,okl⟩:∃ l ts,H t=#[J,[.str "draw up",.ref l]]/\H l=#[r,ts]/\Z7 H ts (ms.map pV)/\ok l:=hD;have ez:(ts.length:Int)=(ms.length:Int):=by rw[tl.length,zwo]
   refine Mg rfl (s1 _ _ ht) ⋯ (Mg rfl (s1 _ _ ht) ⋯ (Yk (zlk rfl (s1 _ _ ht) ⋯ (zd9 rfl (s1 _ _ ht) ⟨_,rfl,t,_,_,_,rfl,rfl,SqT.of (s1 _ _ ht),rfl,?_⟩))));refine pgw { P0 with lis:=some ms } rfl PA1 fd' s1 (fun kk b=>⟨_,_,_,_,.ref ll,_,_,Fd,b.pp,b.oo,b.vv,b.dd,⟨ll,ts,rfl,kk.1 _ _ (s1 _ _ hll),(tl.same s1).mono kk.2,oko _ okl⟩,b.gg,b.mm⟩) fun H5 PA5 s5=>⟨_,rfl,t,_,_,_,rfl,rfl,SqT.of (s5 _ _ ht),rfl,ll,ts,rfl,#[t,s5 _ _ hll],_,rfl,sz3,fun td ftd=>#[z,td,ftd,fun H6 t6 s6=>?_]⟩
   rw[ez] at t6;exact pgw (Tj P0 (.draw ms)) rfl (PA5.same s6) fd' (s5.trans s6) (fun kk b=>⟨_,_,_,.ref td,_,_,_,Fc,b.pp,b.oo,b.vv,#[q,td,kk.2 _ _ t6],b.li,b.gg,b.mm⟩) fun H7 PA7 s7=>fin rfl _ H7 PA7 s7
 | away i n =>
   have ht:#[N,H,t,[.str "away",.int i,.int n]]:=hD;obtain⟨pts,p1,p2,p3⟩:=PB1.oo;refine Mg rfl (s1 _ _ ht) ⋯ (Mg rfl (s1 _ _ ht) ⋯ (Yk (zlk rfl (s1 _ _ ht) ⋯ (zlk rfl (s1 _ _ ht) ⋯ ⟨_,rfl,d',_,rfl,DGet.k (k:=.inr "out") q1,_,rfl,t,_,_,_,rfl,rfl,SqT.of (s1 _ _ ht),rfl,_,rfl,t,_,_,_,rfl,rfl,SqT.of (s1 _ _ ht),rfl,sz2,fun tp ftp=>#[z,tp,ftp,fun H2 t2 s2=>⟨sz1 _,fun l1 f1=>#[z,l1,f1,fun H3 t3 s3=>⟨lo,l1,pts,_,rfl,rfl,(s2.trans s3) _ _ p1,t3,szN (by rw[p2.length,zwo];show _+1<=1000;omega),fun lo' fp'=>#[z,lo',fp',fun H4 t4 s4=>?_]⟩]⟩]⟩))));have s13:=s2.trans s3;have s14:=s13.trans s4;refine pgw { P0 with out:=P0.out++[(i,n)] } rfl (PA1.same s14) fd' (s1.trans s14) (fun kk b=>⟨_,lo',_,_,_,_,_,zjg,b.pp,⟨_,kk.1 _ _ t4,?_,okf _ (s1.free (s13.free fp'))⟩,b.vv,b.dd,b.li,b.gg,b.mm⟩) fun H5 PA5 s5=>⟨_,rfl,t,_,_,_,rfl,rfl,SqT.of (s5 _ _ ht),rfl,_,rfl,t,_,_,_,rfl,rfl,SqT.of (s5 _ _ ht),rfl,sz3,fun td ftd=>#[z,td,ftd,fun H6 t6 s6=>?_]⟩
   ·rw[zwv];exact((p2.same s14).mono kk.2).snoc (kk.2 _ _ (s4 _ _ (s3 _ _ t2)))
   exact pgw (Tj P0 (.away i n)) rfl (PA5.same s6) fd' (s5.trans s6) (fun kk b=>⟨_,_,_,.ref td,_,_,_,Fc,b.pp,b.oo,b.vv,#[q,td,kk.2 _ _ t6],b.li,b.gg,b.mm⟩) fun H7 PA7 s7=>fin rfl _ H7 PA7 s7
abbrev Yh:Stmt:=top 84
theorem Xa:#[p,["_law_cell_here","_law_clubs_here","_law_most","_law_mixed","_law_matches_here","_law_many","_law_grades","_law_rest_here","_law_k","_law_home","_law_guest"],["_law_cell_here","_law_clubs_here","_law_most","_law_mixed"],Yh]:=fnS
@[irreducible] def Up:List Expr:=zfm (O9 (X3 (Zv Yh) 2))
@[irreducible] def O1:Pos:=zfn (O9 (X3 (Zv Yh) 2))
theorem K8:Zv Yh=[X3 (Zv Yh) 0,X3 (Zv Yh) 1,.Assign (zhs (X3 (Zv Yh) 2)) (.List Up O1) (stP (X3 (Zv Yh) 2)),X3 (Zv Yh) 3,X3 (Zv Yh) 4,X3 (Zv Yh) 5]:=by unfold Up O1;kernel_rfl
theorem K9:Fb Up [1,2,3,4,5,6,7,8,9,1,1,1,1,2,2,3,3,4]:=by unfold Up;exact⟨by kernel_rfl,by kernel_rfl⟩
theorem Eo(F:#[i,"_law_matches","_law_matches",Yh])(T:#[k])(zpi:Z2 P w K mg base "_law_mix" 1 ["_law_cell_here","_law_k"] zdl):FnOk P w K mg base #[f] 2 f fd ["_law_cell_here","_law_clubs_here","_law_most","_law_mixed"] (Jq K):=by
 refine #[n,Xa];obtain⟨b,ns,cell,most,mixed,rfl,hb,hl1,hl2,nd,rng,hm1,hmx,h⟩:=h;rw[K8];refine⟨_,(Zb (pS 4 Xa.nd (Z6 Zc))
 (Zb (pS 5 Xa.nd (Zk (cL K) (by rfl) T.zoa PySem.boot_len (Za (pv 1) Zc)))
 (Zb (pS 6 Xa.nd (Z6 (O5 [1,2,3,4,5,6,7,8,9,1,1,1,1,2,2,3,3,4] K9)))
 (Zb (pS 7 Xa.nd (Zt Xj (pv 0) (Zt Yy (pv 2) Zf)))
 (Zb (Yi PassesOwn.leaving rfl (Yw rfl T.zoq (Za (Zt Y2 (pv 0) (Zt Yy (pv 2) Zf)) Zc)) (pN 8 Xa.nd)
  (Zb (pS 9 Xa.nd (Zt Y2 (pv 7) (pv 5)))
  (Zb (pS 10 Xa.nd (Zt Y2 (Zt Yy (Zt Yy (pv 9) Zf) (Zt Y2 (Zt Xj (pv 7) (pv 5)) (Zt Py (pv 5) Zf))) (pv 5)))
  (Zb (Yu (pv 4) (Yc (Za (pI (iL K) (pv 1) (pv 9)) (Za (pI (iL K) (pv 1) (pv 10)) (Za (pI (iL K) (pv 6) (Zt Y2 (Zt Xj (Zt Xj (pv 7) (pv 5)) (Zt Py (pv 5) Zf)) Zf)) Zc)))))
  (Zd (pS 7 Xa.nd (pI (iL K) (Z6 (Za (Zt Xj (Zt Xj (Zt Xj (pv 7) (pv 5)) (Zt Py (pv 5) Zf)) Zf) (Za (pF zpi hr (Za (pv 7) (Za (pv 8) Zc))) Zc))) (pv 3))))))))
 (Zd (Zl (pv 4)))))))),?_⟩
 show let y1:TS:=_;let y2:TS:=Zw _ y1;let y3:TS:=Zw _ y2;let y4:TS:=_;let y5:TS:=Zw (zei _ _ (Zw _ y3)) y4;let y6:TS:=Zw _ y5;let y7:TS:=Zw _ y6;let y8:TS:=Zw _ y7;Zw _ y8 _ _ _;intro y1 y2 y3 y4 y5 y6 y7 y8;have sz0:([]:List V).length<=sizeLine:=zxj _;have sz3:∀ x y z:V,[x,y,z].length<=sizeLine:=fun x y z=>by show 3<=sizeLine;rw[sizeLine_eq];decide
 refine⟨sz0,fun r fr=>?_⟩;have s1:=Zj (o:=.lst []) fr;have q1:=Ze (H:=H) (a:=r) (o:=.lst []);walk_at "if";generalize upd H r (.lst [])=H1 at s1 q1 ⊢;refine#[Y,_,b,_,#[t,s1 _ _ hb],?_];rw[zwo];walk_at "if";refine zbe [1,2,3,4,5,6,7,8,9,1,1,1,1,2,2,3,3,4] ⋯ fun lg H2 hg s2 fg=>?_;have frg:lg≠r:=(Zg q1 fg).symm;have hc:(0:Int)<(most:Int)+1:=by omega
 refine⟨_,rfl,_,rfl,_,_,rfl,rfl,_,_,rfl,rfl,⟨hc,by omega⟩,?_⟩;walk_at "if";refine⟨_,rfl,_,rfl,_,_,rfl,rfl,_,_,rfl,rfl,hc,_,rfl,?_⟩;have c0:=zxx cell (show ((most:Int)+1)≠0 by omega);have c1:=zxp cell hc;have hn0:(0:Int)<(ns.length:Int):=by omega
 have hn1:(0:Int)<(ns.length:Int)-1:=by omega
 let jv11:Nat->L2.St->Hp->Prop:=fun i σ H'=>(∃ v8 v9 v10 R,σ=[some (.int cell),some (.ref b),some (.int most),some (.int mixed),some (.ref r),some (.int ns.length),some (.ref lg),some (.int R),v8,v9,v10])/\(∀ x o,H2 x=some o->x≠r->H' x=some o)/\∃ ts ms,H' r=#[r,ts]/\Z7 H' ts (ms.map pV)/\ms.length=i/\zct ms
 refine⟨by omega,by omega,Xb jv11
  ⟨⟨_,_,_,_,rfl⟩,fun _ _ e _=>e,[],[],s2 _ _ q1,.nil,rfl,(fun m z=>nomatch z),(fun m z=>nomatch z)⟩ ?_ ?_⟩
 ·rintro i σ H' hi ⟨⟨v8,v9,v10,R,rfl⟩,k,ts,ms,hr',tl,hml,gm⟩;have hb':=k _ _ (s2 _ _ (s1 _ _ hb)) (Zg hb fr);have hg':=k _ _ hg frg;have e0:=zxx R (show (ns.length:Int)≠0 by omega);have e1:=zxp R hn0;have f0:=zxx (R/(ns.length:Int)) (show (ns.length:Int)-1≠0 by omega);have f1:=zxp (R/(ns.length:Int)) hn1;have w0:=zxx (R/(ns.length:Int)/((ns.length:Int)-1)) (show (18:Int)≠0 by omega);have w1:=zxp (R/(ns.length:Int)/((ns.length:Int)-1)) (show (0:Int)<18 by omega);obtain⟨g0,g1,g2⟩:=zhz e0 e1 (y:=1+R/(ns.length:Int)%((ns.length:Int)-1)) ⋯ ⋯;rw[<- Int.add_assoc] at g0 g1 g2;refine⟨_,rfl,_,rfl,_,_,rfl,rfl,hn0,?_⟩;walk_at "if";refine⟨_,rfl,_,_,rfl,rfl,_,rfl,_,rfl,_,_,rfl,rfl,⟨hn0,by omega⟩,_,rfl,_,_,rfl,rfl,_,_,rfl,rfl,hn1,_,_,rfl,rfl,_,rfl,_,_,rfl,rfl,hn0,?_⟩;walk_at "if";generalize hG:(R%(ns.length:Int)+1+R/(ns.length:Int)%((ns.length:Int)-1))%(ns.length:Int)=gu at g0 g1 g2 ⊢;generalize hHo:R%(ns.length:Int)=ho at e0 e1 g2 ⊢;refine#[Y,_,r,_,hr',?_];have hgr:=Wy (xs:=B6) w0 (by show _<((18:Nat):Int);omega);have rgr:=zcu (R/(ns.length:Int)/((ns.length:Int)-1)%18).toNat ⋯;generalize hgv:B6.getD (R/(ns.length:Int)/((ns.length:Int)-1)%18).toNat 0=gv at hgr rgr;have hho:=Wy (xs:=ns) e0 ⋯;have hgu:=Wy (xs:=ns) g0 ⋯;have mho:=T1 (ns:=ns) (i:=ho.toNat) ⋯;have mgu:=T1 (ns:=ns) (i:=gu.toNat) ⋯;have hne:ns.getD ho.toNat 0≠ns.getD gu.toNat 0:=fun z=>by
   have:=zh0 nd ⋯ ⋯ z;omega
  generalize ns.getD ho.toNat 0=a1 at hho mho hne;generalize ns.getD gu.toNat 0=a2 at hgu mgu hne;refine⟨_,rfl,_,rfl,b,_,_,_,rfl,rfl,SqL.of hb',hho,_,rfl,_,rfl,b,_,_,_,rfl,rfl,SqL.of hb',hgu,?_⟩;refine⟨_,rfl,_,rfl,_,rfl,_,_,rfl,rfl,⟨hn0,by omega⟩,_,rfl,_,_,rfl,rfl,_,_,rfl,rfl,⟨hn1,by omega⟩,_,_,rfl,rfl,⋯,lg,_,_,_,rfl,rfl,SqL.of hg',hgr,sz3 _ _ _,fun t ft=>?_⟩;refine #[z,t,ft,fun H3 q3 s3=>?_];have tln:=tl.length;rw[zwo] at tln;refine⟨ts,s3 _ _ hr',szN ⋯,?_⟩;have hi':i<101:=by omega
  have k4:∀ x o,H3 x=#[d]->x≠r->upd H3 r (.lst (ts++[.ref t])) x=#[d]:=fun x o e n=>by rw[Zh n];exact e
  have q4:=Ze (H:=H3) (a:=r) (o:=.lst (ts++[.ref t]));have kt4:∀ x ys,H3 x=#[J,ys]->upd H3 r (.lst (ts++[.ref t])) x=#[J,ys]:=fun x ys e=>k4 _ _ e (Y6 e (s3 _ _ hr') (by intro z;cases z));dsimp only;generalize upd H3 r (.lst (ts++[.ref t]))=H4 at k4 q4 kt4 ⊢;obtain⟨z,hz⟩:=at2 (R/(ns.length:Int)/((ns.length:Int)-1)/18) (zi3 R (0+(i:Int))) hmx;refine⟨_,rfl,_,rfl,_,_,rfl,rfl,⟨hn0,by omega⟩,_,rfl,_,_,rfl,rfl,_,_,rfl,rfl,⟨hn1,by omega⟩,_,_,rfl,rfl,⟨by omega,by omega⟩,_,rfl,_,rfl,_,_,rfl,sz2,fun l2 f2=>⟨_,rfl,l2,_,_,_,rfl,rfl,SqL.of Ze,hz,?_⟩⟩;have s5:=Zj (o:=.lst [.int (R/(ns.length:Int)/((ns.length:Int)-1)/18),.int (zi3 R (0+(i:Int)))]) f2;refine⟨⟨_,_,_,_,rfl⟩,fun x o e n=>s5 _ _ (k4 _ _ (s3 _ _ (k _ _ e n)) n),ts++[.ref t],ms++[(a1,a2,gv)],s5 _ _ q4,?_,by rw[zwr,hml];rfl,?_,?_⟩
  ·rw[zwv];exact(tl.mono fun x ys e=>s5 _ _ (kt4 _ _ (s3 _ _ e))).snoc (s5 _ _ (kt4 _ _ q3))
  ·intro m hm;rcases zw0.mp hm with hm|hm
   ·exact gm.1 m hm
   ·rw[zwt.mp hm];have:=rng _ mho;have:=rng _ mgu;unfold badM;dsimp only;omega
  ·intro m hm;rcases zw0.mp hm with hm|hm
   ·exact gm.2 m hm
   ·rw[zwt.mp hm];exact hne
 ·rintro σ H' ⟨⟨v8,v9,v10,R,rfl⟩,k,ts,ms,hr',tl,hml,gm⟩;refine#[q,_,h r ts ms H' hr' tl ⋯ gm (fun x o e=>k _ _ (s2 _ _ (s1 _ _ e)) (Zg e fr)) fr]
abbrev Ep:Stmt:=top 85
theorem zf5:#[p,["_law_season","_law_deed_here"],["_law_season","_law_deed_here"],Ep]:=fnS
theorem zf6(F:#[i,"_law_do","_law_do",Ep])(T:#[k])(zqp:Zx P w K mg base a.zn4 "enrol" 5 #[as] (zd3 (ca a)))(zq9:Zx P w K mg base a.zn4 "away" 7 ["self","at","number"] (zho (ca a)))(zp2:Zx P w K mg base a.zn4 "draw_up" 6 ["self","matches"] (za4 K (ca a)))(zqr:Zx P w K mg base a.zn4 "close" 4 ["self"] (zd4 (ca a)))(zpp:Zx P w K mg base a.zn4 "take_back" 2 ["self"] (G7 (ca a))):FnOk P w K mg base #[f] 8 f fd ["_law_season","_law_deed_here"] (zlf K (ca a)):=by
 refine #[n,zf5];obtain⟨A',S,t,d,rfl,SA,hd,gd,co,po,hz,hoz,htot,hl,hol,hln,hsn,hbk,h⟩:=h;refine⟨_,(Zb (Zy (Zo Xv (pI (iU K) (pv 1) Zf) Zr (Zq _))
  (Zd (Zl (Xs (pv 0) T.zn5 zqp (hr.mono ⋯) Zn (Za (pI (iU K) (pv 1) Zf) (Za (pI (iU K) (pv 1) Zf) (Za (pI (iU K) (pv 1) Zf) Zc))))))
  Zp)
 (Zb (Zy (Zo Xv (pI (iU K) (pv 1) Zf) Zr (Zq _))
  (Zd (Zl (Xs (pv 0) T.zn5 zq9 (hr.mono ⋯) Zn (Za (pI (iU K) (pv 1) Zf) (Za (pI (iU K) (pv 1) Zf) Zc)))))
  Zp)
 (Zb (Zy (Zo Xv (pI (iU K) (pv 1) Zf) Zr (Zq _))
  (Zd (Zl (Xs (pv 0) T.zn5 zp2 (hr.mono ⋯) Zn (Za (Yx (Y0 (K:=K) rfl) (by rfl) T.zo3 PyProof.Rows.boot_list (Za (pI (iU K) (pv 1) Zf) Zc)) Zc))))
  Zp)
 (Zb (Zy (Zo Xv (pI (iU K) (pv 1) Zf) Zr (Zq _))
  (Zd (Zl (Yp (pv 0) T.zn5 zqr (hr.mono ⋯) Zn)))
  Zp)
 (Zd (Zl (Yp (pv 0) T.zn5 zpp (hr.mono ⋯) Zn))))))),?_⟩
 obtain⟨⟨dx,v,a1,a2⟩,_⟩:=id SA;cases d with
 | enrol n g c0 =>
   have ht:#[N,H,t,[.str "enrol",.int n,.int g,.int c0]]:=hd;obtain⟨g1,g2,g3,g4,g5⟩:=gd;have hb:=g3;unfold badI at hb;refine⟨_,rfl,t,_,_,_,rfl,rfl,SqT.of ht,rfl,rfl,_,rfl,?_⟩;rw[zcq];refine iteT ?_;refine⟨_,rfl,A'.p,dx,_,rfl,a1,Yg ⋯,_,rfl,t,_,_,_,rfl,rfl,SqT.of ht,rfl,_,rfl,t,_,_,_,rfl,rfl,SqT.of ht,rfl,_,rfl,t,_,_,_,rfl,rfl,SqT.of ht,rfl,A',S,n,g,c0,rfl,SA,⟨Yv ⋯ ⋯,Yv ⋯ ⋯,Yv ⋯ ⋯⟩,by omega,by omega,?_⟩;rw[if_neg ⋯,#[h,(by rw[g2];decide)],#[h,g3],#[h,g4],if_neg ⋯,if_neg ⋯];exact fun H' SA' f'=>h .non A' _ H' (.enrol n g c0) SA' (.refl A' H) f' (fun l z=>nomatch z)
 | away i n =>
   have ht:#[N,H,t,[.str "away",.int i,.int n]]:=hd;obtain⟨g1,g2,g3,g4⟩:=gd;refine⟨_,rfl,t,_,_,_,rfl,rfl,SqT.of ht,rfl,rfl,_,rfl,?_⟩;rw[R9 ⋯];refine #[V];refine⟨_,rfl,t,_,_,_,rfl,rfl,SqT.of ht,rfl,rfl,_,rfl,?_⟩;rw[zcq];refine iteT ?_;have si:Yq i:=Yv ⋯ ⋯;refine⟨_,rfl,A'.p,dx,_,rfl,a1,Yg ⋯,_,rfl,t,_,_,_,rfl,rfl,SqT.of ht,rfl,_,rfl,t,_,_,_,rfl,rfl,SqT.of ht,rfl,A',S,i,n,rfl,SA,si,hsn i n rfl,by omega,hoz,po,fun s hs=>?_,?_⟩
   ·obtain⟨c1,c2,c3,c4,c5⟩:=co s hs;exact⟨c1,c2,c4,by omega⟩
   rw[if_neg ⋯,if_neg ⋯,if_pos g3,#[h,g4],if_neg ⋯];refine⟨fun hc l H' hl' SA' f' fl=>h _ A' _ H' (.awayN hc hl') SA' (.refl A' H) f' (fun l2 z _=>by cases z;exact fl),fun s hi hs hp l H' hl' SA' f' fl=>?_,fun s p hi hs hp l us st e w' H' hl' tl CR SA' f' fl=>?_⟩
   ·subst hi;exact h _ A' _ H' (.awayF hs hp hl') SA' (.refl A' H) f' (fun l2 z _=>by cases z;exact fl)
   ·subst hi;exact h _ A' _ H' (.awayC hs hp hl' tl CR) SA' (.refl A' H) f' (fun l2 z _=>by cases z;exact fl)
 | draw ms =>
   obtain⟨l0,ts,ht,hl0,tl,okl⟩:∃ l ts,H t=#[J,[.str "draw up",.ref l]]/\H l=#[r,ts]/\Z7 H ts (ms.map pV)/\l∉A'.fp:=hd;obtain⟨g1,g2,g3,g4,g5⟩:=gd;refine⟨_,rfl,t,_,_,_,rfl,rfl,SqT.of ht,rfl,rfl,_,rfl,?_⟩;rw[R9 ⋯];refine #[V];refine⟨_,rfl,t,_,_,_,rfl,rfl,SqT.of ht,rfl,rfl,_,rfl,?_⟩;rw[R9 ⋯];refine #[V];refine⟨_,rfl,t,_,_,_,rfl,rfl,SqT.of ht,rfl,rfl,_,rfl,?_⟩;rw[zcq];refine iteT ?_;refine⟨_,rfl,A'.p,dx,_,rfl,a1,Yg ⋯,_,rfl,t,_,_,_,rfl,rfl,SqT.of ht,rfl,l0,ts,rfl,#[t,hl0],fun l1 hl1=>?_⟩;refine al (upd _ l1 _) hl1 rfl fun H1 q1 s1=>?_;have nb:¬ Qt ms:=fun ⟨m,hm,hb⟩=>g4 m hm hb;have ns:¬ Qu ms:=fun ⟨m,hm,hb⟩=>g5 m hm hb;refine⟨A',S,l1,ts,ms,rfl,SA.same s1,SqL.of q1,tl.same s1,fun m hm=>?_,by omega,by omega,po,?_⟩
   ·have:=g4 m hm;unfold badM at this;exact⟨Yv ⋯ ⋯,Yv ⋯ ⋯,Yv ⋯ ⋯⟩
   rw[if_neg ⋯,#[h,(by rw[g2];decide)]];refine⟨fun z=>absurd z ⋯,fun _ z=>absurd z nb,fun _ _ z=>absurd z ns,fun _ _ _=>⟨fun z=>absurd z ⋯,fun _ l gv H' hl' SA' FP SP f' fl=>?_⟩⟩;exact h _ A' _ H' (.draw hl' FP SP) SA' (.refl A' H) ((FrS.of A' s1).trans f') (fun l2 z _=>by cases z;exact s1.free fl)
 | close =>
   have ht:#[N,H,t,[.str "close"]]:=hd;obtain⟨g1,g2⟩:=gd;refine⟨_,rfl,t,_,_,_,rfl,rfl,SqT.of ht,rfl,rfl,_,rfl,?_⟩;rw[R9 ⋯];refine #[V];refine⟨_,rfl,t,_,_,_,rfl,rfl,SqT.of ht,rfl,rfl,_,rfl,?_⟩;rw[R9 ⋯];refine #[V];refine⟨_,rfl,t,_,_,_,rfl,rfl,SqT.of ht,rfl,rfl,_,rfl,?_⟩;rw[R9 ⋯];refine #[V];refine⟨_,rfl,t,_,_,_,rfl,rfl,SqT.of ht,rfl,rfl,_,rfl,?_⟩;rw[zcq];refine iteT ?_;refine⟨_,rfl,A'.p,dx,_,rfl,a1,Yg ⋯,A',S,rfl,SA,htot,hl,hol,fun s hs=>?_,?_⟩
   ·obtain⟨c1,c2,c3,c4,c5⟩:=co s hs;refine⟨c2.one,?_,by omega⟩;rw[c2.len,c4];unfold mayS;rw[zwo]
   rw[if_neg ⋯];exact⟨fun z=>absurd z g2,fun s x H' hs SA' f' fx=>h _ { A' with lt:=x } _ H' (.close hs) SA' #[q,x,.inr fx] f' (fun l2 z=>nomatch z)⟩
 | back =>
   have ht:#[N,H,t,[.str "take back"]]:=hd;refine⟨_,rfl,t,_,_,_,rfl,rfl,SqT.of ht,rfl,rfl,_,rfl,?_⟩;rw[R9 ⋯];refine #[V];refine⟨_,rfl,t,_,_,_,rfl,rfl,SqT.of ht,rfl,rfl,_,rfl,?_⟩;rw[R9 ⋯];refine #[V];refine⟨_,rfl,t,_,_,_,rfl,rfl,SqT.of ht,rfl,rfl,_,rfl,?_⟩;rw[R9 ⋯];refine #[V];refine⟨_,rfl,t,_,_,_,rfl,rfl,SqT.of ht,rfl,rfl,_,rfl,?_⟩;rw[R9 ⋯];refine #[V];obtain⟨S0,hs0⟩:=hbk rfl;obtain⟨d0,e1,e2,e3,e4,e5,e6⟩:=id hs0;refine⟨_,rfl,A'.p,dx,_,rfl,a1,Yg ⋯,A',S,rfl,SA,fun z=>absurd z gd,fun std d s he=>?_⟩;rw[e1] at he;obtain⟨he1,he2⟩:=List.append_inj' he rfl;have he2:(d0,S0.cur)=(d,s):=by simpa using he2
   cases he2;subst he1;refine⟨S0.ppl,S0.out,e2,fun t' H' ht' SA' f'=>?_⟩;have eS:{ S with ppl:=S0.ppl,out:=S0.out,cur:=S0.cur,std:=S0.std }=S0:=by
    cases S;cases S0;simp only at e3 e4 e5 e6 ⊢;subst e3 e4 e5 e6;rfl
   rw[eS] at SA';exact h _ A' S0 H' (.back e1 ht' hs0) SA' (.refl A' H) f' (fun l2 z hx=>by cases z;obtain⟨xs,hx⟩:=hx;rw[ht'] at hx;cases hx)
abbrev Rt:Stmt:=top 86
theorem Uq:#[p,["_law_goes","_law_steps_here","_law_out","_law_place","_law_number"],["_law_goes","_law_steps_here"],Rt]:=fnS
theorem Er(F:#[i,"_law_stepped","_law_stepped",Rt])(T:#[k]):FnOk P w K mg base #[f] 1 f fd ["_law_goes","_law_steps_here"] (R1 K):=by
 refine #[n,Uq];obtain⟨b,c,xs,ts,st,rfl,hb,hc,ht,hst,ho,hl,hls,h⟩:=h;refine⟨_,(Zb (pS 2 Uq.nd (Yx (Y0 (K:=K) rfl) (by rfl) T.zo3 PyProof.Rows.boot_list (Za (pv 0) Zc)))
 (Zb (Yi PassesOwn.leaving rfl (Z8 (K:=K) rfl (pv 1)) (Wb (K:=K) (n:=2) rfl rfl (Z0 (pN 3 Uq.nd) (Z0 (pN 4 Uq.nd) X9)))
  (Zd (Qg (pv 4) (zbz (pv 2) (pv 3) Gg))))
 (Zd (Zl (pv 2))))),?_⟩
 have htl:ts.length=st.length:=by have:=ht.length;rw[zwo] at this;exact this
 refine#[Y,_,b,_,#[t,hb],fun l hln=>?_]
 let jv12:Nat->L2.St->Hp->Prop:=fun i σ' H'=>(∃ u v,σ'=[some (.ref b),some (.ref c),some (.ref l),u,v])/\H' l=#[r,Yj (st.take i) xs]/\(∀ a o,H a=some o->H' a=some o)
 refine⟨_,rfl,c,rfl,⟨ts,SqL.of (Zj hln _ _ hc)⟩,Xd (xs:=ts) jv12 ⟨#[L,none,none],Ze,Zj hln⟩ (fun i σ' H' hi p=>#[F,p.2.2,hc]) (fun i x σ' H' hx p=>?_) fun σ' H' p=>?_⟩
 ·obtain⟨⟨u,v,rfl⟩,hl2,hs⟩:=p;have hi:i<st.length:=by rw[<- htl];exact(zwq.mp hx).1
  obtain⟨t,e1,e2⟩:=zdq ht (zwp hi);rw[hx] at e1;cases e1;refine⟨t,_,rfl,SqT.of (hs _ _ e2),rfl,_,_,rfl,_,_,rfl,rfl,?_⟩;have hlen:(Yj (st.take i) xs).length=xs.length:=Wd _ _;have hp:(st[i]'hi).1<xs.length:=hst _ (zxd hi);have e3:Yj (st.take (i+1)) xs=(Yj (st.take i) xs).set (st[i]'hi).1 (oV (st[i]'hi).2):=by
   rw[zw8 hi,Kk];rfl
  refine⟨_,rfl,_,rfl,_,rfl,l,_,_,(st[i]'hi).1,rfl,rfl,hl2,(show ixN _ (((st[i]'hi).1:Nat):Int)=some _ by unfold ixN;rw[if_pos ⋯,if_pos ⋯,zw3]),#[L,_,_],?_,fun a o q=>?_⟩
  ·rw[e3];exact Ze
  ·rw[Zh (Zg q hln)];exact hs a o q
 ·obtain⟨⟨u,v,rfl⟩,hl2,hs⟩:=p;rw[htl,zw6] at hl2;exact#[q,_,h l H' hl2 hs hln]
abbrev Mw:Stmt:=top 87
theorem Xc:#[p,["_law_pages","_law_cell_here","_law_pool_here","_law_most","_law_mixed","_law_clubs_here","_law_numbers_here","_law_page","_law_at_here","_law_kind","_law_rest_here","_law_day","_law_here","_law_known","_law_fresh","_law_club"],["_law_pages","_law_cell_here","_law_pool_here","_law_most","_law_mixed"],Mw]:=fnS
theorem zbs(F:#[i,"_law_deed","_law_deed",Mw])(T:#[k])(zrc:#[T,P,w,K,"_law_matches",2,["_law_cell_here","_law_clubs_here","_law_most","_law_mixed"],Jq]):FnOk P w K mg base #[f] 3 f fd ["_law_pages","_law_cell_here","_law_pool_here","_law_most","_law_mixed"] (zbj K):=by
 refine #[n,Xc];obtain⟨ok,l,t,lc,ln,ds,d,P0,cell,cs,nu,most,mixed,rfl,hl,PA,PL,hm1,hmx,hov,hpp,h⟩:=h;have hu:=Xy hr;refine⟨_,(Zb (Qg (pv 2) (Wb (K:=K) (n:=2) rfl rfl (Z0 (pN 5 Xc.nd) (Z0 (pN 6 Xc.nd) X9))))
 (Zb (pS 7 Xc.nd (pI (iL K) (pv 0) (Pf Tg Zf)))
 (Zb (pS 8 Xc.nd (Zt Yy (Zk (cL K) (by rfl) T.zoa PySem.boot_len (Za (pD hu (pv 7) Zr) Zc)) Zf))
 (Zb (pS 9 Xc.nd (Zt Y2 (pv 1) Zf))
 (Zb (pS 10 Xc.nd (Zt Xj (pv 1) Zf))
 (Zb (Zy (PW.pt (S9 (Zo Xv (pv 9) Zf (Zq _)) (U8 (Zo T2 (Zk (cL K) (by rfl) T.zoa PySem.boot_len (Za (pv 0) Zc)) Zf (Zq _)))))
  (Zd (Zl (Yc (Za Zr Zc))))
  Zp)
 (Zb (pS 11 Xc.nd (Zk (D6 rfl) (by rfl) T.ztt PyProof.Rows.boot_min (Za (pD hu (pv 7) Zr) (Za (Zt Yy (pv 8) (pI (iL K) (Z6 (Za Zf (Za (Zt Yy Zf (Zt Y2 (Zt Xj (pv 10) Zf) Zf)) Zc))) (Yx D7 (by rfl) T.ztv PyProof.Rows.boot_int (Za (Wa Xv (pv 9) Zf (Zq _)) Zc)))) Zc))))
 (Zb (Td (i:=12) Xc.nd rfl rfl rfl (cT ["_law_day","_law_page"] [11,7]) (Z8 (K:=K) rfl (pD hu (pv 7) Zr)) (fun _ _ _ _ _=>Qi (Zo (J1 (K:=K) rfl hr.units) (Yc (Za (pv 1) (Za (pI (iU K) (pv 0) Zf) Zc))) (pD hu (pv 2) Zr) (by with_unfolding_all rfl))) (fun _ _ _ _ _=>(pI (iU K) (pv 0) Zf)))
 (Zb (Zy (PW.pt (S9 (Zo (Hh (K:=K) rfl hr.units) (pv 12) (Z6 Zc) (Zq _)) (U8 (PW.pt (X8 (Zo T2 (pv 9) Zf (Zq _)) (Xu (PW.pt (S9 (Zo T2 (pv 9) Zf (Zq _)) (U8 (Zo Vs (pD hu (pv 7) Zr) Yn (Zq _)))))))))))
  (Zd (Zl (Yc (Za Zr (Za (pv 11) (Za (pI (iL K) (pv 12) (Zt Y2 (pv 10) (Zk (cL K) (by rfl) T.zoa PySem.boot_len (Za (pv 12) Zc)))) Zc))))))
  Zp)
 (Zb (Zy (Zo Vs (pD hu (pv 7) Zr) Yn (Zq _))
  (Zd (Zl (Yc (Za Zr Zc))))
  Zp)
 (Zb (pS 13 Xc.nd (Vb rfl (cT [] []) (Z8 (K:=K) rfl (pD hu (pv 7) Zr)) (fun _ _ _ _ _=>Vg) (fun _ _ _ _ _=>(pI (iU K) (pv 0) Zf))))
 (Zb (Td (i:=14) Xc.nd rfl rfl rfl (cT ["_law_known"] [13]) (Z8 (K:=K) rfl (pv 6)) (fun _ _ _ _ _=>Qi (Zo (Wg (K:=K) rfl) (pv 0) (pv 1) (by with_unfolding_all rfl))) (fun _ _ _ _ _=>(pv 0)))
 (Zb (Zy (PW.pt (S9 (Zo Xv (pv 9) Zf (Zq _)) (U8 (Zo (Hh (K:=K) rfl hr.units) (pv 14) (Z6 Zc) (Zq _)))))
  (Zb (pS 15 Xc.nd (pI (iL K) (pv 5) (Zt Y2 (Zt Xj (pv 10) Zf) (Zk (cL K) (by rfl) T.zoa PySem.boot_len (Za (pv 5) Zc)))))
  (Zd (Zl (Yc (Za Zr (Za (pI (iL K) (pv 14) (Zt Y2 (pv 10) (Zk (cL K) (by rfl) T.zoa PySem.boot_len (Za (pv 14) Zc)))) (Za (Zt Yy Zf (Zt Y2 (Zt Xj (pv 10) Zf) Zf)) (Za (pv 15) Zc))))))))
  Zp)
 (Zd (Zl (Yc (Za Zr (Za (pF zrc hr (Za (pv 10) (Za (pv 5) (Za (pv 3) (Za (pv 4) Zc))))) Zc)))))))))))))))))),?_⟩
 show let y1:TS:=_;let y2:TS:=Zw _ y1;let y3:TS:=Zw _ y2;let y4:TS:=Zw _ y3;let y5:TS:=Zw _ y4;let y6:TS:=Zw _ y5;let y7:TS:=Zw _ y6;let y8:TS:=Zw _ y7;let y9:TS:=Zw _ y8;let y10:TS:=Zw _ y9;let y11:TS:=Zw _ y10;let y12:TS:=Zw _ y11;let y13:TS:=Zw _ y12;Zw _ y13 _ _ _;intro y1 y2 y3 y4 y5 y6 y7 y8 y9 y10 y11 y12 y13;have sz0:([]:List V).length<=sizeLine:=zxj _;obtain⟨lp,lo,lv,dv,li,lg,lm,a1,PB,okd⟩:=id PA.split;have hat:atI ((ds++[d]).map V.ref) (-1)=#[b,V.ref,d]:=by rw[zwv];exact L2.atI_last _ _
 obtain⟨vts,v1,v2,v3⟩:=PB.vv;refine⟨_,rfl,t,_,rfl,SqT.of PL.tup,rfl,_,_,rfl,_,_,rfl,rfl,?_⟩;walk_at "if";refine⟨_,rfl,_,rfl,l,_,_,_,rfl,rfl,SqL.of hl,hat,?_⟩;walk_at "if";refine⟨_,rfl,d,_,rfl,DGet.k (k:=.inr "over") a1,lv,vts,rfl,#[t,v1],_,_,rfl,rfl,?_⟩;rw[v2.length];walk_at "if";refine⟨_,rfl,_,_,rfl,rfl,⋯,?_⟩;walk_at "if";refine⟨_,rfl,_,_,rfl,rfl,⟨by omega,by omega⟩,?_⟩;walk_at "if";obtain⟨kd,hkd⟩:∃ kd,kd=cell%8:=#[w,_];obtain⟨R,hR⟩:∃ R,R=cell/8:=#[w,_];rw[<- hkd,<- hR];show Zw _ _ _ [#[c,l],#[e,cell],#[c,t],#[e,most],#[e,mixed],#[c,lc],#[c,ln],#[c,d],#[e,(P0.over.length:Int)+1],#[e,kd],#[e,R],none,none,none,none,none] H;have hdl:((((ds++[d]).map V.ref).length:Nat):Int)=(ds.length:Int)+1:=by rw[zwo,zwr];rfl
 have tup1:∀ (w:Str),([V.str w]).length<=sizeLine:=fun w=>by show 1<=sizeLine;rw[sizeLine_eq];decide
 refine Yk (Y9 (b:=decide (V.int kd=V.int 7)&&decide (1<(ds.length:Int)+1)) (Kh (fun Q q=>⟨_,rfl,rfl,_,rfl,q⟩) fun Q q=>⟨_,rfl,l,_,rfl,#[t,hl],_,_,rfl,rfl,_,rfl,by rw[hdl];exact q⟩) (itB (fun hb=>?_) fun _=>Zu ?_))
 ·refine⟨tup1 _,fun tt ft=>?_⟩;refine h tt .back _ (show upd H tt _ tt=_ from Ze) ?_ (Zj ft) ft;rw[zx6,decide_eq_true_eq,decide_eq_true_eq] at hb;intro z;rw[z] at hb;have:=hb.2;simp at this
 refine⟨_,rfl,d,_,rfl,DGet.k (k:=.inr "rounds") a1,_,rfl,_,rfl,_,_,rfl,rfl,⟨by omega,by omega⟩,_,_,rfl,rfl,⋯,_,_,rfl,rfl,sz2,fun l2 f2=>?_⟩;refine #[z,l2,f2,fun H2 q2 s2=>?_];obtain⟨z,hz,hz0⟩:∃ z:Int,atI [V.int 0,V.int (1+R/60%3)] (if #[g,V.int kd=V.int 6]=true then 1 else 0)=#[e,z]/\0<=z:=by
  cases decide (V.int kd=V.int 6) with
  | true=>exact#[q,_,by omega]
  | false=>exact#[q,0,by omega]
 refine⟨_,rfl,rfl,.inr ⟨_,rfl,l2,_,_,_,rfl,rfl,SqL.of q2,hz,_,_,rfl,rfl,_,_,rfl,?_⟩⟩;obtain⟨day,hday,hd1,hd2⟩:∃ day:Int,(if ((P0.over.length:Int)+1+z)<(P0.len:Int) then ((P0.over.length:Int)+1+z) else (P0.len:Int))=day/\(P0.over.length:Int)<day/\day<=P0.len:=⟨_,rfl,by split<;>omega,by split<;>omega⟩;rw[hday];walk_at "if";obtain⟨pts,p1,p2,p3⟩:=PB.pp;obtain⟨ots,o1,o2,o3⟩:=PB.oo;have hpl:pts.length=P0.ppl.length:=by rw[p2.length,zwo]
 have hls:=PB.li.some;refine⟨_,rfl,d,_,rfl,DGet.k (k:=.inr "people") (s2 _ _ a1),lp,rfl,⟨_,SqL.of (s2 _ _ p1)⟩,X5 (K:=K) (a:=lp) (xs:=pts) (fun i ys H'=>Same H2 H'/\ys=(((P0.ppl.take i).filter fun x=>!decide ((day,x.1)∈P0.out)).map (·.1)).map V.int) #[w,Same.refl _] (fun i ys H' _ ⟨z,_⟩=>#[F,z,s2 _ _ p1]) (szN ⋯) (fun i ys H' ⟨_,e⟩=>by rw[e,zwo,zwo];exact zw4 (zxn _ _) (zx1 _ _)) ?_ ?_⟩
 ·rintro j x ys H3 hx3 ⟨s3,rfl⟩;obtain⟨tp,pp,rfl,hpp',htp⟩:=Jz p2 hx3;have sh3:=s2.trans s3;refine⟨_,rfl,_,rfl,tp,_,_,_,rfl,rfl,SqT.of (sh3 _ _ htp),show atI (pV pp) 0=some _ from rfl,sz2,fun t3 f3=>?_⟩;refine #[z,t3,f3,fun H4 q4 s4=>?_];have sh4:=sh3.trans s4;refine⟨_,rfl,d,_,rfl,DGet.k (k:=.inr "out") (sh4 _ _ a1),t3,lo,ots,_,_,P0.out,rfl,rfl,SqT.of q4,#[F,sh4,o1],o2.same sh4,_,rfl,?_⟩;rw[#[P],Xx hpp',zyf,zwv,zwv];refine itB (fun hb=>?_) fun hb=>?_
  ·refine⟨_,rfl,tp,_,_,_,rfl,rfl,SqT.of (sh4 _ _ htp),show atI (pV pp) 0=some _ from rfl,s3.trans s4,?_⟩;rw[zx9 (p:=fun x:P3=>!decide ((day,x.1)∈P0.out)) (a:=pp) hb,zyw];rfl
  ·refine⟨s3.trans s4,?_⟩;rw[zya (p:=fun x:P3=>!decide ((day,x.1)∈P0.out)) (a:=pp) (by rw[hb];decide),zyw];simp
 rintro ys H3 ⟨s3,rfl⟩ lh flh;rw[hpl,zw6];obtain⟨he,hhe⟩:∃ he,he=(P0.ppl.filter fun x=>!decide ((day,x.1)∈P0.out)).map (·.1):=#[w,_];rw[<- hhe];have hel:he.length<=100:=by rw[hhe,zwo];exact zw4 (zxn _ _) hpp
 have hem:∀ n∈he,n∈P0.ppl.map (·.1)/\(day,n)∉P0.out:=fun n hn=>by
  rw[hhe] at hn;obtain⟨x,hx,rfl⟩:=zwx.mp hn;obtain⟨hx1,hx2⟩:=zxu.mp hx;exact⟨zwx.mpr ⟨x,hx1,rfl⟩,by simpa using hx2⟩
 have s4:=(s2.trans s3).trans (Zj (o:=.lst (he.map V.int)) flh);have q4:=Ze (H:=H3) (a:=lh) (o:=.lst (he.map V.int));show Vp 12 (V.ref lh) _ (upd H3 lh (.lst (he.map V.int))) _;generalize upd H3 lh (.lst (he.map V.int))=H4 at s4 q4 ⊢;walk_at "if";refine Yk (zaj (b:=!he.isEmpty&&(decide (3<kd)||(decide (0<kd)&&P0.lis.isSome))) (C5 (Js rfl q4) fun H5 s5=>Qk (Wc (fun Q q=>⟨_,rfl,_,_,rfl,rfl,_,rfl,q⟩) (Kh (fun Q q=>⟨_,rfl,_,_,rfl,rfl,_,rfl,q⟩) fun Q q=>⟨_,rfl,d,_,rfl,DGet.k (k:=.inr "listed") (s5 _ _ (s4 _ _ a1)),rfl,_,rfl,by rw[hls];exact q⟩))) fun H5 s5=>itB (fun hb=>?_) fun _=>Zu ?_)
 ·rw[zx6] at hb;have hne:he.length≠0:=by have:=hb.1;intro z;rw[zyh.mp z] at this;exact absurd this ⋯
  have hpos:(0:Int)<(he.length:Int):=by omega
  have y0:=zxx R (show (he.length:Int)≠0 by omega);have y1:=zxp R hpos;have hix:=Wy (xs:=he) y0 ⋯;have mix:=T1 (ns:=he) (i:=(R%(he.length:Int)).toNat) ⋯;generalize he.getD (R%(he.length:Int)).toNat 0=n at hix mix;refine⟨_,rfl,_,rfl,_,rfl,_,rfl,lh,_,rfl,#[t,s5 _ _ q4],?_⟩;rw[zwo];refine⟨_,_,rfl,rfl,hpos,lh,_,_,_,rfl,rfl,#[F,s5,q4],hix,(by show 3<=sizeLine;rw[sizeLine_eq];decide),fun tt ft=>?_⟩;exact h tt (.away day n) _ (show upd H5 tt _ tt=_ from Ze) ⟨hd1,hd2,(hem n mix).1,(hem n mix).2⟩ ((s4.trans s5).trans (Zj ft)) ((s4.trans s5).free ft)
 have s05:=s4.trans s5;dsimp only;refine Yk (Y9 (b:=P0.lis.isSome) (fun Q q=>⟨_,rfl,d,_,rfl,DGet.k (k:=.inr "listed") (s05 _ _ a1),rfl,_,rfl,by rw[hls];exact q⟩) (itB (fun hb=>?_) fun hb=>Zu ?_))
 ·refine⟨tup1 _,fun tt ft=>?_⟩;exact h tt .close _ (show upd H5 tt _ tt=_ from Ze) (fun z=>by rw[z] at hb;cases hb) (s05.trans (Zj ft)) (s05.free ft)
 have hno:P0.lis=none:=by
  cases hq:P0.lis with
  | none=>rfl
  | some ms=>rw[hq] at hb;cases hb
 dsimp only;have nul:=PL.nfew;have csl:=PL.few;refine⟨_,rfl,d,_,rfl,DGet.k (k:=.inr "people") (s05 _ _ a1),lp,rfl,⟨_,SqL.of (s05 _ _ p1)⟩,X5 (K:=K) (a:=lp) (xs:=pts) (fun i ys H'=>Same H5 H'/\ys=((P0.ppl.take i).map (·.1)).map V.int) #[w,Same.refl _] (fun i ys H' _ ⟨z,_⟩=>#[F,z,s05 _ _ p1]) (szN ⋯) (fun i ys H' ⟨_,e⟩=>by rw[e,zwo,zwo];exact zx1 _ _) ?_ ?_⟩
 ·rintro j x ys H6 hx6 ⟨s6,rfl⟩;obtain⟨tp,pp,rfl,hpp',htp⟩:=Jz p2 hx6;unfold tYes;dsimp only;rw[#[P]];refine⟨_,rfl,tp,_,_,_,rfl,rfl,SqT.of (s6 _ _ (s05 _ _ htp)),show atI (pV pp) 0=some _ from rfl,s6,?_⟩;rw[Xx hpp',zwv,zwv];rfl
 rintro ys H6 ⟨s6,rfl⟩ lk flk;rw[hpl,zw6];obtain⟨kn,hkn⟩:∃ kn,kn=P0.ppl.map (·.1):=#[w,_];rw[<- hkn];have s7:=(s05.trans s6).trans (Zj (o:=.lst (kn.map V.int)) flk);have q7:=Ze (H:=H6) (a:=lk) (o:=.lst (kn.map V.int));show Vp 13 (V.ref lk) _ (upd H6 lk (.lst (kn.map V.int))) _;generalize upd H6 lk (.lst (kn.map V.int))=H7 at s7 q7 ⊢;walk_at "if";refine⟨_,rfl,ln,rfl,⟨_,SqL.of (s7 _ _ PL.nums)⟩,X5 (K:=K) (a:=ln) (xs:=nu.map V.int) (fun i ys H'=>H'=H7/\ys=((nu.take i).filter fun n=>!decide (n∈kn)).map V.int) #[w,rfl] (fun i ys H' _ ⟨z,_⟩=>by rw[z];exact #[F,s7,PL.nums]) (szN (by rw[zwo];omega)) (fun i ys H' ⟨_,e⟩=>by rw[e,zwo];exact zw4 (zxn _ _) (zx1 _ _)) ?_ ?_⟩
 ·rintro j x ys H8 hx8 ⟨rfl,rfl⟩;rw[zws] at hx8;obtain⟨n,hn,rfl⟩:=zyu.mp hx8;refine⟨_,rfl,_,rfl,lk,_,rfl,#[t,q7],rfl,(zyb.mpr fun y hy=>by obtain⟨i,_,rfl⟩:=zwx.mp hy;rfl),_,rfl,?_⟩;rw[#[P],Qm,Xx hn,zyf,zwv];refine itB (fun hb=>?_) fun hb=>?_
  ·refine⟨_,rfl,rfl,?_⟩;rw[zx9 (p:=fun n:Int=>!decide (n∈kn)) (a:=n) hb,zyw];rfl
  ·refine⟨rfl,?_⟩;rw[zya (p:=fun n:Int=>!decide (n∈kn)) (a:=n) (by rw[hb];decide),zyw];simp
 rintro ys H8 ⟨rfl,rfl⟩ lf flf;rw[zwo,zw6];obtain⟨fs,hfs⟩:∃ fs,fs=nu.filter fun n=>!#[g,n∈kn]:=#[w,_];rw[<- hfs];have hfm:∀ n∈fs,n∈nu/\n∉P0.ppl.map (·.1):=fun n hn=>by
  rw[hfs] at hn;obtain⟨hx1,hx2⟩:=zxu.mp hn;exact⟨hx1,by rw[<- hkn];simpa using hx2⟩
 have hfl:fs.length<=100:=by rw[hfs];exact zw4 (zxn _ _) ⋯
 have s9:=s7.trans (Zj (o:=.lst (fs.map V.int)) flf);have q9:=Ze (H:=H8) (a:=lf) (o:=.lst (fs.map V.int));show Vp 14 (V.ref lf) _ (upd H8 lf (.lst (fs.map V.int))) _;generalize upd H8 lf (.lst (fs.map V.int))=H9 at s9 q9 ⊢;walk_at "if";refine Yk (zaj (b:=decide (V.int kd=V.int 3) && !fs.isEmpty) (C5 (Qk fun Q q=>⟨_,rfl,rfl,_,rfl,q⟩) fun H10 s10=>Js rfl (s10 _ _ q9)) fun H10 s10=>itB (fun hb=>?_) fun _=>Zu ?_)
 ·rw[zx6] at hb;have hne:fs.length≠0:=by have:=hb.2;intro z;rw[zyh.mp z] at this;exact absurd this ⋯
  have hpos:(0:Int)<(fs.length:Int):=by omega
  have y0:=zxx R (show (fs.length:Int)≠0 by omega);have y1:=zxp R hpos;have hix:=Wy (xs:=fs) y0 ⋯;have mix:=T1 (ns:=fs) (i:=(R%(fs.length:Int)).toNat) ⋯;generalize fs.getD (R%(fs.length:Int)).toNat 0=n at hix mix;have hcl:(0:Int)<(cs.length:Int):=by omega
  have w0:=zxx (R/360) (show (cs.length:Int)≠0 by omega);have w1:=zxp (R/360) hcl;have hcs:=Wy (xs:=cs) w0 ⋯;have mcs:=T1 (ns:=cs) (i:=(R/360%(cs.length:Int)).toNat) ⋯;generalize cs.getD (R/360%(cs.length:Int)).toNat 0=c at hcs mcs;have s010:=s9.trans s10;refine⟨_,rfl,_,rfl,_,_,rfl,rfl,⟨by omega,by omega⟩,_,rfl,lc,_,rfl,#[t,s010 _ _ PL.clubs],?_⟩;rw[zwo];refine⟨_,_,rfl,rfl,hcl,lc,_,_,_,rfl,rfl,#[F,s010,PL.clubs],hcs,?_⟩;walk_at "if";refine⟨_,rfl,_,rfl,_,rfl,lf,_,rfl,#[t,s10 _ _ q9],?_⟩;rw[zwo];refine⟨_,_,rfl,rfl,hpos,lf,_,_,_,rfl,rfl,#[F,s10,q9],hix,_,rfl,_,_,rfl,rfl,⟨by omega,by omega⟩,_,_,rfl,rfl,⋯,_,_,rfl,rfl,_,rfl,(by show 4<=sizeLine;rw[sizeLine_eq];decide),fun tt ft=>?_⟩;exact h tt (.enrol n (1+R/40%9) c) _ (show upd H10 tt _ tt=_ from Ze) ⟨hno,(hfm n mix).1,(hfm n mix).2,by omega,by omega,mcs⟩ (s010.trans (Zj ft)) (s010.free ft)
 have s010:=s9.trans s10;dsimp only;refine⟨_,rfl,_,rfl,_,rfl,_,rfl,lc,cs,R,most,mixed,rfl,s010 _ _ PL.clubs,by omega,by omega,PL.cnd,PL.crng,hm1,hmx,fun lm' ts ms H11 hlm tl hml gm s11 flm=>⟨sz2,fun tt ft=>?_⟩⟩;have s12:=Zj (o:=.tup [.str "draw up",.ref lm']) ft;exact h tt (.draw ms) _ ⟨lm',ts,Ze,s12 _ _ hlm,tl.same s12,s010.free flm⟩ ⟨hno,hml,gm⟩ ((s010.trans s11).trans s12) ((s010.trans s11).free ft)
abbrev X1:Stmt:=top 88
theorem Ju:#[p,["_law_script","_law_crowd","_law_many"],["_law_script","_law_crowd"],X1]:=fnS
@[irreducible] def S7:List Expr:=zfm (zbc (O9 (X3 (Zv X1) 0)))
@[irreducible] def Jv:Pos:=zfn (zbc (O9 (X3 (Zv X1) 0)))
theorem Dq:Zv X1=[.Assign (zhs (X3 (Zv X1) 0)) (.Subscript (.List S7 Jv) (zje (O9 (X3 (Zv X1) 0))) (zjf (O9 (X3 (Zv X1) 0)))) (stP (X3 (Zv X1) 0)),X3 (Zv X1) 1]:=by unfold S7 Jv;kernel_rfl
theorem Dr:Fb S7 [4,3,5,4,6,10,4,8]:=by unfold S7;exact⟨by kernel_rfl,by kernel_rfl⟩
theorem zbt(F:#[i,"_law_pool","_law_pool",X1])(T:#[k])(zoh:Z2 P w K mg base "_law_at" 1 ["_law_script","_law_k"] (zcg K))(zr3:Z2 P w K mg base "_law_clubs" 1 ["_law_cell_here","_law_many"] zdm)(zrj:Z2 P w K mg base "_law_numbers" 1 ["_law_cell_here","_law_many"] Gk):FnOk P w K mg base #[f] 2 f fd ["_law_script","_law_crowd"] (za8 K):=by
 refine #[n,Ju];obtain⟨b,ns,cr,rfl,hS,hc1,hc2,h⟩:=h;rw[Dq];refine⟨_,(Zb (pS 2 Ju.nd (pI (iL K) (Z6 (O5 [4,3,5,4,6,10,4,8] Dr)) (Zt Y2 (Zt Xj (pF zoh hr (Za (pv 0) (Za Zf Zc))) Zf) Zf)))
 (Zd (Zl (Yc (Za (pF zr3 hr (Za (pF zoh hr (Za (pv 0) (Za Zf Zc))) (Za (pv 2) Zc))) (Za (pF zrj hr (Za (pF zoh hr (Za (pv 0) (Za Zf Zc))) (Za (pv 1) Zc))) Zc)))))),?_⟩
 refine zlh [4,3,5,4,6,10,4,8] ⋯ fun l H1 q1 s1 fl=>?_;have h0:=zxx (Xe ns 0/4) (show (8:Int)≠0 by decide);have h1:=zxp (Xe ns 0/4) (show (0:Int)<8 by decide);refine⟨_,rfl,b,ns,0,rfl,s1.seq hS,_,_,rfl,rfl,⟨by decide,by decide⟩,_,_,rfl,rfl,(show (0:Int)<8 by decide),l,_,_,_,rfl,rfl,SqL.of q1,Wy (xs:=[4,3,5,4,6,10,4,8]) h0 (by show _<((8:Nat):Int);omega),?_⟩;obtain⟨m,hm,hm1,hm2⟩:∃ m:Nat,([4,3,5,4,6,10,4,8]:List Int).getD (Xe ns 0/4%8).toNat 0=m/\3<=m/\m<=10:=by
  have hk:(Xe ns 0/4%8).toNat<8:=by omega
  generalize (Xe ns 0/4%8).toNat=k at hk
  match k,hk with
  | 0,_=>exact⟨4,rfl,by decide,by decide⟩
  | 1,_=>exact⟨3,rfl,by decide,by decide⟩
  | 2,_=>exact⟨5,rfl,by decide,by decide⟩
  | 3,_=>exact⟨4,rfl,by decide,by decide⟩
  | 4,_=>exact⟨6,rfl,by decide,by decide⟩
  | 5,_=>exact⟨10,rfl,by decide,by decide⟩
  | 6,_=>exact⟨4,rfl,by decide,by decide⟩
  | 7,_=>exact⟨8,rfl,by decide,by decide⟩
 rw[hm];refine⟨_,rfl,b,ns,3,rfl,s1.seq hS,_,rfl,_,m,rfl,by omega,fun lc H2 hlc s2 f2=>?_⟩;refine⟨_,rfl,b,ns,2,rfl,(s1.trans s2).seq hS,_,rfl,_,cr,rfl,by omega,fun ln H3 hln s3 f3=>?_⟩;refine⟨sz2,fun t ht=>?_⟩;have s4:=Zj (o:=.tup [.ref lc,.ref ln]) ht;have s13:=s1.trans (s2.trans s3);refine h t lc ln _ _ _ ⟨Ze,s4 _ _ (s3 _ _ hlc),s4 _ _ hln,by rw[E1];exact⟨hm1,hm2⟩,zba _ hm2,zfk _ _,by rw[Lb];exact⟨hc1,hc2⟩,zbb _ ⋯,zfl _ _⟩ (Lb _ _) (s13.trans s4) (s13.free ht) (s1.free f2) ((s1.trans s2).free f3)
abbrev Yd:Stmt:=top 89
theorem Y5:#[p,["_law_script","_law_pool_here","_law_clubs_here","_law_numbers_here","_law_many","_law_grades","_law_rest_here","_law_deeds","_law_k"],["_law_script","_law_pool_here"],Yd]:=fnS
@[irreducible] def U9:List Expr:=zfm (O9 (X3 (Zv Yd) 3))
@[irreducible] def Nn:Pos:=zfn (O9 (X3 (Zv Yd) 3))
theorem Iw:Zv Yd=[X3 (Zv Yd) 0,X3 (Zv Yd) 1,X3 (Zv Yd) 2,.Assign (zhs (X3 (Zv Yd) 3)) (.List U9 Nn) (stP (X3 (Zv Yd) 3)),X3 (Zv Yd) 4,X3 (Zv Yd) 5,X3 (Zv Yd) 6,X3 (Zv Yd) 7]:=by unfold U9 Nn;kernel_rfl
theorem Iy:Fb U9 [1,2,3,4,5,6,7,8,9,9,9,9,9,8,8,7,6,5]:=by unfold U9;exact⟨by kernel_rfl,by kernel_rfl⟩
theorem Du(F:#[i,"_law_people","_law_people",Yd])(T:#[k])(zoh:Z2 P w K mg base "_law_at" 1 ["_law_script","_law_k"] (zcg K))(zpi:Z2 P w K mg base "_law_mix" 1 ["_law_cell_here","_law_k"] zdl):FnOk P w K mg base #[f] 2 f fd ["_law_script","_law_pool_here"] (Fi K):=by
 refine #[n,Y5];obtain⟨b,t,lc,ln,ns,cs,nu,rfl,hS,PA,h⟩:=h;rw[Iw];refine⟨_,(Zb (Qg (pv 1) (Wb (K:=K) (n:=2) rfl rfl (Z0 (pN 2 Y5.nd) (Z0 (pN 3 Y5.nd) X9))))
 (Zb (pS 4 Y5.nd (Zt Y2 (pF zoh hr (Za (pv 0) (Za Zf Zc))) (Zt Yy (Zk (cL K) (by rfl) T.zoa PySem.boot_len (Za (pv 3) Zc)) Zf)))
 (Zb (Zy (Zo Xv (Zt Y2 (Zt Xj (pF zoh hr (Za (pv 0) (Za Zf Zc))) (Zt Yy (Zk (cL K) (by rfl) T.zoa PySem.boot_len (Za (pv 3) Zc)) Zf)) Zf) Zf (Zq _))
  (Zd (pS 4 Y5.nd (Zt Py (Zk (cL K) (by rfl) T.zoa PySem.boot_len (Za (pv 3) Zc)) (Zt Y2 (pv 4) Zf))))
  Zp)
 (Zb (pS 5 Y5.nd (Z6 (O5 [1,2,3,4,5,6,7,8,9,9,9,9,9,8,8,7,6,5] Iy)))
 (Zb (pS 6 Y5.nd (pF zoh hr (Za (pv 0) (Za Zf Zc))))
 (Zb (pS 7 Y5.nd (Z6 Zc))
 (Zb (Yi PassesOwn.leaving rfl (Yw rfl T.zoq (Za (pv 4) Zc)) (pN 8 Y5.nd)
  (Zb (Yu (pv 7) (Yc (Za Zr (Za (pI (iL K) (pv 3) (pv 8)) (Za (pI (iL K) (pv 5) (Zt Y2 (pv 6) Zf)) (Za (pI (iL K) (pv 2) (Zt Y2 (Zt Xj (pv 6) Zf) (Zk (cL K) (by rfl) T.zoa PySem.boot_len (Za (pv 2) Zc)))) Zc))))))
  (Zd (pS 6 Y5.nd (pI (iL K) (Z6 (Za (Zt Xj (Zt Xj (pv 6) Zf) (Zk (cL K) (by rfl) T.zoa PySem.boot_len (Za (pv 2) Zc))) (Za (pF zpi hr (Za (pv 6) (Za (pv 8) Zc))) Zc))) (Zt Y2 (pF zoh hr (Za (pv 0) (Za Zf Zc))) Zf))))))
 (Zd (Zl (pv 7)))))))))),?_⟩
 show let y1:TS:=_;let y2:TS:=Zw _ y1;let y3:TS:=Zw _ y2;let y4:TS:=Zw _ y3;let y5:TS:=Zw _ y4;let y6:TS:=Zw _ y5;let y7:TS:=Zw _ y6;Zw _ y7 _ _ _;intro y1 y2 y3 y4 y5 y6 y7;have sz0:([]:List V).length<=sizeLine:=zxj _;have hw:(0:Int)<(nu.length:Int)+1:=by omega
 obtain⟨c1,c2⟩:=PA.few;obtain⟨n1,n2⟩:=PA.nfew;refine⟨_,rfl,t,_,rfl,SqT.of PA.tup,rfl,_,_,rfl,_,_,rfl,rfl,?_⟩;walk_at "if";refine⟨_,rfl,b,ns,4,rfl,hS,_,rfl,ln,_,rfl,#[t,PA.nums],_,_,rfl,rfl,?_⟩;rw[zwo];refine⟨_,_,rfl,rfl,hw,?_⟩;walk_at "if";have u0:=zxx (Xe ns 4) (show (nu.length:Int)+1≠0 by omega);have u1:=zxp (Xe ns 4) hw
 let jv13:L2.St->Hp->Prop:=fun σ' H'=>H'=H/\∃ m:Nat,σ'=[#[c,b],#[c,t],#[c,lc],#[c,ln],#[e,m],none,none,none,none]/\m<=nu.length
 refine zae (b:=decide (V.int (Xe ns 4/((nu.length:Int)+1)%2)=V.int 1)) jv13 (fun Q q=>?_) (fun _ N hN=>?_) (fun _ N hN=>?_) ?_
 ·refine⟨_,rfl,b,ns,4,rfl,hS,_,rfl,ln,_,rfl,#[t,PA.nums],_,_,rfl,rfl,?_⟩;rw[zwo];exact⟨_,_,rfl,rfl,⟨hw,by omega⟩,_,_,rfl,rfl,by omega,rfl,_,rfl,q⟩
 ·refine#[Y,_,ln,_,#[t,PA.nums],?_];rw[zwo];refine⟨_,rfl,_,_,rfl,rfl,by omega,_,_,rfl,rfl,hN _ _ ⟨rfl,((nu.length:Int)-Xe ns 4%((nu.length:Int)+1)%2).toNat,?_,by omega⟩⟩;rw[zyr ⋯];rfl
 ·refine Zu (hN _ _ ⟨rfl,(Xe ns 4%((nu.length:Int)+1)).toNat,?_,by omega⟩);rw[zyr ⋯];rfl
 rintro σ H' ⟨rfl,m,rfl,hm⟩;refine zbe [1,2,3,4,5,6,7,8,9,9,9,9,9,8,8,7,6,5] ⋯ fun lg H2 hg s2 fg=>?_;refine⟨_,rfl,b,ns,5,rfl,s2.seq hS,sz0,fun r fr=>?_⟩;have s1:=s2.trans (Zj (o:=.lst []) fr);have q1:=Ze (H:=H2) (a:=r) (o:=.lst []);have hg1:=Zj (o:=.lst []) fr _ _ hg;walk_at "if";generalize upd H2 r (.lst [])=H1 at s1 q1 hg1 ⊢;have fr0:=s2.free fr;have frg:lg≠r:=Zg hg fr
 let jv14:Nat->L2.St->Hp->Prop:=fun i σ H3=>(∃ v8 R,σ=[some (.ref b),some (.ref t),some (.ref lc),some (.ref ln),some (.int m),some (.ref lg),some (.int R),some (.ref r),v8])/\(∀ x o,H1 x=some o->x≠r->H3 x=some o)/\∃ ts es,H3 r=#[r,ts]/\Z7 H3 ts ((es:List P3).map enV)/\es.length=i/\es.map (·.1)=nu.take i/\(∀ x∈es,1<=x.2.1/\x.2.1<=9/\x.2.2∈cs)
 refine⟨_,rfl,_,rfl,by omega,by omega,Xb jv14
  ⟨⟨_,_,rfl⟩,fun _ _ e _=>e,[],[],q1,.nil,rfl,rfl,(fun m z=>nomatch z)⟩ ?_ ?_⟩
 ·rintro i σ H3 hi ⟨⟨v8,R,rfl⟩,k,ts,es,hr',tl,hml,enu,eok⟩;rw[zw3] at hi;rw[zxz];have s3:Same H' H3:=fun x o e=>k _ _ (s1 _ _ e) (Zg e fr0);have hg3:=k _ _ hg1 frg;have PA3:=PA.same s3;have hcl:(0:Int)<(cs.length:Int):=by omega
  have w0:=zxx R (show (18:Int)≠0 by omega);have w1:=zxp R (show (0:Int)<18 by omega);have y0:=zxx (R/18) (show (cs.length:Int)≠0 by omega);have y1:=zxp (R/18) hcl;have hgr:=Wy (xs:=B7) w0 (by show _<((18:Nat):Int);omega);have rgr:=zcv (R%18).toNat ⋯;generalize hgv:B7.getD (R%18).toNat 0=gv at hgr rgr;have hcs:=Wy (xs:=cs) y0 ⋯;have mcs:=T1 (ns:=cs) (i:=(R/18%(cs.length:Int)).toNat) ⋯;generalize cs.getD (R/18%(cs.length:Int)).toNat 0=c at hcs mcs;have hni:i<nu.length:=by omega
  have hnu:nu[i]?=some (nu[i]'hni):=zwp hni;have etk:nu.take (i+1)=nu.take i++[nu[i]'hni]:=zw8 hni;generalize nu[i]'hni=n at hnu etk;walk_at "if";refine#[Y,_,r,_,hr',?_];refine⟨_,rfl,_,rfl,ln,_,_,_,rfl,rfl,SqL.of PA3.nums,Zz (by rw[zws,hnu];rfl),_,rfl,_,rfl,_,_,rfl,rfl,⋯,lg,_,_,_,rfl,rfl,SqL.of hg3,hgr,?_⟩;refine⟨_,rfl,_,rfl,_,_,rfl,rfl,⟨by omega,by omega⟩,_,rfl,lc,_,rfl,#[t,PA3.clubs],?_⟩;rw[zwo];refine⟨_,_,rfl,rfl,hcl,lc,_,_,_,rfl,rfl,SqL.of PA3.clubs,hcs,(by show 4<=sizeLine;rw[sizeLine_eq];decide),fun tt ft=>?_⟩;refine #[z,tt,ft,fun H4 q4 s4=>?_];have tln:=tl.length;rw[zwo] at tln;refine⟨ts,s4 _ _ hr',szN ⋯,?_⟩;have k5:∀ x o,H4 x=#[d]->x≠r->upd H4 r (.lst (ts++[.ref tt])) x=#[d]:=fun x o e n=>by rw[Zh n];exact e
  have q5:=Ze (H:=H4) (a:=r) (o:=.lst (ts++[.ref tt]));have kt5:∀ x ys,H4 x=#[J,ys]->upd H4 r (.lst (ts++[.ref tt])) x=#[J,ys]:=fun x ys e=>k5 _ _ e (Y6 e (s4 _ _ hr') (by intro z;cases z));dsimp only;generalize upd H4 r (.lst (ts++[.ref tt]))=H5 at k5 q5 kt5 ⊢;have s05:Same H' H5:=fun x o e=>k5 _ _ (s4 _ _ (s3 _ _ e)) (Zg e fr0);have PA5:=PA.same s05;obtain⟨mx,hmx,hmx1⟩:∃ mx:Nat,Xe ns 0%2=mx/\mx<=1:=⟨(Xe ns 0%2).toNat,by omega,by omega⟩;obtain⟨z,hz⟩:=at2 (R/18/(cs.length:Int)) (zi3 R (i:Int)) hmx1;refine⟨_,rfl,_,_,rfl,rfl,⟨by omega,by omega⟩,_,rfl,lc,_,rfl,#[t,PA5.clubs],?_⟩;rw[zwo];refine⟨_,_,rfl,rfl,⟨hcl,by omega⟩,_,rfl,_,rfl,_,_,rfl,sz2,fun l2 f2=>?_⟩;refine #[z,l2,f2,fun H6 q6 s6=>?_];refine⟨_,rfl,b,ns,0,rfl,(s05.trans s6).seq hS,_,_,rfl,rfl,⋯,l2,_,_,_,rfl,rfl,SqL.of q6,(by rw[hmx];exact hz),?_⟩;refine⟨#[L,_,_],fun x o e n=>s6 _ _ (k5 _ _ (s4 _ _ (k _ _ e n)) n),ts++[.ref tt],es++[(n,gv,c)],s6 _ _ q5,?_,by rw[zwr,hml];rfl,?_,?_⟩
  ·rw[zwv];exact(tl.mono fun x ys e=>s6 _ _ (kt5 _ _ (s4 _ _ e))).snoc (s6 _ _ (kt5 _ _ q4))
  ·rw[zwv,enu,etk];rfl
  ·intro m hm;rcases zw0.mp hm with hm|hm
   ·exact eok m hm
   ·rw[zwt.mp hm];exact⟨rgr.1,rgr.2,mcs⟩
 ·rintro σ H3 ⟨⟨v8,R,rfl⟩,k,ts,es,hr',tl,hml,enu,eok⟩;rw[zw3] at hml enu;refine#[q,_,h r ts es H3 hr' tl (by rw[hml];exact enu) ⋯ eok (fun x o e=>k _ _ (s1 _ _ e) (Zg e fr0)) fr0]
abbrev Sx:Stmt:=top 90
theorem Tr:#[p,["_law_season","_law_pages","_law_deeds","_law_deed_here"],["_law_season","_law_pages","_law_deeds"],Sx]:=fnS
theorem Iz(F:#[i,"_law_enrolled","_law_enrolled",Sx])(T:#[k])(zrn:Z2 P w K mg base "_law_do" 8 ["_law_season","_law_deed_here"] (zlf K (ca a)))(zps:#[T,P,w,K,"_law_paged",3,["_law_pages","_law_deed_here"],B5]):FnOk P w K mg base #[f] 9 f fd ["_law_season","_law_pages","_law_deeds"] (Fl K (ca a)):=by
 refine #[n,Tr];obtain⟨mb,A',l,le,ts,es,ds,d,P0,S,nu,n,rfl,SA,hl,hlo,F,hle,hlf,tl,nd,eok,hp30,hn90,hcur,hlen,h⟩:=h;refine⟨_,(Zb (Yi PassesOwn.leaving rfl (Z8 (K:=K) rfl (pv 2)) (pN 3 Tr.nd)
  (Zb (Ya (pF zrn hr (Za (pv 0) (Za (pv 3) Zc))))
  (Zd (pS 1 Tr.nd (pF zps hr (Za (pv 1) (Za (pv 3) Zc)))))))
 (Zd (Zl (pv 1)))),?_⟩
 have tln:=tl.length;rw[zwo] at tln
 let jv15:Nat->L2.St->Hp->Prop:=fun i σ H1=>∃ A1 l1 ds1 d1 P1 S1 v,σ=[#[c,A'.p],#[c,l1],#[c,le],v]/\Z1 (ca a) H1 A1 S1/\H1 l1=#[I,(ds1++[d1]).map,V.ref]/\l1∉A1.fp/\Ut mb (·∉A1.fp) H1 nu (n+i) ds1 d1 P1 S1/\FrN A' A1 H H1/\S1.cur=none/\S1.led=S.led/\S1.len=S.len/\S1.ppl=S.ppl++es.take i
 refine⟨_,rfl,le,rfl,⟨_,SqL.of hle⟩,Xd (K:=K) (a:=le) (xs:=ts) jv15
  ⟨A',l,ds,d,P0,S,_,rfl,SA,hl,hlo,F,.refl _ _,hcur,rfl,rfl,by simp⟩ (by rintro i σ H1 _ ⟨A1,_,_,_,_,_,_,_,_,_,_,_,f,_⟩;exact SqL.of (f.k _ _ hle hlf).1) ?_ ?_⟩
 ·rintro i x σ H1 hx ⟨A1,l1,ds1,d1,P1,S1,v,rfl,SA1,hl1,ho1,F1,f1,e1,e2,e3,e4⟩;have hi:i<ts.length:=(zwq.mp hx).1;have hie:i<es.length:=by omega
  have hex:es[i]?=some (es[i]'hie):=zwp hie;have etk:=Xx hex;have hmem:es[i]'hie∈es:=zxd hie;obtain⟨t,ht1,ht2⟩:∃ t,x=.ref t/\H t=some (.tup (enV (es[i]'hie))):=by
   obtain⟨t,r,z1,z2,z3⟩:=tl.get hx;rw[zws,hex] at z2;cases z2;exact⟨t,z1,z3⟩
  have hfr:(es[i]'hie).1∉(es.take i).map (·.1):=fun z=>by
   obtain⟨y,hy,ey⟩:=zwx.mp z;obtain⟨j,hj,rfl⟩:=zxq hy;rw[zy0] at hj;rw[List.getElem_take] at ey;have h1:(es.map (·.1))[j]'(by rw[zwo];omega)=(es.map (·.1))[i]'(by rw[zwo];omega):=by rw[List.getElem_map,List.getElem_map];exact ey
   have:=(List.getElem_inj nd).mp h1;omega
  have hok:=eok _ hmem;generalize es[i]'hie=x0 at hex etk hmem ht2 hfr hok;obtain⟨k,gr,c⟩:=x0;subst ht1;have hD:W0 (·∉A1.fp) H1 t (.enrol k gr c):=f1.kt _ _ ht2;have g:Jo S1 (.enrol k gr c):=by
   refine⟨by rw[e2,e3];exact hlen,e1,hok.2.1,?_,?_⟩
   ·rw[e4,zwv];intro z;rcases zw0.mp z with z|z
    ·exact hok.2.2 z
    ·exact hfr z
   ·rw[e4,zwr,zy0];omega
  obtain⟨b1,b2,b3,b4,b5,b6,b7,b8,b9,b10⟩:=F1.pre g ⋯;refine⟨_,rfl,_,rfl,A1,S1,t,_,(by rw[f1.p];rfl),SA1,hD,g,b1,b2,b3,b4,b5,b6,b7,b8,b9,b10,fun v' A2 S2 H2 af SA2 nx fr _=>?_⟩;have f12:=FrN.next SA1 nx fr;obtain⟨c1,c2,c3,c4,c5⟩:=F1.pre2 g ⋯
  refine⟨_,rfl,_,rfl,(·∉A2.fp),l1,t,ds1,d1,P1,.enrol k gr c,rfl,(f12.k _ _ hl1 ho1).1,F1.pg.fr f12,hD.fr f12,c1,c2,c3,c4,c5,fun l3 d3 H3 hl3 pg s3 fl3 fd3=>?_⟩;obtain⟨ds2,d2,P2,ek,Pe,eP,_⟩:=turn F1 SA1 af SA2 nx fr g (fun k' gr' c' z=>by cases z;exact hok.1) pg s3 fd3;cases af with
  | enrol k gr c =>
    rw[ek] at hl3;refine⟨A2,l3,ds2,d2,P2,_,_,rfl,SA2.same s3,hl3,SA2.newOk _ fl3,Pe.full (fun s hs=>?_) fun z=>?_,f1.trans (f12.trans (.of s3)),e1,e2,e3,?_⟩
    ·have hs:S1.cur=some s:=hs;rw[e1] at hs;cases hs
    ·rw[eP nofun];show P1.mv=_;rw[F1.re.mv z,Me e1];exact(Me e1).symm
    ·show S1.ppl++[(k,gr,c)]=_;rw[e4,etk,zxw]
 ·rintro σ H1 ⟨A1,l1,ds1,d1,P1,S1,v,rfl,SA1,hl1,ho1,F1,f1,e1,e2,e3,e4⟩;rw[tln] at F1;exact#[q,_,h A1 l1 ds1 d1 P1 S1 H1 SA1 hl1 ho1 F1 f1 e1 e2 e3]
abbrev Wx:Stmt:=top 91
theorem zbu:#[p,["_law_script"],["_law_script"],Wx]:=fnS
@[irreducible] def S8:List Expr:=zfm (zbc (zjd (X3 (Zv Wx) 0)))
@[irreducible] def Jw:Pos:=zfn (zbc (zjd (X3 (Zv Wx) 0)))
theorem Dv:Zv Wx=[.Return (some (.Subscript (.List S8 Jw) (zje (zjd (X3 (Zv Wx) 0))) (zjf (zjd (X3 (Zv Wx) 0))))) (stP (X3 (Zv Wx) 0))]:=by unfold S8 Jw;kernel_rfl
theorem Dw:Fb S8 [0,1,2,3,4,5,6,7,8,9,10,0,0,0,1,1,1,2,2,0,1,3]:=by unfold S8;exact⟨by kernel_rfl,by kernel_rfl⟩
theorem zbv(F:#[i,"_law_rest","_law_rest",Wx])(T:#[k])(zoh:Z2 P w K mg base "_law_at" 1 ["_law_script","_law_k"] (zcg K)):FnOk P w K mg base #[f] 2 f fd ["_law_script"] (za6 K):=by
 refine #[n,zbu];obtain⟨b,ns,rfl,hS,h⟩:=h;rw[Dv];refine⟨_,Zd (Zl (pI (iL K) (Z6 (O5 [0,1,2,3,4,5,6,7,8,9,10,0,0,0,1,1,1,2,2,0,1,3] Dw)) (Zt Y2 (pF zoh hr (Za (pv 0) (Za Zf Zc))) Zf))),?_⟩;refine zlg Jn ⋯ fun l H1 q1 s1 fl=>?_;have h0:=zxx (Xe ns 1) (show (22:Int)≠0 by decide);have h1:=zxp (Xe ns 1) (show (0:Int)<22 by decide);have hat:=Wy (xs:=Jn) h0 (show _<((22:Nat):Int) by omega);have hb:0<=Jn.getD (Xe ns 1%22).toNat 0/\Jn.getD (Xe ns 1%22).toNat 0<=10:=by
  generalize (Xe ns 1%22).toNat=k;rw[zxb];cases e:Jn[k]? with
  | none=>exact⟨by decide,by decide⟩
  | some x =>
    have hm:=zww e;have:∀ x∈Jn,0<=x/\x<=10:=by decide
    exact this x hm
 have hfin:=h (Jn.getD (Xe ns 1%22).toNat 0).toNat H1 rfl ⋯ s1;rw[zyr hb.1] at hfin;exact⟨_,rfl,b,ns,1,rfl,s1.seq hS,_,_,rfl,rfl,(show (0:Int)<22 by decide),l,_,_,_,rfl,rfl,SqL.of q1,hat,hfin⟩
abbrev Pd:Stmt:=top 92
theorem Dz:#[p,["_law_script"],["_law_script"],Pd]:=fnS
theorem D1(F:#[i,"_law_rounds","_law_rounds",Pd])(T:#[k])(zoh:Z2 P w K mg base "_law_at" 1 ["_law_script","_law_k"] (zcg K)):FnOk P w K mg base #[f] 2 f fd ["_law_script"] (G8 K):=by
 refine #[n,Dz];obtain⟨b,ns,rfl,hS,h⟩:=h;refine⟨_,Zd (Zl (pI (iL K) (Z6 (Za Zf (Za (Zt Yy Zf (Zt Y2 (Zt Xj (pF zoh hr (Za (pv 0) (Za Zf Zc))) Zf) Zf)) Zc))) (Zt Y2 (Zt Xj (pF zoh hr (Za (pv 0) (Za Zf Zc))) Zf) Zf))),?_⟩;refine⟨_,rfl,b,ns,1,rfl,hS,?_⟩;refine⟨_,_,rfl,rfl,⟨by decide,by decide⟩,_,_,rfl,rfl,(show (0:Int)<60 by decide),_,_,rfl,rfl,sz2,fun l hl=>?_⟩;have s1:=Zj (o:=.lst [V.int 60,V.int (1+Xe ns 1/22%60)]) hl;have q1:upd H l (.lst [V.int 60,V.int (1+Xe ns 1/22%60)]) l=#[b,.lst,[V.int 60,V.int (1+Xe ns 1/22%60)]]:=Ze;refine⟨_,rfl,b,ns,0,rfl,s1.seq hS,_,_,rfl,rfl,⟨by decide,by decide⟩,_,_,rfl,rfl,(show (0:Int)<2 by decide),?_⟩;have h01:Xe ns 0/2%2=0\/Xe ns 0/2%2=1:=by omega
 have hat:atI [V.int 60,V.int (1+Xe ns 1/22%60)] (Xe ns 0/2%2)=#[e,(((Oe ns).toNat:Nat):Int)]/\1<=(Oe ns).toNat/\(Oe ns).toNat<=60:=by
  unfold Oe;rcases h01 with e|e
  ·rw[e,#[P]];exact⟨rfl,by decide,by decide⟩
  ·rw[e,if_neg ⋯,zyr ⋯];exact⟨rfl,by omega,by omega⟩
 exact⟨l,_,_,_,rfl,rfl,SqL.of q1,hat.1,h _ _ rfl hat.2.1 hat.2.2 s1⟩
abbrev Mx:Stmt:=top 93
theorem zbw:#[p,["_law_script","_law_k"],["_law_script","_law_k"],Mx]:=fnS
theorem zbx(F:#[i,"_law_cell","_law_cell",Mx])(T:#[k])(zoh:Z2 P w K mg base "_law_at" 1 ["_law_script","_law_k"] (zcg K))(zpi:Z2 P w K mg base "_law_mix" 1 ["_law_cell_here","_law_k"] zdl):FnOk P w K mg base #[f] 2 f fd ["_law_script","_law_k"] (za7 K):=by
 refine #[n,zbw];obtain⟨b,ns,k,rfl,hS,hk,h⟩:=h;refine⟨_,(Zb (Zy (Zo Xv (Zt Y2 (pF zoh hr (Za (pv 0) (Za Zf Zc))) Zf) Zf (Zq _))
  (Zd (Zl (pF zpi hr (Za (pI (iL K) (pv 0) (pv 1)) (Za (pv 1) Zc)))))
  Zp)
 (Zd (Zl (pI (iL K) (pv 0) (pv 1))))),?_⟩
 have hk':(ns.map V.int)[k]?=#[e,ns[k]'hk]:=by rw[zws,zwp hk];rfl
 refine⟨_,rfl,b,ns,0,rfl,hS,_,_,rfl,rfl,(show (0:Int)<2 by decide),rfl,_,rfl,?_⟩;refine itB (fun _=>?_) fun _=>?_
 ·exact⟨_,rfl,_,rfl,b,_,_,_,rfl,rfl,hS,Zz hk',_,rfl,_,_,rfl,h _ H (Same.refl _)⟩
 ·exact⟨_,rfl,_,rfl,b,_,_,_,rfl,rfl,hS,Zz hk',h _ H (Same.refl _)⟩
abbrev Ts:Stmt:=top 94
theorem Xh:#[p,["_law_found","_law_page","_law_k","_law_listed","_law_goes","_law_moves","_law_may","_law_due"],["_law_found","_law_page"],Ts]:=fnS
theorem Ja(F:#[i,"_law_facts_are","_law_facts_are",Ts])(T:#[k])(zqw:Z2 P w K mg base "_law_rows_are" 4 #[af] (Cj K)):FnOk P w K mg base #[f] 5 f fd ["_law_found","_law_page"] (Mf K):=by
 refine #[n,Xh];obtain⟨ok,l,d,ls,P0,rfl,hl,PA,PO,rl,h⟩:=h;have hu:=Xy hr;refine⟨_,(Zb (Zy #[aE,Zk,Xr,pv,0,Za,W3,_,Zc,Xu (Zo P5 #[ag,Zk,cL K,T.zoa,Za (pv 0) Zc] #[ag,Zk,cL K,T.zoa,Za (pD hu (pv 1) Zr) Zc] (Zq _))]
  (Zd (Zl Yr))
  Zp)
 (Zb (Yi PassesOwn.leaving rfl (Yw rfl T.zoq (Za (Zk (cL K) (by rfl) T.zoa PySem.boot_len (Za (pv 0) Zc)) Zc)) (pN 2 Xh.nd)
  (Zb (Qg (pI (iL K) (pD hu (pv 1) Zr) (pv 2)) (Wb (K:=K) (n:=4) rfl rfl (Z0 (pN 3 Xh.nd) (Z0 (pN 4 Xh.nd) (Z0 (pN 5 Xh.nd) (Z0 (pN 6 Xh.nd) X9))))))
  (Zb (Td (i:=7) Xh.nd rfl rfl rfl (cT ["_law_goes","_law_listed"] [4,3]) (Yw rfl T.zoq (Za (Zk (cL K) (by rfl) T.zoa PySem.boot_len (Za (pv 3) Zc)) Zc)) (fun _ _ _ _ _=>Vg) (fun _ _ _ _ _=>(Yc (Za (pI (iU K) (pI (iL K) (pv 2) (pv 0)) Zf) (Za (pI (iU K) (pI (iL K) (pv 2) (pv 0)) Zf) (Za (pI (iU K) (pI (iL K) (pv 2) (pv 0)) Zf) (Za (pI (iL K) (pv 1) (pv 0)) Zc)))))))
  (Zd (Zy (Yt (Yo (pF zqw hr (Za (pI (iL K) (pv 0) (pv 2)) (Za (pv 7) Zc)))))
   (Zd (Zl Yr))
   Zp)))))
 (Zd (Zl Yr)))),?_⟩
 obtain⟨lp,lo,lv,dv,li,lg,lm,a1,PB,okd⟩:=id PA.split;obtain⟨vts,u1,u2,u3⟩:=PB.vv;have hvl:=u2.length;have hll:=rl.length;rw[zwo] at hll;have hz:=PO.1;refine⟨_,rfl,_,_,_,_,rfl,.of (.lst hl),#[M,_,rfl],N2 K,_,rfl,?_⟩;refine iteF ?_;refine⟨_,rfl,l,_,rfl,#[t,hl],_,rfl,d,_,rfl,DGet.k (k:=.inr "over") a1,lv,vts,rfl,#[t,u1],rfl,_,rfl,?_⟩;rw[show (ls.map V.ref).length=vts.length by rw[zwo];omega,zwu rfl];refine #[V];dsimp only
 let jv16:Nat->L2.St->Hp->Prop:=fun i σ H'=>(∃ v2 v3 v4 v5 v6 v7,σ=[some (.ref l),some (.ref d),v2,v3,v4,v5,v6,v7])/\#[j]
 refine⟨_,rfl,l,_,rfl,#[t,hl],_,rfl,by omega,by rw[zwo];omega,Xb jv16 ⟨⟨_,_,_,_,_,_,rfl⟩,Same.refl _⟩ ?_ ?_⟩
 ·rintro i σ H1 hi ⟨⟨v2,v3,v4,v5,v6,v7,rfl⟩,s1⟩;rw[zw3,zwo] at hi;rw[zxz];have hiv:i<vts.length:=by omega
  obtain⟨t,l1,g1,m1,y1,ts,s,ex,hs,ht,hl1,tl1,hg1,_,_⟩:=u2.get (zwp hiv);have hvt:vts[i]?=#[c,t]:=by rw[zwp hiv,ex]
  obtain⟨lr,trs,w1,w2,w3⟩:=rl.getR (i:=i) (rs:=Z9 s) (by rw[zws,hs];rfl);obtain⟨p1,p2,p3⟩:=PO.2.2 s (zww hs);have tln:ts.length=s.ms.length:=by rw[tl1.length,zwo]
  have rln:(Z9 s).length=s.ms.length:=by unfold Z9;rw[zy2,p2,Nat.min_self]
  walk_at "if";refine⟨_,rfl,d,_,rfl,DGet.k (k:=.inr "over") (s1 _ _ a1),_,rfl,lv,_,_,_,rfl,rfl,#[F,s1,u1],Zz hvt,t,_,rfl,SqT.of (s1 _ _ ht),rfl,_,_,rfl,_,_,rfl,_,_,rfl,_,_,rfl,rfl,?_⟩;walk_at "if";refine⟨_,rfl,l1,ts,rfl,#[t,s1 _ _ hl1],_,rfl,by omega,by omega,?_⟩;rw[zw3];refine Ny (fun j ys H'=>Same H1 H'/\Z7 H' ys (((Z9 s).take j).map row4)/\ys.length=j) #[L,Same.refl _,.nil] (szN ⋯) (fun j ys H' ⟨_,_,e⟩=>by omega) (fun j ys H' hj p=>?_) fun ys H' p l' hl'=>?_
  ·obtain⟨s2,tl2,hyl⟩:=p;have s02:=s1.trans s2;rw[zxz];have hj2:j<s.gv.length:=by omega
   have hgj:s.gv[j]?=some (s.gv[j]'hj2):=zwp hj2;have hone:=p3 _ (zxd hj2);generalize s.gv[j]'hj2=xv at hgj hone;obtain⟨tj,mj,e1,hmj,htj⟩:=Jz tl1 (zwp hj);have htj':ts[j]?=#[c,tj]:=by rw[zwp hj,e1]
   have hr3:(Z9 s)[j]?=some (G0 mj xv):=by unfold Z9;rw[List.getElem?_zipWith,hmj,hgj]
   unfold tYes;dsimp only;rw[#[P]];refine⟨_,rfl,_,rfl,l1,_,_,_,rfl,rfl,#[F,s02,hl1],Zz htj',tj,_,_,_,rfl,rfl,SqT.of (s02 _ _ htj),show atI (pV mj) 0=some _ from rfl,?_⟩;refine⟨_,rfl,_,rfl,l1,_,_,_,rfl,rfl,#[F,s02,hl1],Zz htj',tj,_,_,_,rfl,rfl,SqT.of (s02 _ _ htj),show atI (pV mj) 1=some _ from rfl,?_⟩;refine⟨_,rfl,_,rfl,l1,_,_,_,rfl,rfl,#[F,s02,hl1],Zz htj',tj,_,_,_,rfl,rfl,SqT.of (s02 _ _ htj),show atI (pV mj) 2=some _ from rfl,?_⟩;refine⟨_,rfl,_,rfl,g1,_,_,_,rfl,rfl,#[F,s02,hg1],Zz hgj,(by show 4<=sizeLine;rw[sizeLine_eq];decide),fun t9 f9=>?_⟩;have s9:=Zj (o:=.tup [.int mj.1,.int mj.2.1,.int mj.2.2,xv]) f9;refine⟨s2.trans s9,?_,by rw[zwr,hyl];rfl⟩;rw[Xx hr3,zwv];refine(tl2.same s9).snoc ?_;have er:row4 (G0 mj xv)=[.int mj.1,.int mj.2.1,.int mj.2.2,xv]:=by
    rcases hone with rfl|⟨w,rfl⟩<;>rfl
   rw[er];exact Ze
  ·obtain⟨s2,tl2,hyl⟩:=p;rw[tln,<- rln,zw6] at tl2;have s3:=s2.trans (Zj (o:=.lst ys) hl');have q3:=Ze (H:=H') (a:=l') (o:=.lst ys);have tl3:=tl2.same (Zj (o:=.lst ys) hl');show Vp 7 (V.ref l') _ (upd H' l' (.lst ys)) _;generalize upd H' l' (.lst ys)=H3 at s3 q3 tl3 ⊢;have s03:=s1.trans s3;walk_at "if";refine⟨_,rfl,_,rfl,l,_,_,_,rfl,rfl,#[F,s03,hl],Zz (by rw[zws,w1];rfl),_,rfl,lr,l',trs,ys,(Z9 s).map row4,rfl,s03 _ _ w2,SqL.of q3,w3.same s03,tl3,fun r hr=>?_,by rw[zwo];omega,true,rfl,iteF (Zu ⟨⟨_,_,_,_,_,_,rfl⟩,s03⟩)⟩;obtain⟨q,_,rfl⟩:=zwx.mp hr;refine⟨by show 4<=1000;decide,fun x hx=>?_⟩;simp[row4] at hx;rcases hx with rfl|rfl|rfl|rfl
   ·exact .inr ⟨_,rfl⟩
   ·exact .inr ⟨_,rfl⟩
   ·exact .inr ⟨_,rfl⟩
   ·cases q.w with
    | none=>exact .inl rfl
    | some n=>exact .inr ⟨_,rfl⟩
 ·rintro σ H1 ⟨⟨v2,v3,v4,v5,v6,v7,rfl⟩,s1⟩;exact h H1 s1
abbrev U5:Stmt:=top 95
theorem Ur:#[p,["_law_page","_law_goes","_law_deed_here","_law_told","_law_place","_law_given"],["_law_page","_law_goes","_law_deed_here","_law_told"],U5]:=fnS
theorem L6(F:#[i,"_law_chain_fits","_law_chain_fits",U5])(T:#[k])(zpo:#[T,P,w,K,"_law_chain_is_due",3,#[aC],El])(zo0:#[T,P,w,K,"_law_open",2,["_law_page"],Fg]):FnOk P w K mg base #[f] 4 f fd ["_law_page","_law_goes","_law_deed_here","_law_told"] (Jt K):=by
 refine #[n,Ur];obtain⟨ok,d,lg,t,lt,P0,gs,us,i,n,rfl,PA,PO,hpl,hms,hg,hog,ht,hlt,hcs,h⟩:=h;have hu:=Xy hr;refine⟨_,(Zb (Zy (PW.pt (X8 (Zo Ra (pD hu (pv 0) Zr) Yn (Zq _)) (X8 (Zo P5 (pI (iU K) (pv 2) Zf) (Zt Yy #[ag,Zk,cL K,T.zoa,Za (pD hu (pv 0) Zr) Zc] Zf) (Zq _)) (Xu (Zo (Wg (K:=K) rfl) (pI (iU K) (pv 2) Zf) (pv 1) (by with_unfolding_all rfl))))))
  (Zd (Zl (Wa (Hg (K:=K) rfl hr.units) (pv 3) (Z6 Zc) (Zq _))))
  Zp)
 (Zb (pS 4 Ur.nd (zdg PySem.F.plainAttrs_list PySem.F.slot_list_index PySem.F.type_list_index Gn (pv 1) (Za (pI (iU K) (pv 2) Zf) Zc)))
 (Zb (pS 5 Ur.nd (Yx (Y0 (K:=K) rfl) (by rfl) T.zo3 PyProof.Rows.boot_list (Za (pv 1) Zc)))
 (Zb (Qg Yn (zbz (pv 5) (pv 4) Gg))
 (Zd (Zl (pF zpo hr (Za (pF zo0 hr (Za (pv 0) Zc)) (Za (pv 5) (Za (pv 4) (Za (pv 3) Zc))))))))))),?_⟩
 obtain⟨lp,lo,lv,dv,li,lgg,lm,a1,PB,okd⟩:=id PA.split;obtain⟨vts,u1,u2,u3⟩:=PB.vv;have hvl:(vts.length:Int)+1=(P0.over.length:Int)+1:=by rw[u2.length]
 have hls:#[g,li=V.non]=!P0.lis.isSome:=by rw[<- PB.li.some,Bool.not_not]
 have eqz:∀ {Q0:VK},us=[]->(∀ H',Same H H'->Q0 (.bl true) H')->tOp (rEqD K false) (tVar 3) (tLst tNil) (L2.M0 ["_law_page","_law_goes","_law_deed_here","_law_told","_law_place","_law_given"] [.ref d,.ref lg,.ref t,.ref lt]) H Q0:=fun hu q=>by
  subst hu;refine⟨_,rfl,zxj _,fun l9 f9=>?_⟩;have s9:=Zj (o:=.lst []) f9;refine⟨.lst [],.lst [],.lst (SqL.of (s9 _ _ hlt)) .nil,.lst (SqL.of Ze) .nil,Tt,Tt,?_⟩;rw[#[h,(show ¬ false=true by decide)],M5];exact q _ s9
 by_cases hL:P0.lis=none
 ·refine Yk ?_;refine⟨_,rfl,d,_,rfl,DGet.k (k:=.inr "listed") a1,rfl,_,rfl,?_⟩;rw[hls,hL];refine iteT (iteT ?_);rcases hcs with ⟨_,hu⟩|⟨ms,_,_,_,_,_,c1,_⟩
  ·exact eqz hu h
  ·rw[hL] at c1;cases c1
 obtain⟨hone,hgl⟩:=hog hL;have fl:gs.all Tb=true:=zyb.mpr fun x hx=>by rcases hone x hx with rfl|⟨_,rfl⟩<;>rfl
 have key:=@R4 gs n hone;refine Yk (Y9 (b:=(!P0.lis.isSome)||((!decide (V.int i=V.int ((P0.over.length:Int)+1))) || !inV (.int n) gs)) (Wc (fun Q q=>⟨_,rfl,d,_,rfl,DGet.k (k:=.inr "listed") a1,rfl,_,rfl,by rw[hls];exact q⟩) (Wc (fun Q q=>⟨_,rfl,t,_,_,_,rfl,rfl,SqT.of ht,rfl,_,rfl,d,_,rfl,DGet.k (k:=.inr "over") a1,lv,vts,rfl,#[t,u1],_,_,rfl,rfl,rfl,_,rfl,(show Q (!#[g,V.int i=V.int ((vts.length:Int)+1)]) H by rw[hvl];exact q)⟩) fun Q q=>⟨_,rfl,t,_,_,_,rfl,rfl,SqT.of ht,rfl,_,rfl,lg,gs,rfl,#[t,hg],rfl,fl,_,rfl,q⟩)) ?_);rcases hcs with ⟨hc,rfl⟩|⟨ms,nu,p,e,st,w',c1,c2,c3,MO,FP,hp,tl,CR⟩
 ·have hb:((!P0.lis.isSome)||((!#[g,V.int i=V.int ((P0.over.length:Int)+1)]) || !inV (.int n) gs))=true:=by
   rcases hc with z|z|z
   ·rw[z];rfl
   ·rw[zwz fun q=>z (V.int.inj q)];simp
   ·have:inV (.int n) gs=false:=by
     cases q:inV (.int n) gs with
     | false=>rfl
     | true =>
       obtain⟨j,hj⟩:=key.mp q;rcases Jh gs n with w|⟨_,w,_⟩
       ·exact absurd hj (w.2 j)
       ·rw[z] at w;cases w
    rw[this];simp
  rw[hb];refine iteT ?_;exact eqz rfl h
 ·obtain⟨h1,h2,h3⟩:=List.find?_range_eq_some.mp c3;have hgp:gs[p]?=#[e,n]:=of_decide_eq_true h1;have hplt:=(zwq.mp hgp).1;rw[c1,c2,zwu rfl,key.mpr ⟨p,hgp⟩];refine #[V];dsimp only;refine⟨_,rfl,.inl ⟨rfl,gs,SqL.of hg⟩,_,rfl,t,_,_,_,rfl,rfl,SqT.of ht,rfl,lg,gs,.int n,p,rfl,rfl,hg,rfl,fl,⟨_,hgp,(Qn (.inr ⟨_,rfl⟩)).mpr rfl⟩,fun m z hm hz=>?_,?_⟩
  ·have:=h3 m hm;have hne:¬ z=.int n:=fun q=>by
    rw[q] at hz;rw[zwu hz] at this;cases this
   cases hb2:eqV z (.int n) with
   | false=>rfl
   | true=>exact absurd ((Qn (hone z (zww hz))).mp hb2) hne
  walk_at "if";refine#[Y,_,lg,gs,#[t,hg],fun l5 f5=>?_];refine #[z,l5,f5,fun H5 q5 s5=>?_];walk_at "if";refine⟨_,rfl,_,rfl,l5,_,_,p,rfl,rfl,q5,(show ixN _ ((p:Nat):Int)=some _ by unfold ixN;rw[if_pos ⋯,if_pos ⋯,zw3]),?_⟩;have s6:=Yb (o:=.lst (gs.set p .non)) f5 s5;have q6:=Ze (H:=H5) (a:=l5) (o:=.lst (gs.set p .non));dsimp only;generalize upd H5 l5 (.lst (gs.set p .non))=H6 at s6 q6 ⊢;refine⟨_,rfl,ok,d,P0,ms,rfl,PA.same s6,PO,c1,hms ms c1,hpl,fun lw ls H7 hlw ilw s7 flw _=>?_⟩;have s07:=s6.trans s7;exact⟨_,rfl,_,rfl,_,rfl,lw,l5,lt,ls,_,nu,_,us,p,e,st,w',rfl,hlw,ilw,MO,s7 _ _ q6,FP,hp,s07 _ _ hlt,tl.same s07,CR,fun H' s'=>h H' (s07.trans s')⟩
theorem zll{EE:XK}{σ:L2.St}{H:Hp}{A:SAd}{S:Sea}{s p:Nat}{A1p l d:Addr}{ds:#[x]}{P0:Pg}{mb:Bool}{ok:Addr->Prop}{nu:#[o]}{n:Nat}{R:Bool->Hp->Prop}(hs:σ[s]?=some #[c,A1p])(hp:σ[p]?=some #[c,l])(SA:Z1 (ca a) H A S)(eAp:A.p=A1p)(hl:H l=some (.lst ((ds++[d]).map V.ref)))(F:#[ak,Ut,H,P0])(hn:n<=500)(k:∀ H',Same H H'->R true H') :
  tB (Hv (Qw K) [] EE (Ph (Hw a.zn4 "deeds" (Hk (ca a)) [] EE (tVar s) tNil) (Ph (zdh (zc7 K (tSl (zix K) (tVar p) (zgp (tC (V.int 1))) Bc)) [] tYes (A6 (tVar 0) (tC (V.str "deed")))) tNil))) σ H R:=by
 obtain⟨⟨dx,vv,ob,_⟩,_⟩:=id SA;rw[eAp] at ob;obtain⟨hbk1,hbk2⟩:=F.bk.deeds;rw[zwr] at hbk1;simp only[zw9,zy4] at hbk1;have hsn:=F.so.num.2;refine⟨_,hs,A1p,dx,_,rfl,ob,Yg ⋯,A,S,(by rw[eAp];rfl),SA,by omega,fun lq tq H1 hlq tlq s1 _=>?_⟩;refine⟨_,hp,_,rfl,l,_,rfl,#[F,s1,hl],fun lc flc=>?_⟩;rw[zfz];have s2:=s1.trans (Zj (o:=.lst (((ds++[d]).map V.ref).drop 1)) flc);have q2:upd H1 lc (.lst (((ds++[d]).map V.ref).drop 1)) lc=some (.lst (((ds++[d]).map V.ref).drop 1)):=Ze;have t2:=Zj (o:=.lst (((ds++[d]).map V.ref).drop 1)) flc _ _ hlq
 replace tlq:=tlq.same (Zj (o:=.lst (((ds++[d]).map V.ref).drop 1)) flc)
 generalize upd H1 lc (.lst (((ds++[d]).map V.ref).drop 1))=H2 at s2 q2 t2 tlq ⊢;have hdl:(((ds++[d]).map V.ref).drop 1).length=S.std.length:=by
  rw[zyt,zwo,zwr];simp only[zw9,zy4];omega
 refine⟨lc,rfl,⟨_,SqL.of q2⟩,X5 (K:=K) (a:=lc) (xs:=((ds++[d]).map V.ref).drop 1) (fun i ys H'=>H'=H2/\Z7 H2 ys (((S.std.map (·.1)).take i).map Vj)) ⟨rfl,.nil⟩ (fun i ys H' _ z=>by rw[z.1];exact SqL.of q2) (szN ⋯) (fun i ys H' z=>by rw[z.2.length,zwo];exact zx1 _ _) ?_ ?_⟩
 ·rintro i x ys H' hx ⟨rfl,tl⟩;have hi:i<S.std.length:=by rw[<- hdl];exact(zwq.mp hx).1
  obtain⟨e,Pe,xd,e1,e2,e3,e4⟩:=hbk2 i hi;have ex:x=.ref e:=by
   rw[zy5,Nat.add_comm 1 i,zws,e1] at hx;exact(Option.some.inj hx).symm
  subst ex;obtain⟨lpe,loe,lve,dve,lie,lge,lme,ae1,PBe,_⟩:=(e2.same s2).split;have dd:=PBe.dd;rw[e3] at dd;obtain⟨t,rfl,ht⟩:=dd;unfold tYes;dsimp only;rw[#[P]];refine⟨_,rfl,e,_,rfl,DGet.k (k:=.inr "deed") ae1,rfl,?_⟩;rw[Xx e4,zwv];exact tl.snoc ht
 rintro ys H' ⟨rfl,tl⟩ lz flz;rw[hdl,show (S.std.map (·.1)).take S.std.length=S.std.map (·.1) from List.take_of_length_le (by rw[zwo];exact zw1 _)] at tl;refine⟨lq,lz,tq,ys,S.std.map (·.1),rfl,Zj flz _ _ t2,Ze,?_,tl.same (Zj flz),by rw[zwo];omega,true,rfl,k _ (s2.trans (Zj flz))⟩;rw[zxt];exact tlq.same (Zj flz)
abbrev U6:Stmt:=top 96
theorem We:#[p,["_law_season","_law_page","_law_at_here","_law_may","_law_k","_law_left"],["_law_season","_law_page"],U6]:=fnS
theorem L7(F:#[i,"_law_round_fits","_law_round_fits",U6])(T:#[k])(zo0:#[T,P,w,K,"_law_open",2,["_law_page"],Fg])(zpd:#[T,P,w,K,"_law_left_just_where",2,["_law_may","_law_given"],Ej])(zo6:Z2 P w K mg base "_law_list_is" 3 #[af] (Gm K))(zrm:Zx P w K mg base a.zn4 "goes" 4 ["self","at"] (zhq (ca a)))(zr0:Zx P w K mg base a.zn4 "may" 3 ["self","place"] (zj0 (ca a)))(zpt:#[T,P,w,K,"_law_is_shortage",4,["_law_found","_law_may","_law_left"],Cv])(zrv:Zx P w K mg base a.zn4 "why" 4 ["self","at"] (zjz (ca a))):FnOk P w K mg base #[f] 5 f fd ["_law_season","_law_page"] (Of K (ca a)):=by
 refine #[n,We];obtain⟨mb,A',S,d,P0,sh,nu,n,rfl,SA,PA,R0,so,hn,hcur,h⟩:=h;have hu:=Xy hr;refine⟨_,(Zb (pS 2 We.nd (Zt Yy #[ag,Zk,cL K,T.zoa,Za (pD hu (pv 1) Zr) Zc] Zf))
 (Zb (pS 3 We.nd (pF zo0 hr (Za (pv 1) Zc)))
 (Zb (Zy (Yt (Yo (pF zpd hr (Za (pv 3) (Za (pD hu (pv 1) Zr) Zc)))))
  (Zd (Zl Yr))
  Zp)
 (Zb (Zy (Yt (Yo (pF zo6 hr (Za (Xs (pv 0) T.zn5 zrm (hr.mono ⋯) Zn (Za (pv 2) Zc)) (Za (pD hu (pv 1) Zr) Zc)))))
  (Zd (Zl Yr))
  Zp)
 (Zb (Yi PassesOwn.leaving rfl (Yw rfl T.zoq (Za (Zk (cL K) (by rfl) T.zoa PySem.boot_len (Za (pv 3) Zc)) Zc)) (pN 4 We.nd)
  (Zd (Zy (Yt (Yo (pF zo6 hr (Za (Xs (pv 0) T.zn5 zr0 (hr.mono ⋯) Zn (Za (pv 4) Zc)) (Za (pI (iL K) (pv 3) (pv 4)) Zc)))))
   (Zd (Zl Yr))
   Zp)))
 (Zb (pS 5 We.nd (Zk (cL K) (by rfl) T.zoa PySem.boot_len (Za (Vb rfl (cT [] []) (Z8 (K:=K) rfl (pD hu (pv 1) Zr)) (fun _ _ _ _ _=>Qi (Zo Ra (pv 0) Yn (Zq _))) (fun _ _ _ _ _=>(pv 0))) Zc)))
 (Zd (Zl (pF zpt hr (Za (Xs (pv 0) T.zn5 zrv (hr.mono ⋯) Zn (Za (pv 2) Zc)) (Za (pv 3) (Za (pv 5) Zc)))))))))))),?_⟩
 show let y1:TS:=_;let y2:TS:=Zw _ y1;let y3:TS:=Zw _ y2;let y4:TS:=Zw _ y3;let y5:TS:=Zw _ y4;let y6:TS:=Zw _ y5;Zw _ y6 _ _ _;intro y1 y2 y3 y4 y5 y6;obtain⟨lp,lo,lv,dv,li,lg,lm,a1,PB,okd⟩:=id PA.split;obtain⟨vts,v1,v2,v3⟩:=PB.vv;obtain⟨gg1,gg2⟩:=PB.gg;obtain⟨⟨dx,vv,ob,_⟩,_⟩:=id SA;have RB:=R0.b;obtain⟨k1,k2,k3,k4,k5⟩:=so.cur sh hcur;have hlis:P0.lis=some sh.ms:=by rw[RB.lis,hcur];rfl
 have hgv:=R0.gv sh hcur;rw[hgv] at gg1;have hml:sh.may.length=sh.ms.length:=by rw[k4];unfold mayS;rw[zwo]
 have hgl:sh.gv.length=sh.may.length:=k2.len;have hvl:(vts.length:Int)+1=atV S:=by rw[v2.length];exact RB.at so
 have hlen:=so.len;refine⟨_,rfl,d,_,rfl,DGet.k (k:=.inr "over") a1,lv,vts,rfl,#[t,v1],_,_,rfl,rfl,?_⟩;walk_at "if";rw[hvl];refine⟨_,rfl,(·∉A'.fp),d,P0,sh.ms,rfl,PA,RB.ovok so,hlis,by omega,(by rw[RB.ppl];have:=so.few;omega),fun lw ls H1 hlw ilw s1 flw _=>?_⟩;rw[RB.may so,<- k4] at ilw;walk_at "if";refine Yk ?_;refine⟨_,rfl,_,rfl,d,_,rfl,DGet.k (k:=.inr "goes") (s1 _ _ a1),lw,lg,ls,sh.may,sh.gv,rfl,hlw,ilw,by omega,s1 _ _ gg1,k2,k3,fun H2 s2=>#[q,true,#[V]]⟩;have s12:=s1.trans s2;dsimp only;refine Yk ?_;refine⟨_,rfl,A'.p,dx,_,rfl,s12 _ _ ob,Yg ⋯,_,rfl,A',S,atV S,rfl,SA.same s12,zh5 so hcur fun lq H3 hlq s3 _=>?_⟩;have s13:=s12.trans s3;refine⟨_,rfl,d,_,rfl,DGet.k (k:=.inr "goes") (s13 _ _ a1),lq,lg,sh.gv,rfl,hlq,#[F,s13,gg1],k2.one,by omega,true,rfl,#[V]⟩;dsimp only;have w3:=s3 _ _ (s2 _ _ hlw);have i3:=(ilw.same s2).same s3;have hlsl:ls.length=sh.may.length:=ilw.length
 let jv1:Nat->L2.St->Hp->Prop:=fun i σ H'=>(∃ v,σ=[some (.ref A'.p),some (.ref d),some (.int (atV S)),some (.ref lw),v,none])/\Same H3 H'
 refine⟨_,rfl,lw,_,rfl,#[t,w3],_,rfl,by omega,by rw[zwo];omega,Xb jv1 ⟨#[w,_],Same.refl _⟩ ?_ ?_⟩
 ·rintro i σ H4 hi ⟨⟨v,rfl⟩,s4⟩;rw[zwo,zw3] at hi;rw[zxz];have s14:=s13.trans s4;have him:i<sh.may.length:=by omega
  have hri:sh.may[i]?=some (sh.may[i]'him):=zwp him;generalize sh.may[i]'him=r at hri;obtain⟨lr,hlr,hrl⟩:∃ lr,ls[i]?=some lr/\H3 lr=#[I,r.map,V.int]:=by
   have hli:ls[i]?=some (ls[i]'⋯):=zwp ⋯;obtain⟨r',h1,h2⟩:=i3.getL hli;rw[hri] at h1;cases h1;exact⟨_,hli,h2⟩
  have hr100:r.length<=100:=by
   have:=zww hri;rw[k4] at this;unfold mayS at this;obtain⟨m',_,rfl⟩:=zwx.mp this;unfold G3;rw[zwo];exact zw4 (zxn _ _) (by have:=so.few;omega)
  walk_at "if";refine⟨_,rfl,A'.p,dx,_,rfl,s14 _ _ ob,Yg ⋯,_,rfl,A',S,(i:Int),rfl,SA.same s14,Yv ⋯ ⋯,(fun z=>by rw[hcur] at z;cases z),fun s hs=>?_⟩;rw[hcur] at hs;cases hs;refine⟨hml,fun z=>by omega,fun k r' hk hr' lq2 H5 hlq2 s5 _=>?_⟩;have ek:k=i:=by omega
  subst ek;rw[hri] at hr';cases hr';have s45:=s4.trans s5;have hli2:atI (ls.map V.ref) (k:Int)=#[b,V.ref,lr]:=Zz (by rw[zws,hlr];rfl);refine⟨_,rfl,_,rfl,lw,_,_,_,rfl,rfl,#[F,s45,w3],hli2,lq2,lr,_,rfl,hlq2,#[F,s45,hrl],fun x hx=>?_,by rw[zwo];omega,true,rfl,iteF (Zu ⟨#[w,_],s45⟩)⟩;obtain⟨y,_,rfl⟩:=zwx.mp hx;exact .inr ⟨_,rfl⟩
 rintro σ H4 ⟨⟨v,rfl⟩,s4⟩;have s14:=s13.trans s4;have g4:=s14 _ _ gg1;refine⟨_,rfl,d,_,rfl,DGet.k (k:=.inr "goes") (s14 _ _ a1),lg,rfl,⟨_,SqL.of g4⟩,zac (K:=K) (fun x=>#[g,x=.non]) id (SqL.of g4) (szN ⋯) (fun j x R hx k'=>⟨_,rfl,rfl,_,rfl,k'⟩) (fun j x R hx _ k'=>#[q,_,k']) fun lq flq=>?_⟩;rw[List.map_id];refine #[z,lq,flq,fun H5 q5 SH5=>?_];have s5:=s4.trans SH5;refine⟨lq,_,rfl,#[t,q5],?_⟩;rw[zhi];walk_at "if";have s15:=s13.trans s5;have mo:Uv sh.may (S.ppl.map (·.1)):=by rw[k4];exact so.pok.may so.nd k1
 refine⟨_,rfl,A'.p,dx,_,rfl,s15 _ _ ob,Yg ⋯,_,rfl,A',S,atV S,rfl,SA.same s15,zh5 so hcur ⟨⟨_,mo⟩,k2,zbk k2 k3,fun tw lp9 lr9 ps rs H6 htw hp9 hr9 SP s6 _ _ _ _=>?_⟩⟩;have s36:=s5.trans s6;exact⟨_,rfl,_,rfl,tw,lw,lp9,lr9,ls,sh.may,_,sh.gv,ps,rs,rfl,htw,s36 _ _ w3,i3.same s36,mo,hp9,hr9,SP,fun H7 s7=>h H7 (s13.trans (s36.trans s7))⟩
theorem zeb{E:XK}{DD:Pp}{A1p:Addr}{A3:SAd}{S3:Sea}{nu:#[o]}{n:Nat}{ds7:#[x]}{d7:Addr}{Pz:Pg}{Hz:Hp}{b t l6 t' lg:Addr}{bg mx k6:Int}{v9:V}(SA:Z1 (ca a) Hz A3 S3)(eAp:A3.p=A1p)(F:Ut false (·∉A3.fp) Hz nu n ds7 d7 Pz S3)(hl6:Hz l6=some (.lst ((ds7++[d7]).map V.ref)))(hn:n<=100)
  (hN:∀ H',Same Hz H'->DD.nx [#[c,b],#[e,bg],#[e,mx],#[c,A1p],#[c,t],#[c,l6],#[e,k6],#[c,t'],#[c,lg],some v9,#[c,d7]] H') :
  Zw (L8 (zid (D4 (tOp (fun x y H Q=>y=V.non/\Q (V.bl !#[g,x=V.non]) H) (A6 (tVar 10) (tC (V.str "listed"))) (tC V.non))) (zie (tB (Hv (Of K (ca a)) [] E (Ph (tVar 3) (Ph (tVar 10) tNil)))))) (zef (tC (V.bl false))) Ho)
   (Zw (L8 (zie (tB (Hv (Qw K) [] E (Ph (Hw a.zn4 "deeds" (Hk (ca a)) [] E (tVar 3) tNil) (Ph (zdh (zc7 K (tSl (zix K) (tVar 5) (zgp (tC (V.int 1))) Bc)) [] tYes (A6 (tVar 0) (tC (V.str "deed")))) tNil))))) (zef (tC (V.bl false))) Ho)
    (L8 (zie (tB (Hv (Mf K) [] E (Ph (Hw a.zn4 "facts" (Kt (ca a)) [] E (tVar 3) tNil) (Ph (tVar 10) tNil))))) (zef (tC (V.bl false))) Ho))
   DD [#[c,b],#[e,bg],#[e,mx],#[c,A1p],#[c,t],#[c,l6],#[e,k6],#[c,t'],#[c,lg],some v9,#[c,d7]] Hz:=by
 obtain⟨lp,lo,lv,dv,li,lgg,lm,a1,PB,okd⟩:=id F.pg.split;have hls:=PB.li.some;obtain⟨⟨dx,vv,ob,_⟩,_⟩:=id SA;rw[eAp] at ob;have hlen:=F.so.len
 let jv1:L2.St->Hp->Prop:=fun σ' Hy=>σ'=[#[c,b],#[e,bg],#[e,mx],#[c,A1p],#[c,t],#[c,l6],#[e,k6],#[c,t'],#[c,lg],some v9,#[c,d7]]/\Same Hz Hy
 refine Bp (b:=false) jv1 (fun Q q=>?_) (fun z=>nomatch z) (fun _ H1 s1 N hN=>Zu (hN _ _ ⟨rfl,s1⟩)) ?_
 ·refine⟨_,rfl,d7,_,rfl,DGet.k (k:=.inr "listed") a1,rfl,_,rfl,?_⟩;rw[hls];cases hc:S3.cur with
  | none =>
    have hno:Pz.lis.isSome=false:=by rw[F.re.b.lis,hc];rfl
    rw[hno];exact iteF (q _ (.refl _))
  | some sh =>
    have hyes:Pz.lis.isSome=true:=by rw[F.re.b.lis,hc];rfl
    rw[hyes];exact iteT ⟨_,rfl,_,rfl,false,A3,S3,d7,Pz,sh,nu,n,(by rw[eAp];rfl),SA,F.pg,F.re,F.so,by omega,hc,fun H' s'=>#[q,true,q _ s']⟩
 rintro σ2 Hy ⟨rfl,sy⟩;refine Yk ?_;refine zll rfl rfl (SA.same sy) eAp (sy _ _ hl6) (F.same sy) ⋯ fun H3 s3=>#[V];have s03:=sy.trans s3;dsimp only;exact⟨_,rfl,A1p,dx,_,rfl,s03 _ _ ob,Yg ⋯,A3,S3,(by rw[eAp];rfl),SA.same s03,by omega,fun lf lfs H5 hlf rlf s5 _ _=>⟨_,rfl,(·∉A3.fp),lf,d7,lfs,Pz,rfl,hlf,F.pg.same (s03.trans s5),F.re.b.ovok F.so,(by rw[F.re.b.rows,<- F.so.led];exact rlf),fun H6 s6=>#[q,true,iteF (Zu (hN _ ((s03.trans s5).trans s6)))]⟩⟩
abbrev C7:Stmt:=top 97
theorem U7:#[p,["_law_script","_law_big","_law_mixed","_law_season","_law_pool_here","_law_pages","_law_k","_law_deed_here","_law_goes","_law_told","_law_page"],["_law_script"],C7]:=fnS
theorem zlm(F:#[i,"law","law",C7])(T:#[k])(zoh:Z2 P w K mg base "_law_at" 1 ["_law_script","_law_k"] (zcg K))(zta:T6 P w K mg base "Season" a.zn4 3 ["self","rounds","rest"] (zd2 (ca a)))(zrx:#[T,P,w,K,"_law_rest",2,["_law_script"],za6])(zql:#[T,P,w,K,"_law_rounds",2,["_law_script"],G8])(zsk:Z2 P w K mg base "_law_pool" 2 ["_law_script","_law_crowd"] (za8 K))(zr2:Z2 P w K mg base "_law_first" 1 ["_law_rounds_here","_law_rest_here"] zd6)(zqx:Z2 P w K mg base "_law_enrolled" 9 ["_law_season","_law_pages","_law_deeds"] (Fl K (ca a)))(zru:Z2 P w K mg base "_law_people" 2 ["_law_script","_law_pool_here"] (Fi K))(zsn:#[T,P,w,K,"_law_deed",3,["_law_pages","_law_cell_here","_law_pool_here","_law_most","_law_mixed"],zbj])(zsq:Z2 P w K mg base "_law_cell" 2 ["_law_script","_law_k"] (za7 K))(zrn:Z2 P w K mg base "_law_do" 8 ["_law_season","_law_deed_here"] (zlf K (ca a)))(zps:#[T,P,w,K,"_law_paged",3,["_law_pages","_law_deed_here"],B5])(zpw:#[T,P,w,K,"_law_is_filling",2,["_law_may","_law_given"],Ji])(zo0:#[T,P,w,K,"_law_open",2,["_law_page"],Fg])(zp6:#[T,P,w,K,"_law_chain_fits",4,["_law_page","_law_goes","_law_deed_here","_law_told"],Jt])(zrk:#[T,P,w,K,"_law_stepped",1,["_law_goes","_law_steps_here"],R1])(zpy:Z2 P w K mg base "_law_round_fits" 5 ["_law_season","_law_page"] (Of K (ca a)))(zqb:Z2 P w K mg base "_law_deeds_are" 4 #[af] (Qw K))(zqo:Zx P w K mg base a.zn4 "deeds" 1 ["self"] (Hk (ca a)))(zqa:#[T,P,w,K,"_law_facts_are",5,["_law_found","_law_page"],Mf])(zqz:Zx P w K mg base a.zn4 "facts" 3 ["self"] (Kt (ca a)))(zoj:Z2 P w K mg base "_law_one_is" 2 #[af] M8)(zn6:Zx P w K mg base a.zn4 "at_hand" 2 ["self"] (V8 (ca a))):FnOk P w K mg base #[f] 10 f fd ["_law_script"] (zdn K):=by
 refine #[n,U7];obtain⟨b,ns,rfl,hS,hlen,h⟩:=h;have hu:=Xy hr;refine⟨_,(Zb (pS 1 U7.nd (Yx D7 (by rfl) T.ztv PyProof.Rows.boot_int (Za (Wa Xv (Zt Y2 (Zt Xj (pF zoh hr (Za (pv 0) (Za Zf Zc))) Zf) Zf) Zf (Zq _)) Zc)))
 (Zb (pS 2 U7.nd (Zt Y2 (pF zoh hr (Za (pv 0) (Za Zf Zc))) Zf))
 (Zb (pS 3 U7.nd (Bl zta (hr.mono ⋯) Zn rfl (Za (pF zql hr (Za (pv 0) Zc)) (Za (pF zrx hr (Za (pv 0) Zc)) Zc))))
 (Zb (pS 4 U7.nd (pF zsk hr (Za (pv 0) (Za (pI (iL K) (Z6 (Za Zf (Za Zf Zc))) (pv 1)) Zc))))
 (Zb (pS 5 U7.nd (Z6 (Za (pF zr2 hr (Za (pF zql hr (Za (pv 0) Zc)) (Za (pF zrx hr (Za (pv 0) Zc)) Zc))) Zc)))
 (Zb (pS 5 U7.nd (pF zqx hr (Za (pv 3) (Za (pv 5) (Za (pF zru hr (Za (pv 0) (Za (pv 4) Zc))) Zc)))))
 (Zb (Yi PassesOwn.leaving rfl (D3 rfl T.zoq (Za Zf (Za (Zk (D6 rfl) (by rfl) T.ztt PyProof.Rows.boot_min (Za Zf (Za (Zk (cL K) (by rfl) T.zoa PySem.boot_len (Za (pv 0) Zc)) Zc))) Zc))) (pN 6 U7.nd)
  (Zb (Zy (Zo Xv (Zk (cL K) (by rfl) T.zoa PySem.boot_len (Za (pD hu (pI (iL K) (pv 5) (Pf Tg Zf)) Zr) Zc)) (pD hu (pI (iL K) (pv 5) (Pf Tg Zf)) Zr) (Zq _))
   (Zd zf8)
   Zp)
  (Zb (pS 7 U7.nd (pF zsn hr (Za (pv 5) (Za (pF zsq hr (Za (pv 0) (Za (pv 6) Zc))) (Za (pv 4) (Za (pI (iL K) (Z6 (Za Zf (Za Zf Zc))) (pv 1)) (Za (pv 2) Zc)))))))
  (Zb (pS 8 U7.nd (pD hu (pI (iL K) (pv 5) (Pf Tg Zf)) Zr))
  (Zb (pS 9 U7.nd (pF zrn hr (Za (pv 3) (Za (pv 7) Zc))))
  (Zb (pS 5 U7.nd (pF zps hr (Za (pv 5) (Za (pv 7) Zc))))
  (Zb (pS 10 U7.nd (pI (iL K) (pv 5) (Pf Tg Zf)))
  (Zb (Zy (Zo Xv (pI (iU K) (pv 7) Zf) Zr (Zq _))
   (Zb (Zy (Yt (Yo (pF zpw hr (Za (pF zo0 hr (Za (pv 10) Zc)) (Za (pv 9) Zc)))))
    (Zd (Zl Yr))
    Zp)
   (Zd (Ym hu (pv 10) Zr (Yx (Y0 (K:=K) rfl) (by rfl) T.zo3 PyProof.Rows.boot_list (Za (pv 9) Zc)) rfl)))
   Zp)
  (Zb (Zy (PW.pt (S9 (Zo Xv (pI (iU K) (pv 7) Zf) Zr (Zq _)) (U8 (Yt (Yo (pF zp6 hr (Za (pv 10) (Za (pv 8) (Za (pv 7) (Za (pv 9) Zc))))))))))
   (Zd (Zl Yr))
   Zp)
  (Zb (Zy (PW.pt (S9 (Zo Xv (pI (iU K) (pv 7) Zf) Zr (Zq _)) (U8 (Zo (Hh (K:=K) rfl hr.units) (pv 9) (Z6 Zc) (Zq _)))))
   (Zd (Ym hu (pv 10) Zr (pF zrk hr (Za (pv 8) (Za (pv 9) Zc))) rfl))
   Zp)
  (Zb (Zy (PW.pt (S9 (Zo Vs (pD hu (pv 10) Zr) Yn (Zq _)) (U8 (Yt (Yo (pF zpy hr (Za (pv 3) (Za (pv 10) Zc))))))))
   (Zd (Zl Yr))
   Zp)
  (Zb (Zy (Yt (Yo (pF zqb hr (Za (Yp (pv 3) T.zn5 zqo (hr.mono ⋯) Zn) (Za (Vb rfl (cT [] []) (Z8 (K:=K) rfl (Gf (Gi (K:=K) rfl) (pv 5) (Be Zf) Bd)) (fun _ _ _ _ _=>Vg) (fun _ _ _ _ _=>(pD hu (pv 0) Zr))) Zc)))))
   (Zd (Zl Yr))
   Zp)
  (Zd (Zy (Yt (Yo (pF zqa hr (Za (Yp (pv 3) T.zn5 zqz (hr.mono ⋯) Zn) (Za (pv 10) Zc)))))
   (Zd (Zl Yr))
   Zp))))))))))))))
 (Zd (Zl (pF zoj hr (Za (Yp (pv 3) T.zn5 zn6 (hr.mono ⋯) Zn) (Za (Zt Yy (Zk (cL K) (by rfl) T.zoa PySem.boot_len (Za (pD hu (pI (iL K) (pv 5) (Pf Tg Zf)) Zr) Zc)) Zf) Zc)))))))))))),?_⟩
 show let y1:TS:=_;let y2:TS:=Zw _ y1;let y3:TS:=Zw _ y2;let y4:TS:=Zw _ y3;let y5:TS:=Zw _ y4;let y6:TS:=Zw _ y5;let y7:TS:=Zw _ y6;let y8:TS:=Zw _ y7;let y9:TS:=Zw _ y8;let y10:TS:=Zw _ y9;let y11:TS:=Zw _ y10;let y12:TS:=_;let y13:TS:=Zw (zei _ _ (Zw _ y11)) y12;let y14:TS:=Zw _ y13;let y15:TS:=Zw _ y14;let y16:TS:=Zw _ y15;let y17:TS:=Zw _ y16;let y18:TS:=Zw _ y17;Zw _ y18 _ _ _;intro y1 y2 y3 y4 y5 y6 y7 y8 y9 y10 y11 y12 y13 y14 y15 y16 y17 y18;refine⟨_,rfl,b,ns,0,rfl,hS,_,_,rfl,rfl,⟨by decide,by decide⟩,_,_,rfl,rfl,(show (0:Int)<4 by decide),rfl,.inr #[q,_,?_]⟩;obtain⟨bg,hbg,hbg1⟩:∃ bg:Nat,(if #[g,V.int (Xe ns 0/32%4)=V.int 3]=true then (1:Int) else 0)=(bg:Int)/\bg<=1:=by
  cases decide (V.int (Xe ns 0/32%4)=V.int 3) with
  | true=>exact#[q,1,by decide]
  | false=>exact#[q,0,by decide]
 rw[hbg];refine⟨_,rfl,b,ns,0,rfl,hS,_,_,rfl,rfl,(show (0:Int)<2 by decide),?_⟩;obtain⟨mx,hmx,hmx1⟩:∃ mx:Nat,Xe ns 0%2=(mx:Int)/\mx<=1:=⟨(Xe ns 0%2).toNat,by omega,by omega⟩;walk_at "if";rw[hmx];refine#[Y,_,b,ns,hS,fun rr H1 hrr hr1 hr60 s1=>?_];refine#[Y,_,b,ns,s1.seq hS,fun rq H2 hrq hq10 s2=>?_];have s12:=s1.trans s2;have hS2:=s12.seq hS;intro p0 dx0 hp0 hdx0 ne0;refine⟨p0,dx0,rr,rq,rfl,Ze,Yv ⋯ ⋯,Yv ⋯ ⋯,?_⟩;rw[if_neg ⋯,if_neg ⋯];intro A1 H4 hAp SA4 k4 f4;rw[zw3,zw3] at SA4;have s4:Same H2 H4:=fun x o e=>k4 x o (by rw[Zh (Zg e hp0),Zh (Zg e hdx0)];exact e) (Zg e hp0);have ff:∀ x∈A1.fp,H2 x=none:=fun x hx=>by
  by_cases z:x=p0
  ·rw[z];exact hp0
  ·have:=f4 x hx z;rw[Zh z] at this;by_cases w:x=dx0
   ·rw[w];exact hdx0
   ·rw[Zh w] at this;exact this
 have SC4:Sb K A1 H4 b (ns.map V.int):=.make hS2 A1 H4 s4 ff;clear f4 k4;subst hAp;refine⟨rfl,?_⟩;walk_at "if";refine⟨_,rfl,sz2,fun l5 fl5=>?_⟩;refine #[z,l5,fl5,fun H5 q5 s5=>?_];obtain⟨cr,hcr,hcr1,hcr30⟩:∃ cr:Nat,atI [V.int 7,V.int 30] (bg:Int)=#[e,(cr:Nat)]/\1<=cr/\cr<=30:=by
  match bg,hbg1 with
  | 0,_=>exact⟨7,rfl,by decide,by decide⟩
  | 1,_=>exact⟨30,rfl,by decide,by decide⟩
 have SC5:=SC4.fr (.of s5);refine⟨_,rfl,l5,_,_,_,rfl,rfl,SqL.of q5,hcr,b,ns,cr,rfl,SC5.sq,hcr1,hcr30,fun t lc ln cs nu H6 PL hnu s6 ft flc fln=>?_⟩;have SA6:=(SA4.same s5).same s6;have SC6:=SC5.fr (.of s6);have no5:=(SA4.same s5).newOk;have PO6:Nl A1 H6 t lc ln cs nu:=⟨PL,no5 _ ft,no5 _ flc,no5 _ fln⟩;walk_at "if";refine#[Y,_,b,ns,SC6.sq,fun rr' H7 hrr' _ _ s7=>?_];have SC7:=SC6.fr (.of s7);refine#[Y,_,b,ns,SC7.sq,fun rq' H8 hrq' _ s8=>?_];cases (hrr'.trans hrr.symm);cases (hrq'.trans hrq.symm);refine⟨rr,rq,rfl,fun d9 H9 pg9 s9 fd9=>⟨(by show 1<=sizeLine;rw[sizeLine_eq];decide),fun l10 fl10=>?_⟩⟩;have SC9:=((SC7.fr (.of s8)).fr (.of s9));have SA9:=((SA6.same s7).same s8).same s9;have PO9:=((PO6.fr (.of s7)).fr (.of s8)).fr (.of s9);have no8:=((SA6.same s7).same s8).newOk;have F9:=zcy (mb:=false) (nu:=nu) (n:=0) (pg9.imp (ok':=(·∉A1.fp)) fun x _ hx=>no8 x hx) hr60 hq10;have s10:=Zj (o:=.lst [.ref d9]) fl10;have q10:=Ze (H:=H9) (a:=l10) (o:=.lst [.ref d9]);have o10:=SA9.newOk _ fl10;walk_at "if";generalize upd H9 l10 (.lst [.ref d9])=H10 at s10 q10 ⊢;have SA10:=SA9.same s10;have SC10:=SC9.fr (.of s10);have PO10:=PO9.fr (.of s10);have F10:=F9.same s10;show Zw _ _ _ [#[c,b],#[e,bg],#[e,mx],#[c,A1.p],#[c,t],#[c,l10],none,none,none,none,none] H10;clear SA9 SC9 PO9 F9 SA6 SC6 PO6 PL SC7 SC4 SC5 SA4 no5 no8 pg9 hS hS2 s12;have nfew:=PO10.at_.nfew;refine⟨_,rfl,_,rfl,_,rfl,_,rfl,b,t,lc,ln,ns,cs,nu,rfl,SC10.sq,PO10.at_,fun le ts es H11 hle tl en el eok s11 fle=>?_⟩;have SA11:=SA10.same s11;have nd11:(es.map (·.1)).Nodup:=by rw[en];exact PO10.at_.nnd.sublist (List.take_sublist _ _)
 refine⟨false,A1,l10,le,ts,es,[],d9,_,_,nu,0,rfl,SA11,s11 _ _ q10,o10,F10.same s11,hle,SA10.newOk _ fle,tl,nd11,fun x hx=>?_,(by show 0+es.length<=30;omega),by omega,rfl,(by show 0<rr;omega),fun A2 l2 ds2 d2 P2 S2 H12 SA12 hl12 ho12 F12 f12 hc12 he12 hn12=>?_⟩
 ·obtain⟨x1,x2,x3⟩:=eok x hx;have hxn:x.1∈nu:=by
   have:x.1∈es.map (·.1):=zwx.mpr ⟨x,hx,rfl⟩;rw[en] at this;exact zyp this
  refine⟨hxn,?_,nofun⟩;have:=PO10.at_.nrng _ hxn;have:=PO10.at_.crng _ x3;unfold badI;omega
 have SC12:=(SC10.fr (.of s11)).fr f12;have PO12:=(PO10.fr (.of s11)).fr f12;have hAp:=f12.p;walk_at "if";refine#[Y,_,b,_,.inl SC12.sq,?_];rw[zwo];refine⟨_,_,rfl,6,_,rfl,⟨by omega,by omega,by split<;>omega,by split<;>omega⟩,?_⟩;obtain⟨N0,hN0,hN1⟩:∃ N0:Nat,((if (ns.length:Int)<63 then (ns.length:Int) else 63)-6).toNat=N0/\∀ i:Nat,i<N0->6+i<ns.length:=#[q,_,fun i hi=>by split at hi<;>omega];have hN57:N0<=57:=by rw[<- hN0];split<;>omega
 rw[hN0]
 let jv2:Nat->L2.St->Hp->Prop:=fun i σ H'=>∃ A2 l2 ds2 d2 P2 S2 v6 v7 v8 v9 v10,σ=[#[c,b],#[e,bg],#[e,mx],#[c,A1.p],#[c,t],#[c,l2],v6,v7,v8,v9,v10]/\Z1 (ca a) H' A2 S2/\H' l2=#[I,(ds2++[d2]).map,V.ref]/\l2∉A2.fp/\Ut false (·∉A2.fp) H' nu (30+i) ds2 d2 P2 S2/\Sb K A2 H' b (ns.map V.int)/\Nl A2 H' t lc ln cs nu/\A2.p=A1.p
 refine Aa jv2
  ⟨A2,l2,ds2,d2,P2,S2,_,_,_,_,_,rfl,SA12,hl12,ho12,⟨F12.pg,F12.re,F12.so.mono ⋯,?_⟩,SC12,PO12,hAp⟩ ?_ ?_
 ·obtain⟨nd,e|⟨S0,bb,rr'⟩⟩:=F12.tl
  ·exact⟨nd,.inl e⟩
  ·exact⟨nd,.inr ⟨S0,bb.mono ⋯,rr'⟩⟩
 ·rintro N hN i σ H1 hi ⟨A2,l2,ds2,d2,P2,S2,v6,v7,v8,v9,v10,rfl,SA,hl2,ho2,F,SC,PO,eAp⟩;have hki:=hN1 i hi;have e6:(6:Int)+(i:Int)=((6+i:Nat):Int):=by omega
  rw[e6];walk_at "if";obtain⟨lp,lo,lv,dv,li,lg,lm,a1,PB,okd⟩:=id F.pg.split;have hat:atI ((ds2++[d2]).map V.ref) (-1)=#[b,V.ref,d2]:=by rw[zwv];exact L2.atI_last _ _
  obtain⟨vts,u1,u2,u3⟩:=PB.vv;have hvl:(vts.length:Int)=(P2.over.length:Int):=by rw[u2.length]
  refine Yk (Y9 (b:=decide (V.int (P2.over.length:Int)=V.int (P2.len:Int))) (fun Q q=>⟨_,rfl,_,rfl,l2,_,_,_,rfl,rfl,SqL.of hl2,hat,d2,_,rfl,DGet.k (k:=.inr "over") a1,lv,vts,rfl,#[t,u1],_,rfl,_,rfl,l2,_,_,_,rfl,rfl,SqL.of hl2,hat,d2,_,rfl,DGet.k (k:=.inr "rounds") a1,rfl,_,rfl,by rw[hvl];exact q⟩) (itB (fun _=>hN i _ _ ⟨A2,l2,ds2,d2,P2,S2,_,_,_,_,_,rfl,SA,hl2,ho2,F,SC,PO,eAp⟩) fun hb=>Zu ?_));have hlt:P2.over.length<P2.len:=by
   have h1:=F.re.b.olen;have h2:=F.so.olen;have h3:=F.so.len;have h4:=F.re.b.len;have h5:=of_decide_eq_false hb;have h6:P2.over.length≠P2.len:=fun z=>h5 (by rw[z]);omega
  dsimp only;refine⟨_,rfl,_,rfl,_,rfl,b,ns,6+i,rfl,SC.sq,hki,fun cell H2 s2=>?_⟩;obtain⟨most,hmost,hmo⟩:∃ most:Nat,atI [V.int 5,V.int 20] (bg:Int)=#[e,(most:Nat)]/\most<=20:=by
   match bg,hbg1 with
   | 0,_=>exact#[q,5,by decide]
   | 1,_=>exact#[q,20,by decide]
  refine⟨_,rfl,sz2,fun l3 fl3=>?_⟩;refine #[z,l3,fl3,fun H3 q3 SH3=>?_];have s3:=s2.trans SH3;refine⟨_,rfl,l3,_,_,_,rfl,rfl,SqL.of q3,hmost,_,rfl,(·∉A2.fp),l2,t,lc,ln,ds2,d2,P2,cell,cs,nu,most,mx,rfl,s3 _ _ hl2,F.pg.same s3,PO.at_.same s3,hmo,hmx1,hlt,(by rw[F.re.b.ppl];have:=F.so.few;omega),fun t' D H4 hD gD s4 ft'=>?_⟩;have s34:=s3.trans s4;have SA4:=SA.same s34;have F4:=F.same s34;have SC4:=SC.fr (.of s34);have PO4:=PO.fr (.of s34);have hD4:=zjn (SA.same s3) hD;have g:=zjm F.re.b F.so gD hlt hmo ⟨nfew.2,PO.at_.nrng⟩ PO.at_.crng F.back;have hkn:∀ k gr c,D=.enrol k gr c->k∈nu:=fun k gr c z=>by rw[z] at gD;exact gD.2.1
  walk_at "if";obtain⟨gg1,gg2⟩:=PB.gg;refine⟨_,rfl,_,rfl,l2,_,_,_,rfl,rfl,#[F,s34,hl2],hat,d2,_,rfl,DGet.k (k:=.inr "goes") (s34 _ _ a1),?_⟩;walk_at "if";obtain⟨w1,w2,w3,w4,w5,w6,w7,w8,w9,w10⟩:=F4.pre g ⋯;refine⟨_,rfl,_,rfl,A2,S2,t',D,(by rw[<- eAp];rfl),SA4,hD4,g,w1,w2,w3,w4,w5,w6,w7,w8,w9,w10,fun v' A3 S3 H5 af SA5 nx fr told=>?_⟩;have f5:=FrN.next SA4 nx fr;obtain⟨c1,c2,c3,c4,c5⟩:=F4.pre2 g ⋯
  walk_at "if";refine⟨_,rfl,_,rfl,(·∉A3.fp),l2,t',ds2,d2,P2,D,rfl,(f5.k _ _ (s34 _ _ hl2) ho2).1,F4.pg.fr f5,hD4.fr f5,c1,c2,c3,c4,c5,fun l6 d6 H6 hl6 pg6 s6 fl6 fd6=>?_⟩;obtain⟨ds7,d7,P7,ek,Pe,eP,eR⟩:=turn F4 SA4 af SA5 nx fr g hkn pg6 s6 fd6;have SA6:=SA5.same s6;have o6:=SA5.newOk _ fl6;have SC6:=(SC4.fr f5).fr (.of s6);have PO6:=(PO4.fr f5).fr (.of s6);have eAp6:=f5.p.trans eAp;rw[ek] at hl6;have hat7:atI ((ds7++[d7]).map V.ref) (-1)=#[b,V.ref,d7]:=by rw[zwv];exact L2.atI_last _ _
  walk_at "if";refine⟨_,rfl,_,rfl,l6,_,_,_,rfl,rfl,SqL.of hl6,hat7,?_⟩;walk_at "if";obtain⟨lp7,lo7,lv7,dv7,li7,lg7,lm7,y1,y2,y3⟩:=id Pe.pg.split;have hls:=y2.li.some;have hD6:=(hD4.fr f5).same s6;obtain⟨rw6,hw6⟩:=hD6.word;have hw0:atI (V.str (Fo D) :: rw6) 0=some (V.str (Fo D)):=Zz (j:=0) rfl;have hg6:#[y,H6,lg,P2.gv]:=s6 _ _ (f5.k _ _ (s34 _ _ gg1) gg2).1;have og6:lg∉A3.fp:=(f5.k _ _ (s34 _ _ gg1) gg2).2;have hpl7:P7.ppl.length<=100:=by rw[Pe.rb.ppl];have:=Pe.so.few;omega
  have eN:30+i+1=30+(i+1):=by omega
  rw[eN] at Pe;have re2:=F4.re;have so2:=F4.so;clear SA F SA4 F4 SC4 PO4 SC PO hD4 hD;have fin:∀ {Hz:Hp} {Pz:Pg},Z1 (ca a) Hz A3 S3->Ut false (·∉A3.fp) Hz nu (30+(i+1)) ds7 d7 Pz S3->Hz l6=#[I,(ds7++[d7]).map,V.ref]->Sb K A3 Hz b (ns.map V.int)->Nl A3 Hz t lc ln cs nu->∀ H',Same Hz H'->∃ A2 l2 ds2 d2 P2 S2 v6 v7 v8 v9 v10,([some (.ref b),some (.int bg),some (.int mx),some (.ref A1.p),some (.ref t),some (.ref l6),some (.int (6+i:Nat)),some (.ref t'),some (.ref lg),some v',some (.ref d7)]:L2.St)=[#[c,b],#[e,bg],#[e,mx],#[c,A1.p],#[c,t],#[c,l2],v6,v7,v8,v9,v10]/\Z1 (ca a) H' A2 S2/\H' l2=#[I,(ds2++[d2]).map,V.ref]/\l2∉A2.fp/\Ut false (·∉A2.fp) H' nu (30+(i+1)) ds2 d2 P2 S2/\Sb K A2 H' b (ns.map V.int)/\Nl A2 H' t lc ln cs nu/\A2.p=A1.p:=fun x1 x2 x3 x4 x5 H' s'=>⟨A3,l6,ds7,d7,_,S3,_,_,_,_,_,rfl,x1.same s',s' _ _ x3,o6,x2.same s',x4.fr (.of s'),x5.fr (.of s'),eAp6⟩
  by_cases hdr:∃ m0,D=.draw m0
  ·obtain⟨m0,rfl⟩:=hdr;have hP:=eP nofun;have hlis:P7.lis=some m0:=by rw[hP];rfl
   obtain⟨sh,hcur,hshm⟩:=Pe.rb.drawn hlis;obtain⟨lt,hv,hlt⟩:=zfx af hcur;subst hv;obtain⟨k1,k2,k3,k4,k5⟩:=Pe.so.cur sh hcur;have hml:sh.may.length=sh.ms.length:=by rw[k4];unfold mayS;rw[zwo]
   have hlt6:=s6 _ _ hlt;have hna:¬ ∃ i n,Wq.draw m0=.away i n:=fun ⟨_,_,z⟩=>nomatch z;refine Yk ?_;refine⟨_,rfl,t',_,_,_,rfl,rfl,SqT.of hw6,hw0,rfl,_,rfl,?_⟩;rw[C6];refine iteT (Yk ?_);refine⟨_,rfl,(·∉A3.fp),d7,P7,m0,rfl,Pe.pg,Pe.rb.ovok Pe.so,hlis,by rw[<- hshm];omega,hpl7,fun lw ls H7 hlw ilw s7 flw _=>?_⟩;rw[Pe.rb.may Pe.so,<- hshm,<- k4] at ilw;refine⟨_,rfl,lw,lt,ls,sh.may,sh.gv,rfl,hlw,ilw,by omega,s7 _ _ hlt6,k2,fun H8 s8=>#[q,true,#[V]]⟩;dsimp only;have s68:=s7.trans s8;refine#[Y,_,lt,_,#[t,s68 _ _ hlt6],fun lg' flg=>?_];refine #[z,lg',flg,fun H9 q9 SH9=>?_];have s9:=s68.trans SH9;have o9:=(SA6.same s68).newOk _ flg;obtain⟨kvs,b1,b2,Pe10⟩:=(Pe.same s9).setGoes q9 o9;refine#[Y,_,d7,_,DPut.k (k:=.inr "goes") b1 b2,?_];have SA10:=(SA6.same s9).dictW (kvs':=putK kvs (.inr "goes") (.ref lg')) b1 y3;have kl:=Vk.dict b1 (kvs':=putK kvs (.inr "goes") (.ref lg'));have l10:=kl.1 _ _ (s9 _ _ hl6);have SC10:=(SC6.fr (.of s9)).dictW (kvs':=putK kvs (.inr "goes") (.ref lg')) b1;have PO10:=(PO6.fr (.of s9)).dictW (kvs':=putK kvs (.inr "goes") (.ref lg')) b1;have w10':=kl.2 _ _ (s9 _ _ hw6);generalize upd H9 d7 (.dK (putK kvs (.inr "goes") (.ref lg')))=H10 at Pe10 SA10 kl l10 SC10 PO10 w10' ⊢;have F10:=Pe10.full (fun s hs=>by rw[hcur] at hs;cases hs;rfl) (fun z=>nomatch z);dsimp only;refine Yk ?_;refine⟨_,rfl,t',_,_,_,rfl,rfl,SqT.of w10',hw0,rfl,_,rfl,?_⟩;rw[Hl hna];refine iteF (iteF (Zu ?_));dsimp only;refine Yk ?_;refine⟨_,rfl,t',_,_,_,rfl,rfl,SqT.of w10',hw0,rfl,_,rfl,?_⟩;rw[Hl hna];refine iteF (iteF (Zu ?_));dsimp only;exact zeb SA10 eAp6 F10 l10 ⋯ (fin SA10 F10 l10 SC10 PO10)
  refine Yk ?_;refine⟨_,rfl,t',_,_,_,rfl,rfl,SqT.of hw6,hw0,rfl,_,rfl,?_⟩;rw[zh7 hdr];refine #[V];dsimp only;by_cases haw:∃ i0 n0,D=.away i0 n0
  ·obtain⟨i0,n0,rfl⟩:=haw;have hP:=eP nofun;have hlis:P7.lis=P2.lis:=by rw[hP];rfl
   have hgv7:P7.gv=P2.gv:=by rw[hP];rfl
   have hov7:P7.over=P2.over:=by rw[hP];rfl
   have hat7:(P7.over.length:Int)+1=atV S3:=Pe.rb.at Pe.so;have ht6:#[N,H6,t',[.str "away",.int i0,.int n0]]:=hD6;have hab:(∃ lt,v'=.ref lt/\H6 lt=#[r,[]]/\(P7.lis=none\/i0≠(P7.over.length:Int)+1\/Wh P2.gv n0=none)/\(∀ s,S3.cur=some s->P7.gv=s.gv)) \/
     ∃ lt us s0 p e st w',v'=.ref lt/\H6 lt=#[r,us]/\Z7 H6 us (st.map Wz)/\S2.cur=some s0/\i0=atV S3/\Wh s0.gv n0=some p/\Y4 (mayS S3 s0.ms) (s0.gv.set p .non) p st e w'/\S3.cur=some ⟨s0.ms,mayS S3 s0.ms,Yj st (s0.gv.set p .non),s0.gaps++[(n0,st)]⟩/\Ye (mayS S3 s0.ms) (s0.gv.set p .non)/\p<(mayS S3 s0.ms).length:=by
    cases af with
    | @awayN _ _ l hc hl =>
      refine .inl ⟨l,rfl,s6 _ _ hl,?_,fun s hs=>by rw[hgv7];exact re2.gv s hs⟩;rcases hc with z|z
      ·refine .inl ?_;rw[hlis,re2.b.lis,z];rfl
      ·refine .inr (.inl ?_);rw[hat7];show i0≠atV S2;omega
    | @awayF _ s l hc hp hl =>
      refine .inl ⟨l,rfl,s6 _ _ hl,.inr (.inr (by rw[re2.gv s hc];exact hp)),fun s' hs=>?_⟩;have hs:some { s with may:=mayS (Xw S2 (atV S2) n0) s.ms }=some s':=hs;cases hs;rw[hgv7];exact re2.gv s hc
    | @awayC _ s p e l us st w0 hc hp hl tl CR =>
      obtain⟨x1,x2,x3,x4,x5⟩:=so2.cur s hc;have hx:=Qv hp;have F0:Ye (mayS (Xw S2 (atV S2) n0) s.ms) (s.gv.set p .non):=by rw[Ua,<- x4];exact V7 x2 hx
      have hpl:p<(mayS (Xw S2 (atV S2) n0) s.ms).length:=by
       rw[Ua,<- x4];unfold G.without;rw[zwo,<- x2.len];exact(zwq.mp hx).1
      exact .inr ⟨l,us,s,p,e,st,w0,rfl,s6 _ _ hl,tl.same s6,hc,rfl,hp,CR,rfl,F0,hpl⟩
   have hms7:∀ ms,P7.lis=some ms->ms.length<=100:=fun ms hm=>by
    obtain⟨sh,hc,e⟩:=Pe.rb.drawn hm;have:=(Pe.so.cur sh hc).1;rw[<- e];omega
   have hog:P7.lis≠none->(∀ x∈P2.gv,oneV x)/\P2.gv.length<=100:=fun hne=>by
    rw[hlis,re2.b.lis] at hne;cases hc:S2.cur with
    | none=>rw[hc] at hne;exact absurd rfl hne
    | some s0 =>
      obtain⟨x1,x2,x3,x4,x5⟩:=so2.cur s0 hc;have hml:s0.may.length=s0.ms.length:=by rw[x4];unfold mayS;rw[zwo]
      have:=x2.len;rw[re2.gv s0 hc];exact⟨x2.one,by omega⟩
   refine Yk ?_;refine⟨_,rfl,t',_,_,_,rfl,rfl,SqT.of hw6,hw0,rfl,_,rfl,?_⟩;rw[O6];refine iteT ?_;rcases hab with ⟨lt,rfl,hlt,hcd,hgA⟩|⟨lt,us,s0,p,e,st,w0,rfl,hlt,tl,hc0,hi0,hp0,CR,hc3,FP,hpl⟩
   ·refine⟨_,rfl,_,rfl,_,rfl,_,rfl,(·∉A3.fp),d7,lg,t',lt,P7,P2.gv,[],i0,n0,rfl,Pe.pg,Pe.rb.ovok Pe.so,hpl7,hms7,hg6,hog,ht6,hlt,#[M,hcd,rfl],fun H7 s7=>#[q,true,#[V]]⟩;dsimp only;refine Yk ?_;refine⟨_,rfl,t',_,_,_,rfl,rfl,SqT.of (s7 _ _ hw6),hw0,rfl,_,rfl,?_⟩;rw[O6];refine iteT ?_;refine⟨_,rfl,zxj _,fun l9 f9=>?_⟩;have s9:=s7.trans (Zj (o:=.lst []) f9);refine⟨.lst [],.lst [],.lst (SqL.of (s9 _ _ hlt)) .nil,.lst (SqL.of Ze) .nil,Tt,Tt,false,by rw[#[P],M5];rfl,#[V]⟩;dsimp only;generalize upd H7 l9 (.lst [])=H9 at s9 ⊢;have F9:=(Pe.same s9).full hgA (fun z=>nomatch z);exact zeb (SA6.same s9) eAp6 F9 (s9 _ _ hl6) ⋯ (fin (SA6.same s9) F9 (s9 _ _ hl6) (SC6.fr (.of s9)) (PO6.fr (.of s9)))
   ·have hms0:P7.lis=some s0.ms:=by rw[hlis,re2.b.lis,hc0];rfl
    have em:=Pe.rb.may Pe.so s0.ms;have hg2:=re2.gv s0 hc0;have hs20:s0.ms.length<=20:=(so2.cur s0 hc0).1;have MO:Uv (mayS S3 s0.ms) (S3.ppl.map (·.1)):=Pe.so.pok.may Pe.so.nd hs20;have hml:(mayS S3 s0.ms).length=s0.ms.length:=by unfold mayS;rw[zwo]
    obtain⟨hst1,hst2⟩:=zfy CR;have hstl:st.length<=100:=by have:=CR.len FP hpl;omega
    have hgl2:P2.gv.length=s0.ms.length:=by
     have:=FP.len;rw[zyj] at this;rw[hg2];omega
    refine⟨_,rfl,_,rfl,_,rfl,_,rfl,(·∉A3.fp),d7,lg,t',lt,P7,P2.gv,us,i0,n0,rfl,Pe.pg,Pe.rb.ovok Pe.so,hpl7,hms7,hg6,hog,ht6,hlt,.inr ⟨s0.ms,_,p,e,st,w0,hms0,by rw[hat7];exact hi0,by rw[hg2];exact hp0,by rw[em];exact MO,by rw[em,hg2];exact FP,by rw[em];exact hpl,tl,by rw[em,hg2];exact CR⟩,fun H7 s7=>#[q,true,#[V]]⟩;dsimp only;refine Yk ?_;refine⟨_,rfl,t',_,_,_,rfl,rfl,SqT.of (s7 _ _ hw6),hw0,rfl,_,rfl,?_⟩;rw[O6];refine iteT ?_;refine⟨_,rfl,zxj _,fun l9 f9=>?_⟩;have s9:=s7.trans (Zj (o:=.lst []) f9);refine⟨.lst (st.map stD),.lst [],.lst (SqL.of (s9 _ _ hlt)) (zbl (tl.same s9)),.lst (SqL.of Ze) .nil,zh6 st,Tt,true,?_,iteT ?_⟩
    ·rw[#[P],Lc];cases st with
     | nil=>exact absurd rfl hst2
     | cons x r=>rfl
    generalize upd H7 l9 (.lst [])=H9 at s9 ⊢;refine⟨_,rfl,_,rfl,lg,lt,P2.gv,us,st,rfl,s9 _ _ hg6,s9 _ _ hlt,tl.same s9,fun x hx=>by rw[hgl2,<- hml];exact CR.ch.lt FP hpl x hx,(hog (by rw[hms0];exact nofun)).1,by omega,hstl,fun l10 H10 hl10 s10 fl10=>?_⟩;have s610:=s9.trans s10;have o10:=(SA6.same s9).newOk _ fl10;obtain⟨kvs,b1,b2,Pe11⟩:=(Pe.same s610).setGoes hl10 o10;refine#[Y,_,d7,_,DPut.k (k:=.inr "goes") b1 b2,?_];have SA11:=(SA6.same s610).dictW (kvs':=putK kvs (.inr "goes") (.ref l10)) b1 y3;have kl:=Vk.dict b1 (kvs':=putK kvs (.inr "goes") (.ref l10));have l11:=kl.1 _ _ (s610 _ _ hl6);have lt11:=kl.1 _ _ (s610 _ _ hlt);have tl11:=tl.mono fun x ys z=>kl.2 _ _ (s610 _ _ z);have SC11:=(SC6.fr (.of s610)).dictW (kvs':=putK kvs (.inr "goes") (.ref l10)) b1;have PO11:=(PO6.fr (.of s610)).dictW (kvs':=putK kvs (.inr "goes") (.ref l10)) b1;have t11:=kl.2 _ _ (s610 _ _ ht6);generalize upd H10 d7 (.dK (putK kvs (.inr "goes") (.ref l10)))=H11 at Pe11 SA11 kl l11 lt11 tl11 SC11 PO11 t11 ⊢;have F16:=Pe11.full (fun s hs=>by
     rw[hc3] at hs;cases hs;show Yj st P2.gv=_;rw[hg2,<- hst1]) (fun z=>nomatch z)
    dsimp only;exact zeb SA11 eAp6 F16 l11 ⋯ (fin SA11 F16 l11 SC11 PO11)
  ·have F6:Ut false (·∉A3.fp) H6 nu (30+(i+1)) ds7 d7 P7 S3:=by
    cases af with
    | enrol k gr c =>
      have hcn:S2.cur=none:=g.2.1;refine Pe.full (fun s hs=>?_) (fun z=>nomatch z);have hs:S2.cur=some s:=hs;rw[hcn] at hs;cases hs
    | close h=>exact Pe.full (eR (.inr rfl)).1 (eR (.inr rfl)).2
    | back h ht hs=>exact Pe.full (eR (.inl rfl)).1 (eR (.inl rfl)).2
    | awayN h hl=>exact absurd #[L,_,_] haw
    | awayF h hp hl=>exact absurd #[L,_,_] haw
    | awayC h hp hl tl CR=>exact absurd #[L,_,_] haw
    | draw hl F T=>exact absurd #[w,_] hdr
   refine Yk ?_;refine⟨_,rfl,t',_,_,_,rfl,rfl,SqT.of hw6,hw0,rfl,_,rfl,?_⟩;rw[Hl haw];refine iteF (iteF (Zu ?_));dsimp only;refine Yk ?_;refine⟨_,rfl,t',_,_,_,rfl,rfl,SqT.of hw6,hw0,rfl,_,rfl,?_⟩;rw[Hl haw];refine iteF (iteF (Zu ?_));dsimp only;exact zeb SA6 eAp6 F6 hl6 ⋯ (fin SA6 F6 hl6 SC6 PO6)
 ·rintro i σ H1 ⟨A2,l2,ds2,d2,P2,S2,v6,v7,v8,v9,v10,rfl,SA,hl2,ho2,F,SC,PO,eAp⟩;obtain⟨lp,lo,lv,dv,li,lg,lm,a1,PB,okd⟩:=id F.pg.split;have hat:atI ((ds2++[d2]).map V.ref) (-1)=#[b,V.ref,d2]:=by rw[zwv];exact L2.atI_last _ _
  obtain⟨vts,u1,u2,u3⟩:=PB.vv;obtain⟨⟨dx2,vv2,ob2,_⟩,_⟩:=id SA;rw[eAp] at ob2;refine⟨_,rfl,A1.p,dx2,_,rfl,ob2,Yg ⋯,A2,S2,(by rw[eAp];rfl),SA,?_⟩;refine⟨_,rfl,_,rfl,l2,_,_,_,rfl,rfl,SqL.of hl2,hat,d2,_,rfl,DGet.k (k:=.inr "over") a1,lv,vts,rfl,#[t,u1],_,_,rfl,rfl,?_⟩;have hvl:(vts.length:Int)+1=atV S2:=by rw[u2.length];exact F.re.b.at F.so
  dsimp only;rw[hvl];exact⟨_,rfl,.inr ⟨_,rfl⟩,h H1⟩
end
end K42
namespace K42
open PySem PySem.Spec PyProof.Rows L2 G PySem.W
theorem zln{l:OpenLaw}{w:World}{K:Frag}{h:Heap}{mg:#[R]}{fa zrs zop zo4 zou zoz zoy zp5 zo8 zo1 zpr zpe zo9 zq4 zp0 zol zo5 zn7 zn9 zn8 zn4 f101:Addr}{tk0 tk1 tk2 tk3 tk4 tk5 tk6 tk7:Tok}{u101 n101:Option Addr}{z101:Array (Option Value)}{o101 v101 d101 m101 c101 t101:Value}(X:K.In h)(G:h.Ns mainGlobals mg)(hfa:mg "law"=#[b,.ref,fa])
  (zs4:NsB K "BookError" zrs)
  (zrw:NsB K "OutOfRange" zop)
  (zqq:NsB K "KnownReferee" zo4)
  (zpv:NsB K "TooManyReferees" zou)
  (zp3:NsB K "UnknownReferee" zoz)
  (zp1:NsB K "TooManyMatches" zoy)
  (zsl:NsB K "SameClub" zp5)
  (zrl:NsB K "NoSuchMatch" zo8)
  (zrb:NsB K "NoSuchRound" zo1)
  (zr9:NsB K "RoundOver" zpr)
  (zrt:NsB K "SeasonOver" zpe)
  (zra:NsB K "AwayAlready" zo9)
  (zsx:NsB K "DrawnUp" zq4)
  (zso:NsB K "NotDrawn" zp0)
  (zpk:NsB K "NothingToTakeBack" zol)
  (zqu:NsB K "TooManyDeeds" zo5)
  (ztd:NsB K "Ledger" zn7)
  (ztc:NsB K "Roster" zn9)
  (ztp:NsB K "Sheet" zn8)
  (zs7:NsB K "Season" zn4)
  (ztl:zh8 K zn7)
  (zp7:#[ao,K,zn7,"rounds"])
  (zp4:#[ao,K,zn7,"meetings"])
  (ztk:zh8 K zn9)
  (zpb:#[ao,K,zn9,"entries"])
  (ztw:zh8 K zn8)
  (zp9:#[ao,K,zn8,"listed"])
  (zsw:#[ao,K,zn8,"lists"])
  (zqi:#[ao,K,zn8,"given"])
  (zs0:#[ao,K,zn8,"gaps"])
  (ztm:zh8 K zn4)
  (zsd:#[ao,K,zn4,"length"])
  (ztr:#[ao,K,zn4,"rest"])
  (zpm:#[ao,K,zn4,"roster"])
  (zpl:#[ao,K,zn4,"ledger"])
  (zq0:#[ao,K,zn4,"absent"])
  (zr4:#[ao,K,zn4,"sheets"])
  (zo2:#[ao,K,zn4,"sheet"])
  (zpa:#[ao,K,zn4,"standing"])
  (zsg:XcB K zo1)
  (zst:XcB K zop)
  (zrp:XcB K zoy)
  (zs8:XcB K zp5)
  (zsc:XcB K zo4)
  (zq7:XcB K zou)
  (zro:XcB K zoz)
  (zsj:XcB K zo8)
  (zsv:XcB K zpe)
  (ztn:XcB K zq4)
  (zr6:XcB K zo5)
  (zs9:XcB K zp0)
  (zs5:XcB K zpr)
  (zsh:XcB K zo9)
  (zqf:XcB K zol)
  (zto:NzB K "max")
  (zoa:NzB K "len")
  (zrr:NzB K "tuple")
  (zo3:NzB K "list")
  (zq6:NzB K "enumerate")
  (zoq:NzB K "range")
  (zsa:NzB K "sorted")
  (zt3:NzB K "zip")
  (zod:NzB K "isinstance")
  (ztv:NzB K "int")
  (ztz:NzB K "bool")
  (ztt:NzB K "min")
  (zt4:NzB K "str")
  (zt1:NzB K "dict")
  (zrf:nsIn K mainGlobals "MOST_NUMBER"=#[b,some,.int 999 tk0])
  (zqg:nsIn K mainGlobals "MOST_GRADE"=#[b,some,.int 9 tk1])
  (zp8:nsIn K mainGlobals "MOST_CLUB"=#[b,some,.int 99 tk2])
  (zpn:nsIn K mainGlobals "MOST_REFEREES"=#[b,some,.int 30 tk3])
  (zpu:nsIn K mainGlobals "MOST_MATCHES"=#[b,some,.int 20 tk4])
  (zq8:nsIn K mainGlobals "MOST_ROUNDS"=#[b,some,.int 60 tk5])
  (zr7:nsIn K mainGlobals "MOST_REST"=#[b,some,.int 10 tk6])
  (zqk:nsIn K mainGlobals "MOST_DEEDS"=#[b,some,.int 100 tk7])
  (l0:LNe K "met_lately" Qx)
  (l1:LNe K "reasons" Ku)
  (l2:LNe K "takers" Fw)
  (l3:LMe K zn7 "__init__" "Ledger.__init__" Uc)
  (l4:LMe K zn7 "write" "Ledger.write" Sd)
  (l5:LMe K zn7 "over" "Ledger.over" Rc)
  (l6:LMe K zn7 "facts" "Ledger.facts" Se)
  (l7:LMe K zn7 "met" "Ledger.met" Qy)
  (l8:LNe K "check_range" Rf)
  (l9:LNe K "check_count" Rg)
  (l10:LNe K "check_ranges" Sf)
  (l11:LNe K "check_clubs" Rh)
  (l12:LNe K "checked" Kv)
  (l13:LMe K zn9 "__init__" "Roster.__init__" Ue)
  (l14:LMe K zn9 "check_new" "Roster.check_new" Vz)
  (l15:LMe K zn9 "check_known" "Roster.check_known" Vd)
  (l16:LMe K zn9 "add" "Roster.add" Qz)
  (l17:LMe K zn9 "strike" "Roster.strike" Tn)
  (l18:LMe K zn9 "numbers" "Roster.numbers" Uz)
  (l19:LMe K zn9 "entry" "Roster.entry" Sg)
  (l20:LMe K zn9 "person" "Roster.person" To)
  (l21:LNe K "places_taken" Sh)
  (l22:LNe K "steps_into" Q4)
  (l23:LNe K "free_referee" Si)
  (l24:LNe K "traced" Fx)
  (l25:LNe K "chain" Ab)
  (l26:LNe K "stepped" K0)
  (l27:LNe K "fill" zc4)
  (l28:LNe K "left_without" Sj)
  (l29:LNe K "place_of" Mm)
  (l30:LNe K "shortage" Mn)
  (l31:LMe K zn8 "__init__" "Sheet.__init__" U0)
  (l32:LMe K zn8 "barred" "Sheet.barred" Sk)
  (l33:LMe K zn8 "fallen_out" "Sheet.fallen_out" V0)
  (l34:LMe K zn8 "matches" "Sheet.matches" Tp)
  (l35:LMe K zn8 "may" "Sheet.may" Oi)
  (l36:LMe K zn8 "check_place" "Sheet.check_place" Vm)
  (l37:LMe K zn8 "goes" "Sheet.goes" Q6)
  (l38:LMe K zn8 "where" "Sheet.where" Ri)
  (l39:LMe K zn8 "why" "Sheet.why" Om)
  (l40:LMe K zn8 "chains" "Sheet.chains" Sl)
  (l41:LMe K zn8 "rows" "Sheet.rows" Q7)
  (l42:LNe K "drawn_sheet" Rj)
  (l43:LMe K zn4 "__init__" "Season.__init__" Ug)
  (l44:LMe K zn4 "check_not_over" "Season.check_not_over" Wr)
  (l45:LMe K zn4 "check_undrawn" "Season.check_undrawn" Wt)
  (l46:LMe K zn4 "check_round" "Season.check_round" Vf)
  (l47:LMe K zn4 "check_room" "Season.check_room" Vn)
  (l48:LMe K zn4 "note" "Season.note" Rm)
  (l49:LMe K zn4 "sheet_at_hand" "Season.sheet_at_hand" Wu)
  (l50:LMe K zn4 "sheet_of" "Season.sheet_of" Uh)
  (l51:LMe K zn4 "takers_of" "Season.takers_of" V1)
  (l52:LMe K zn4 "enrol" "Season.enrol" Sn)
  (l53:LMe K zn4 "draw_up" "Season.draw_up" U1)
  (l54:LMe K zn4 "away" "Season.away" Rn)
  (l55:LMe K zn4 "step_in" "Season.step_in" U2)
  (l56:LMe K zn4 "close" "Season.close" So)
  (l57:LMe K zn4 "take_back" "Season.take_back" V2)
  (l58:LMe K zn4 "at_hand" "Season.at_hand" U3)
  (l59:LMe K zn4 "deeds" "Season.deeds" Sr)
  (l60:LMe K zn4 "goes" "Season.goes" Ro)
  (l61:LMe K zn4 "why" "Season.why" Q8)
  (l62:LMe K zn4 "may" "Season.may" Q9)
  (l63:LMe K zn4 "facts" "Season.facts" Ss)
  (l64:LNe K "_law_whole" Ot)
  (l65:LNe K "_law_at" Ee)
  (l66:LNe K "_law_mix" K3)
  (l67:LNe K "_law_numbers" Y1)
  (l68:LNe K "_law_clubs" Xp)
  (l69:LNe K "_law_one_is" Pb)
  (l70:LNe K "_law_list_is" Rp)
  (l71:LNe K "_law_tuple_is" Su)
  (l72:LNe K "_law_rows_are" Sv)
  (l73:LNe K "_law_is_filling" U4)
  (l74:LNe K "_law_stuck" Ox)
  (l75:LNe K "_law_left_just_where" W2)
  (l76:LNe K "_law_is_chain" Sw)
  (l77:LNe K "_law_steps" Oy)
  (l78:LNe K "_law_to_free" Rq)
  (l79:LNe K "_law_chain_is_due" V3)
  (l80:LNe K "_law_is_shortage" Uo)
  (l81:LNe K "_law_deed_is" Rr)
  (l82:LNe K "_law_deeds_are" Tq)
  (l83:LNe K "_law_first" Oz)
  (l84:LNe K "_law_met" K7)
  (l85:LNe K "_law_bars" Mu)
  (l86:LNe K "_law_open" Mv)
  (l87:LNe K "_law_paged" O0)
  (l88:LNe K "_law_matches" Yh)
  (l89:LNe K "_law_do" Ep)
  (l90:LNe K "_law_stepped" Rt)
  (l91:LNe K "_law_deed" Mw)
  (l92:LNe K "_law_pool" X1)
  (l93:LNe K "_law_people" Yd)
  (l94:LNe K "_law_enrolled" Sx)
  (l95:LNe K "_law_rest" Wx)
  (l96:LNe K "_law_rounds" Pd)
  (l97:LNe K "_law_cell" Mx)
  (l98:LNe K "_law_facts_are" Ts)
  (l99:LNe K "_law_chain_fits" U5)
  (zt8:LNe K "_law_round_fits" U6)
  (zt5:LN K "law" "law" C7 f101 o101 v101 d101 m101 c101 t101 u101 n101 z101)
  : ∃ fd:FuncData,(∀ (s:Shared) (v:Value),BindsTo s fd ⟨[v],[]⟩ [("_law_script",v)])/\∀ base:Heap,K.In base->base.Ns mainGlobals mg->FnOk l.prog w K mg base (CX1 l.prog w) 10 fa fd ["_law_script"] (zdn K):=by
 have e:=hfa.symm.trans (mg_of X G zt5.b);cases e
 let a:Ad:=⟨zrs,zop,zo4,zou,zoz,zoy,zp5,zo8,zo1,zpr,zpe,zo9,zq4,zp0,zol,zo5,zn7,zn9,zn8,zn4⟩
 obtain⟨pg_Ledger,hd_Ledger,po_Ledger,sa_Ledger,_,_⟩:=id ztl;obtain⟨pg_Roster,hd_Roster,po_Roster,sa_Roster,_,_⟩:=id ztk;obtain⟨pg_Sheet,hd_Sheet,po_Sheet,sa_Sheet,_,_⟩:=id ztw;obtain⟨pg_Season,hd_Season,po_Season,sa_Season,_,_⟩:=id ztm;have T:#[k]:=⟨⟨pg_Ledger,hd_Ledger,po_Ledger,sa_Ledger⟩,
  zp7,
  zp4,
  ⟨pg_Roster,hd_Roster,po_Roster,sa_Roster⟩,
  zpb,
  ⟨pg_Sheet,hd_Sheet,po_Sheet,sa_Sheet⟩,
  zp9,
  zsw,
  zqi,
  zs0,
  ⟨pg_Season,hd_Season,po_Season,sa_Season⟩,
  zsd,
  ztr,
  zpm,
  zpl,
  zq0,
  zr4,
  zo2,
  zpa,
  ⟨mg_of X G zrb,zsg⟩,
  ⟨mg_of X G zrw,zst⟩,
  ⟨mg_of X G zp1,zrp⟩,
  ⟨mg_of X G zsl,zs8⟩,
  ⟨mg_of X G zqq,zsc⟩,
  ⟨mg_of X G zpv,zq7⟩,
  ⟨mg_of X G zp3,zro⟩,
  ⟨mg_of X G zrl,zsj⟩,
  ⟨mg_of X G zrt,zsv⟩,
  ⟨mg_of X G zsx,ztn⟩,
  ⟨mg_of X G zqu,zr6⟩,
  ⟨mg_of X G zso,zs9⟩,
  ⟨mg_of X G zr9,zs5⟩,
  ⟨mg_of X G zra,zsh⟩,
  ⟨mg_of X G zpk,zqf⟩,
  mg_none_of X G zto,
  mg_none_of X G zoa,
  mg_none_of X G zrr,
  mg_none_of X G zo3,
  mg_none_of X G zq6,
  mg_none_of X G zoq,
  mg_none_of X G zsa,
  mg_none_of X G zt3,
  mg_none_of X G zod,
  mg_none_of X G ztv,
  mg_none_of X G ztz,
  mg_none_of X G ztt,
  mg_none_of X G zt4,
  mg_none_of X G zt1,
  mg_of X G zs4,
  mg_of X G zrw,
  mg_of X G zqq,
  mg_of X G zpv,
  mg_of X G zp3,
  mg_of X G zp1,
  mg_of X G zsl,
  mg_of X G zrl,
  mg_of X G zrb,
  mg_of X G zr9,
  mg_of X G zrt,
  mg_of X G zra,
  mg_of X G zsx,
  mg_of X G zso,
  mg_of X G zpk,
  mg_of X G zqu,
  mg_of X G ztd,
  mg_of X G ztc,
  mg_of X G ztp,
  mg_of X G zs7,
  ⟨_,mg_of X G zrf⟩,
  ⟨_,mg_of X G zqg⟩,
  ⟨_,mg_of X G zp8⟩,
  ⟨_,mg_of X G zpn⟩,
  ⟨_,mg_of X G zpu⟩,
  ⟨_,mg_of X G zq8⟩,
  ⟨_,mg_of X G zr7⟩,
  ⟨_,mg_of X G zqk⟩⟩
 refine⟨fnOf "law" "law" (Sz C7) (Zv C7) (Zi C7) .none v101 d101 m101 n101 c101 t101,fun s v=>.of_eq rfl,fun base KX NX=>?_⟩;have Z:XG l.prog w base K mg h:=⟨X,G⟩;have ztb:=nE Z l3 ztl ztd fun F=>Mi F T;have zqy:=mE Z l4 fun F=>J2 F T;have zoc:=mE Z l5 fun F=>Fq F T;have zqs:=mE Z l6 fun F=>J4 F T;have zrz:=mE Z l7 fun F=>E7 F T;have zog:=dE Z l8 fun F=>Ft F T;have zrd:=dE Z l9 fun F=>Fu F T;have zrg:=dE Z l11 fun F=>Fv F T;have zth:=nE Z l13 ztk ztc fun F=>Ml F T;have zom:=mE Z l15 fun F=>Pt F T;have zqc:=mE Z l17 fun F=>Kx F T;have zph:=mE Z l18 fun F=>Lo F T;have zo7:=dE Z l21 fun F=>J8 F T;have zpg:=dE Z l22 fun F=>Dc F T;have zqt:=dE Z l23 fun F=>J9 F T;have zss:=dE Z l24 fun F=>zf2 F T;have zpx:=dE Z l26 fun F=>zc3 F T;have zq1:=dE Z l28 fun F=>Ib F T;have zsr:=dE Z l29 fun F=>zbo F T;have zqh:=nE Z l31 ztw ztp fun F=>Lq F T;have zqe:=mE Z l34 fun F=>K2 F T;have zpj:=mE Z l36 fun F=>Ol F T;have zpf:=mE Z l37 fun F=>De F T;have zqm:=mE Z l40 fun F=>Ii F T;have zry:=mE Z l41 fun F=>Dg F T;have zon:=mE Z l46 fun F=>Pw F T;have zoe:=mE Z l47 fun F=>Oq F T;have zow:=mE Z l48 fun F=>F8 F T;have zob:=mE Z l49 fun F=>Qe F T;have zqo:=mE Z l59 fun F=>Io F T;have zoo:=dE Z l64 fun F=>Ai F T;have zoh:=dE Z l65 fun F=>zf4 F T;have zpi:=dE Z l66 fun F=>zc5 F T;have zrj:=dE Z l67 fun F=>Ef F T;have zr3:=dE Z l68 fun F=>Aj F T;have zr5:=dE Z l74 fun F=>Ak F T;have zsb:=dE Z l77 fun F=>Al F T;have zri:=dE Z l78 fun F=>Ek F T;have zr2:=dE Z l83 fun F=>Am F T;have zs2:=dE Z l84 fun F=>zc6 F T;have zsm:=dE Z l85 fun F=>zbq F T;have zrk:=dE Z l90 fun F=>Er F T;have zqj:=dE Z l0 fun F=>E5 F T zoc zrz;have zqn:=dE Z l10 fun F=>J5 F T zog;have zov:=mE Z l14 fun F=>Nd F T zog;have zq2:=mE Z l19 fun F=>J7 F T zom;have zse:=dE Z l25 fun F=>zh9 F T zo7 zpg zqt zss;have zsp:=dE Z l30 fun F=>zbp F T zo7 zq1 zpg;have zr1:=mE Z l35 fun F=>Ae F T zpj;have zpc:=mE Z l38 fun F=>Fz F T zsr;have zpp:=mE Z l57 fun F=>Nh F T zqc;have zn6:=mE Z l58 fun F=>Lv F T zoc;have zoj:=dE Z l69 fun F=>Dp F T zoo;have zpw:=dE Z l73 fun F=>Lz F T zoo;have zpd:=dE Z l75 fun F=>Pc F T zr5;have zq3:=dE Z l76 fun F=>Iv F T zoo;have zo0:=dE Z l86 fun F=>zbr F T zs2 zsm;have zrc:=dE Z l88 fun F=>Eo F T zpi;have zsk:=dE Z l92 fun F=>zbt F T zoh zr3 zrj;have zru:=dE Z l93 fun F=>Du F T zoh zpi;have zrx:=dE Z l95 fun F=>zbv F T zoh;have zql:=dE Z l96 fun F=>D1 F T zoh;have zsq:=dE Z l97 fun F=>zbx F T zoh zpi;have zsy:=dE Z l1 fun F=>zc0 F T zqj;have zs1:=dE Z l12 fun F=>zc2 F T zrd zqn zrg;have zrq:=mE Z l16 fun F=>E9 F T zov;have zqd:=mE Z l20 fun F=>Kz F T zq2;have zt0:=dE Z l27 fun F=>zjr F T zpx zse;have zqv:=mE Z l32 fun F=>Ig F T zqh;have zpq:=mE Z l33 fun F=>Nf F T zpc zpx zse zqh;have zr8:=mE Z l39 fun F=>Ag F T zsp;have zta:=nE Z l43 ztm zs7 fun F=>Mp F T zog zth ztb;have zoi:=mE Z l44 fun F=>Rl F T zn6;have zox:=mE Z l50 fun F=>Mr F T zon zoc zn6 zob;have zr0:=mE Z l62 fun F=>Dl F T zob zr1;have zqz:=mE Z l63 fun F=>Iq F T zn6 zqs;have zo6:=dE Z l70 fun F=>Ei F T zoj;have zq5:=dE Z l71 fun F=>Ir F T zoj;have zpo:=dE Z l79 fun F=>Ni F T zq3 zsb zri;have zre:=dE Z l81 fun F=>En F T zoj;have zps:=dE Z l87 fun F=>An F T zo0;have zsn:=dE Z l91 fun F=>zbs F T zrc;have ztf:=dE Z l2 fun F=>zf1 F T zsy;have zrh:=dE Z l42 fun F=>F5 F T zqh zt0;have zok:=mE Z l45 fun F=>Qc F T zoi;have zqr:=mE Z l56 fun F=>Il F T zoi zob zqy zry zoc;have zrm:=mE Z l60 fun F=>Ed F T zox zpf;have zrv:=mE Z l61 fun F=>Dj F T zox zr8;have zqw:=dE Z l72 fun F=>Iu F T zq5;have zpt:=dE Z l80 fun F=>Mt F T zoo zo6;have zqb:=dE Z l82 fun F=>K6 F T zre;have zp6:=dE Z l99 fun F=>L6 F T zpo zo0;have zot:=mE Z l51 fun F=>Ng F T zph zqd zn6 ztf;have zqp:=mE Z l52 fun F=>Ik F T zok zov zoe zow zn6 zrq;have zqa:=dE Z l98 fun F=>Ja F T zqw;have zpy:=dE Z zt8 fun F=>L7 F T zo0 zpd zo6 zrm zr0 zpt zrv;have zp2:=mE Z l53 fun F=>Lr F T zok zs1 zoe zow zn6 zrh zot zpf;have zpz:=mE Z l55 fun F=>Ls F T zot zqe zpc zqv zpq zqm;have zq9:=mE Z l54 fun F=>Eb F T zon zoc zom zoe zow zn6 zpz;have zrn:=dE Z l89 fun F=>zf6 F T zqp zq9 zp2 zqr zpp;have zqx:=dE Z l94 fun F=>Iz F T zrn zps;exact zlm (Nv zt5.l zt5.c zt5.k) T zoh zta zrx zql zsk zr2 zqx zru zsn zsq zrn zps zpw zo0 zp6 zrk zpy zqb zqo zqa zqz zoj zn6
theorem walk{l:OpenLaw}{q:Program}{loose:List Str}{XP:#[R]->Heap->Prop}{YP:World->Heap->Prop}{d:DefRec}{K:Params->Frag}(hn:l.most=some 63)(hdf:d.params.defaults=[])
  (hY:∀ (w:World) (h:Heap),YP w h->(K w.params).In h)
  (F:∀ (w:World) (mg:#[R]) (fa:Addr) (h:Heap),(K w.params).In h->h.Ns mainGlobals mg->mg d.name=#[c,fa] ->
   ∃ fd:FuncData,(∀ (s:Shared) (u:Value),BindsTo s fd ⟨[u],[]⟩ [("_law_script",u)])/\∀ base:Heap,(K w.params).In base->base.Ns mainGlobals mg->FnOk l.prog w (K w.params) mg base (CX1 l.prog w) 10 fa fd ["_law_script"] (zdn (K w.params))) :
  WalkO q loose XP YP l.row.toRowW d [] (fun f vs=>PySem.call f vs) :=
 L2.zi0 (n:=63) (k:=10) (x:="_law_script") (CX:=fun w=>CX1 l.prog w) (sp:=fun w=>zdn (K w.params)) hn ⋯ hdf ⟨rfl,by decide,by decide⟩ hY F (fun _ _ a ns hl _ hS=>⟨a,ns,rfl,hS,hl,fun _=>rfl⟩) fun _ _ _ _ _ z=>by obtain⟨_,_,_,_,_,_,_,_,_,_,z⟩:=z;exact z
end K42
open PySem PySem.W PyProof.Rows
local macro_rules|`(command|universe $x*)=>do
 let t:="0123456789ABCDEFGHIJKLMNOPQRSTUVWXYZabcdefghijklmnopqrstuvwxyz!$%&*+,.:;<=>?^_|~".toList;let mut a:=0;let mut r:=#[];let mut s:=x[0]!.getId.getString!.toList
 while !s.isEmpty do
  a:=a+(s.take 9).foldl (fun n c=>n*80+t.idxOf c) 0;s:=s.drop 9;let i:=Lean.mkIdent (.mkSimple s!"tw{a}");r:=r.push (<-`(command|def $i:ident:=Nat))
 return Lean.mkNullNode r
namespace PySem.W.Fast
universe «BM%bPIn&O44N81Aq&b2?m6PaW>f2JHqz^w7jDsaB1S7kl4dnkI3>3<5lx>lC4F&2&R4=W!p3TN1MP&S;l12knmhb5C0YJtEm~nf2cTwqoIyS0O2><^^yh5XBYxoA_A4UQ>RxaXrg:S5RW*gHChYj*tktO4in<WQR+<N<xWuh+U5LZrkU7Ufw1ql%y8kDf64idhpD&Poj,>dR<tt9~+VSliYaENCMzl;L;Es1KFn+ah5rgR$oDT|0%905pZNl7QiP+>5$!20Tn9dUv25LFxH9NEQK0atdiC!.2EY*kx:!z2,|+M2KIvA!=pp5jt>2!%_Z2!:k0Vc<n_.Wej~W;jpoFKA0OO**M?U34,,o|^tX7~oD$~X+&5a2Gy$D%s1O?A+38tAA|BUA7oy*1;LDAFr.30;Nw=efaOEXC>el!!k4r?M3Lgxj0?VYyr;iS3;Hd<%fPK9j$nf4LLA9D6R5~beBGt$G=OrKS87uqgzK~s6q.ayxrpT1q37*tD~GCSdQICLfh24$LNr*w;91<Haob,Q7CFzuuFSQD>J3xy00L3na*AFF<|9Xx52^tmtGsB*r,Xjj0o<fUN*04M%Cd&|4t&B$DAk1rf;4X_*dfn1k91F_f^o:!0So+T_yQ526&dKRbks4id$?m|>37VZFgUtr_8<wh:.;DS8FEko_^zgEbEYqbmC0GDAbfIK+n7B0gcJOSVTC>RM:SpJGLXDvfu4OB|Qc*5eOI0RN=T+jR,7.&_X*kf=OelobpiM%1!HePgqQoB>Z9m~LAdCWsyCTczd8ket,9k%ERsTqIfAPf4arQ*pLQIBs:qr&r3c1C<G;1JE%2:B*2REX76Q&9,Ac.<eEmg4a>qU8?JC3jw7103t|<%=j?6ciJRvARSI7CNZ.E&521*m9FO<BC8<G59GPg2FZW~k.zZ1:7f2T~^*6gcECz5pm1T^2y0zGMMq%:+~hOv0<LUK&,VA07f&E7dti0vWLvkSDY1~+Em;d7D4:T_*&*<%ChGs+e2$K1Y34rRC!&4v1=d+QMS5wKy=ATMWE4;xv.O5%2vjX!UeK!HmmaZllTj1~^1WfQyoAwU;!Ncuq3~%2y8jN457L7|!Od^8$fM8uHir8%nShW&tyAis^R%f7z2L1Gx!5lVJadT=ax*R6CF|74&Z3B>lUKmuM,4PauMcczG0c67Lgh!CKwfAeo=327w+ysgr.r8YZ4m:xxi1_ej|U07lTnH_dPs$G4Hc.nA^;XI|;m|~gjw9W+7E82i.81Es9RId_2=5qnRRv|S+SUG25wy0*Z1m;TA!43bgAz0562L+ezXkhqBv2z5I^gbB!jY4EXzZ052|Y.bBf2e=lByll=aFN_B~fwx0_0y8|$9f3hsR8j=sAAUmN5hGYq0agGGQH3a5LN+IEHJd8pI:R,h%l9b;XS_d:<B9rXnN,2=6XrnAt.F.FQ3|_WVe10k16oXd~w6UT;|?<2AC$=aKX3MKHmASjM6J*3&zw7.GC049~v?pfTH6OlyF7_WYB%;UDgk+c0NGOq:h+H7u%03KGYE6gpglPHQ1BoidJhKsv8sTYvwpy&GwvNrS>FC4zZtHW1n,2iv6u&Z5jG0$$yczdF20.coI!tADO0B!>F7|0TaLkh2HD4u_=^SEJj3Z1:>420gLLO?6FxTS6caO;UD>u5sC8&8XfJ2CQXT?=FMTBv+<,u:~0Uop2:Wvg1%_hKvV!m6%MwX;Y9kAeoIusMTJ72I7xPs5?jA8=cCfkh16as,G:d2GNcH=tw0D6ScQzyTtG2;W;H,B9r1mL7aWh!$7wmg&$E$oCO6gq?Qlm2rxR>UnL<3:?WboaW=7nMxUc;r.3VIS1?wSX1AM$=xT|z7kyaz2.t~BX9aIJU4N2CbEo^h$D46,ukdzzITnDn0uS%B0wnAFkngQ1!;Db2+8X44.SO089QDi?U!_^KvHdXNy<?^k4lrX*LeceA1~JTd1rVBfQ*I|n5w5d30N>3EM0ij~?T9Qf7~<jaTLMK8s3ZF%ugK9,:^?3p|S6Kz>iTs1.7YXGM.Enb0h,u+SqBr8Csvvyn+UK73vKC:AQBu8g7JU<;BTD>b~jxc16zFF$sLRDZlS|R%&gAx|pXh3CO2737|P6O2Cs=SGt=I_lkdA~ULEo1+ikUN+^j7E~5D;i^11,c0Sa2$j4xpd.3D1zCBBpwh^ln4,!=UlfRk2$5TGPUM1C:ucxSJ+E1VgwglZY*Hs<m=6cs+1DrtfiB5x72q;B=PnEL$oGE+|?22rjU*;dUD8p%_M.RO9PGd~b|UdX0|h^NBD%MA_OceZa5^6s|a%:?na22>sQ+MkfC3u2EOZtt12Ksnt86X1Q!Sw,yFRc5U5Xfs3*3|;v7IhH1BYgIUIy0$2hvZgPJL.1g;PMvf;82>**7;O2U9$p+V^0rQ0NGy;Ow?O0CWxeL3x!7LQ:Ow6Cu4X9ZWhEYZ7p+;ofH>cWroiUMV9$0yeCkBxf47flQm+f*vC|e3^eeA77C+KIv8UZ8nwh6?Xj%VVxvcGthbU;De3~R$&IQh0Pvyh=01ZbsEmcs0iwU4VniAB0s.*cpFO0ukXdgqy<GcTofs:$dAZ3,=8~+q4hy>,bw544f9^F4M&*D,9_rjGGkLnivDwKpz3KXO;aSZ0D12QF>F&|IIzF?,FjH7l2G3TnX*9;uqz.rxi1_e!O&N6!C+8Jj&WlQ2;BQ9g.|YL&>=_CIUeIr9q9&MK*4ruJgcP;v3KGnMX7LbQ,<pccMpL1CmC*T%TI4*q:s29dyc_4nqZcLBFP!sSxo_JN%^pzK9t$Crpcg%cQL1Ij=WDCox7GQ_5mNd65hyW,Kaw;0V%q8CD&b8bo7ym|;Y2xSh4VY9U0U2by5tqX3dLUk3Cya3L*|RCg9;62L^57sr68b3tVahEd3?_;S+<L~1H8Ua+D+2X3UnJ*L1xCi|R$FVC57_A,.t!bQ3QT*PztlS6>sLA.hes1ETK?4qM53EbBNEg:yD94KgeWSv0E^Y=%0pv1QNNS~2UO2DQ7.R3fi0$8SpXUN=Iw9i%69Qy3<18&r05_2Q~rgz1jZIvRFUf7GQB>.lXXH2L2Ihau|?qK99law<9SpINQiqnmygx2;*ud!>9K>DlKdFx~H;dB*<8%D4B.MXTt|?6=F8%M:hy5BrH:7d4x5_+lY6xMV1a^g&0o:51Io*6ukd$13_Iia3=10eH+QUNL&1gE*,0y.1F4ic^SScA6$uvq,HOY3nL+;URD|15!;:uTCk0HZnLnejz58S>7:qiD4,L8mve~<GJc1W^rbQ91KYGiL:b4l6:OE6%<2hd.q4md>FlE%N8?SGFkW!6%QN!WJ_,v+i?uQl*B^u!4E1$q1ZDY*m2!Br<pVC!BHF8zSp7l21aaMv9z6QIAYI<?wRG6AX*o!*%Kqx_59Fzf2F=r=0iI%LsIA5+VMQ172E9.TT+8q0+fxu_41sXk!_fpNFp7O|!pYxKgVK>QnRUD%GfgWxJn0MB0ouPjG66$~+9N.&1XxmmD1iDC_AS60MnxG6A~3|PBk6gW_ov?Qf7bO*.>4w<Hm>dv1+zh4ShFJWZHb1wd1r=OPuLF!$G;~7V38MVQpws6OAtXdThZ1Ge6A~id>F6.v*Zo3u48y;$IVe!+8&_;ovf+,73m*1?jq86j;y8Ko?:2H*4fb&m:CJ|ISQpT>3A>W3~r4Q5QVaMhf&h2nQj$m&mh5YILGG?9OL&<6FxwK45oZF>i1~i4KB2Ces=>AK.1zk~;Z1EY19t$M_5Z%<cgk&LCLqh!~G~aC<7=NS=3SKu*MqcW!G1vM.<yp4u0:Ijn$KPHF%?7X,,pa7a&F,~Ic|3|>|J5W;d5H$id<tJ2J3G7NPvLa3;jF89sxXI+5!N>~Xr5uicWlySu42G_Ul;xZBBCWGShb?92nNkp|&N3yc!;jCe+5,YZICt4%04|pAh|jtDdmg&Gksw5+bEHR8so5M:S0C?$133uTB:k?S01B2~+1z54d:>LtFh9AaKcca<;~4nj7d3;r57dc.AjR~&1<G;h&AF:0F27|Kv?69=mPu.68195hd&e?Bl8J8dqN&&M1oXyVMB6y5=m?Ewxx2I$$0b*$o+2TyZPTQJs3nNO;Yb3<1lkTZzlW8G=P1JKJS>3h^ZPxz<T0<Y8DZ~F75B:Ce~y&U98Xrz_$BXB!brR.0Qr7_il8S~7A0>,v=K,uw221ZKkoV;3raYd~zrF3oiv$VmI.P|,ore:yK2PfwkY&GK8.kEn15h7blhf6Qp,39O<$DshTc4|SlNPC5TJ6!t1D;<21hMC~cU&!5xSH2~&EI26=CE4:XC1Hhfm!BfV5j!:Dw6OABzzJsV6;69zp3^t%^43Z;nP:lz4EPHY&6f1C4IShPNlN~G&FPhy2+.F+5IIdYRaTk0Dyy3Qt0XJ36?,l&7Jt%=Yx=D0O?x87?~C8fIA|i;!B4~,bSzO8w5*U9~+Rd?7fe4XvZSjK0A2=wvrx1kjr+ZmdVJ9Di3*FL^0V2ubOdVUM68zZfYm7D%2hkLOp|2Ps&VnWt|5b$2~W%qz1Aaw~rYOd7O7KQnn:_Cm_5L$g>j8en7V*u8*1Bq3dFOF61|?bFRT+?5QWPr?<~,Jqa~6,PK0Q.z1v?K&D52WFe=qj$0izn%dJeK17LeXenA<5c4et=BfGI&_jc7dAF32O_w~P6p6AgUb%ygJ8?Qg3wC~p7&qj6|Sy<2?XR_v2JL0e9tyL.k+5j1>8Y>1?T2dGkU<L49%3njDhHN0JM0TshO_6Q,xgv>9~1*!dVAnRk9,Mlx,nd_C0Lf,%2CE0yh6XHrETI4HByl:8Z8PnpDFM|_0GRJ6xYgB8IcLxBCd54<h4xcqnfA;4R&0Gq7QG;i7zBK*06meoK.0k57v84V88R84tc3LBo794BfnBZ?JG=^RQV>s,F7oFUlc?F3xqyi,3J755fQ^^zP56m%KBleaq3CvBexgk$9y7:CvzCI3IE5|w32G1<B&km40q2g7YYrRFr9pmhyBpWo6FhlFvB+.3b|4$V!iIK4VnWT<ka0sO2Sh2wCHIOsB|8>,4pI5y~1503GF9FA8435ZyAfi$K9CPy1Br0f6Lqum^wH+F6yhKDi=JwE_&C9~O,Y2O6I;iFLv7g2!xn8il5_?9qmNfC5oh~&2K<u2L>66jQIq0z6zl,7SL0,:uViVC85W2Y6QOVN4r8Q^1SwX14Yv^W^W4BY~Y;=IDXEHoEE*&s:J_B3Rt3HX1c1x2LW:O0y6*r<JJ&4~DT?T^h32L=mTXk3:3iTlUFG5+3AB6o<Ung94*,MH8PONVxRBgSxJ0GrGx|m,>8rK:yuQx500YTQr%,X1DeKEDyQH6+s&zSgs_1LB0P!K8Y0AFmp,Nbm5nk1gamFT71W60&Dm&6U4e%~H|EDs~_+jG?6C?nl0:uUF0ghl+s?F%FNr$FQ;Wk3hr>D,v0p0+~~X~KP=4uq?2lBvZEFc2Io5bhO0I%Q*jAG2A_D12o9KRFP.O~8g.Li8+%9j=xBR,=:gY|J0.V?I%KPw2eb$zl5|aWrv$lZV9HsBP1ToFxZ9;bw$2>9b0*eFetsJ=04u9o*vIY8CaiE&Ev.43qRQEg=C7MuV~!V$_9g$BDZ%!C5:K?$vdcK4&CYzY~3.1<$K.As:VG~CuK*4UeD!k?Q$NIADa%0uY*y+1$RqnoK&v40=yl:~6V3ZB:5uz6YVN+Om2CDG1bCqykZyt5Yw^Sw>mrCty8_u>*a7bAduM|$T4D5Sc4A<m1*EO1QFSH3;rT*rDgF1Dy3y!i9r3P7|h^d>l0=_^>sy9a5:o*=kmvO9E5KvjPAK2+WeL%hCT4;LA8hXqYV|geLAALH4aTMuG7VFaDDhFRTX1NYV*=E0b&NG>5_>bW!9j_O|tWuy9wUMzb72CGi.?rY^TJ4xqv,&J2J1F7C^sorD905in;Pb3Ql_Z+_TDe3.H:Xliif3uRfSwPVxGL^d:?ai*740C=6QXN8>qbfhQqf4Z*>HS,&i0GdomCFrvWifiH9PQGL.z!|n4;QNKif+kmCK8&crxwHcO7^t~vu?HUBn!8jNrjSL9mfJdvZp4QLl?|:J8dSvfE+pf;8XO9099VY2h:Y.uG?w6fuTDF>:CO47TwWgd08c.lYz~mq8&02gtc*P6jBq,x.7r322b8Tp0694D$>k<>H0LTK=1pfy8P^O^>tyRAIoU:Yaoj9:.I=|KxEEf,Sk5o+B1EZX<RraJdnbzv3>HT3bS%kim4U72r.F:Aql6DS|gskAW0j8j5o*:wC1?C,sAls8=BjbCk4<5*NVta|7426+JP!KWgOIXl=<kzY3mZEY&Q&E0,sY9$BM&7|kib=S+J7Tf+W3bZ$3qITA1NM!PWZiz$Htr4*oMXZMlU0T0lbxx2%Bb5zINC,m5q.2Nq+VsIOTJeEmKp7rC4*6c:v3+wCX9cG;7Kbt2SvAGEQ&M6cqhL0Hv+FaES$6+|ycE32,2%!x_om8O4Bwmp!;B%FrTL?Fy|t8TM.SOP4J3K=VuNsWr1pVI4uF>E10n^Af~umC<t3T.F:Q1vL&?9SDR89mXu%ql+5!MoO3MVk8J.!s^G!C4:|e3&3GEB2y;LFNWp0PE3K6aws2MvoyVc=iAm;Kc+F$70qv7fR=8r03RAhj5QA5qnAMOdv.7E=5zTrrb6B_SSo6P!POZoT>>k27CmT~BM=21bZBGzT4*8=Hr8vU,>2Yy?S!$M?DDsD6Gl<%2?>PPi<Dg9DqS=dp|F3QMHNB+lK37^Y.Rzhn2eY,Wo~2+6SRarrrF*2WV!+K13,0+d$Dyq?GH&Em<~>%41xS25Z=?g1aSeJ|f+I5ZI6GkF*<K;dhq5%8q37=q|.oue88c%k$&jF3.aibpPr;4tDC|gYB%21JJfYN3V3o;pXweYi9m$FUSTJH1Bl94R~Ve3^0y*XLZBU1TD76vhvIef81!z:^NogYqv9!AJPVfV2W<E4v>XxXAz51^k<ksl2hF<ZP%Qyw9A3UbiwPYJ4+V!XZ;l,7hpP*2nZ.R4vHvIwbW7eCqcVuMfQF6akG&.4JVi3CeG+64X&4e3r;Ifq59C?gO3B6!EaU>,s4,xoK&4rKA1P5D^^=70rXOIYXkT9y~7E1A.;1nbwPKb+l7*pkrd.p*79g7,XF~hNcf83iY8>2oH2pIF2~1nMyTG*%40Ku,o$HiHCokp166^>NxSKD.o7,2L:h9SjPDD,|Ssj+p^JZ7J:eXnfAGv3sgS2M2jOTH|xTl529=2mj~1WzzROsQBI335$|i_AHA|j_OE*pBBrVIRXDVO3X<;O1:MK2A9^oS9g6Hf5~xDnNC0|c7%>QnS8mJVy12bR24kRxaXGvBeN^uTtbN0!n.n$m<Ip>d68v=nS9$?HIZMz|4%%EdnFZO1;%bk::1h3%ExI~izK0%JMwZ4RuA99iA,GHU3g=v9e;r+Ju*X&7YSB2js=XsFlw4l%UQVJOs6>B4>3DHm0bSiYg^4.Dqd9wEP:JK!bbMS|xE0fKr,psYsZdE&6a5gv0Ed6&|?i$4BEnfW?G$2pU86e<<93SxaRj=<b8B%bD.:Kz1F,iWL&5tXU&:xThCQ7KTnhvO?p1v>ZC;n$WG~+vFNKo=CCLXn6Cgb2O<pKgia3L~jUc_dLP2TSjJyzxHHr|9=a5??3Ys0bh0IpAK+g|kn<96+L%>.cn.1_g?m5T*Fdcsk*OmlI63I3B_W%k1mF^OuaPh6DQF>cpd.JXvZLBB!TE|c;U:!di4skK0x=JuL:lSmNyFI3NE$B&DDZ7|4J.ydwrBQxg~hc?+09H*xFdYrGYs>mUa>80?Ys;R!~37:K9g*&?H4j<$c+BJSAcTDu.9<>11PAjIqE$LnKUxm3JF2m4402=+e9oDFGKhu22A|yDwKcSF.fhA0Zcd5GlV1VN4&20IrGv>0o0XQTyQx>*Z+knc>b_e0.AGT$o;IJvl4eJ.xS9Cm,r2+C10CpPI6Oc^1t~mq9GAA8pm,zeIjO4*J$_~opw6dSt0ni:>0r+jou;9*5g4xCZqR,0<=eFKduHNrD;~EIJH1tVJzFM=n4.w<jDlCx2hUqYuB.90$MrdqF9mB8_!BbX$tL?e^Vdstg8~w5!.Op31|:wWI|6?1IQ3=VmQY7lWoncdry03oSfVK>;8Wij!_45i371dO;LRL2&_^qigNb4uVvsu=6BpG3!FWL+UJ>e,ZB1tGC4*iM~Ga9c.UA,J7Y^LuADU_%VlKPcy_<M853ziR^,<ya2ScNybHNQ2eu3ofL.i09DiKd0i?Vs<!v3M*jRGFGl.PN~DgWiBlwLV7TZQDo$0s3g<^wu?>xGjzU8I*bQ2zm2!!doCFV<I3ZcTc7L+DF;.O$K_CneYDsG4PR3L6!PC9OsP36BL7DN9ccYlG07M!_3CQWWB9UUec?Q97,>=RF?d40E9hM9B~_8x,7sfqzn3MbFmIjot6ljznOow+3s>z.YeeFB;WsJ<uL98l4QCZEd:S1rF;RVTP0OcBSJtd9IRO=9;crn25lcs1+AjC6?XL_u*&8YdI.:;YG03%%k_LvWWH59WxVnprKtDdsgISUmzPC515L7zh.+=&IMSsJN&lNxLw?F7qYGw~4>yv2P0fb6H%=w%AL:IbrcB2EVK6Y>Op.S:c4J!&6fk3*A?:TY*%%vFJ.JW;WG68TF_zF^QKHl=>cnR+g1V+0bLoQ40&AF+M5lt1Jzz;fVX01eJp;~gk>3J%Y*2^vs5$|f5ZGUI0c%53.Cic1u<|e*BKi3r%VbBGbE3G=tL~mH>E3+LCES:a0Ceu~rq^b75?T|<H7c5,SnydV*i0=oSxPczz9>K$A<^OV4;C2Ut<tL7zSK+4>d9IW,aY$Xs12vV80wK,h9T!_?P%iM1yJxR<h%&0IM,TxPhGCAAVoDZaM5,>IyKfLO5!JZdiW3N28Yhz~qmw0.FCXo=+p5o,aW>5=A6$SsOHdsn7?>SgH<rh2T^vJu<C,7k*z<uMHM2D:5?m.806*?+>RgR^72U03PkRvB==LVYlHh9swjh.jy53ts:mM%ko0UdxsV^I?4yoQ&VZkc8ZPLD&Xbw0Cj:5&9tdI.N6~?7uVF|UMqeiaw1>x0jVv4pG69vb^y+T747,kmb2=Ao~mnRzuvxl%ol5Lts2w<i~_r148UEFu:p9YFL~~x9;>DLxTxTevH04JiVt+nW=5Kv.U!Kpa2upy|AOAxC38sd^Jl=3<%xKLXfeIu_|&frdv0I_vVaaDmLeVDtCCS22wJqpg$S14KS_bq!VZ2$qUDq5s~2qb&l?MZ_3+Wjj3;U.3Iwoe$z&lDkIBD>Q0U1>^1bXjel0_jVWL=f|6<Plsh1IZ9PI.L0qKk7EG0lI,^XD6hD:Nhg^Cy6*+jSc;07+je:dPb0239jdJ!s1;%Z?pB%!26f~?OV4E2Y8cW$o0ZBdG<~Vi5S5rDh$mVV94T5M5%=Nx37>XU0By&9WJBCZ.AS3r9K6P~yn5jGTG1WGHRU%!vba,N9X=4JlTVSUC+,&:NX*1Lt0CA^sy2sQdmy7hP2eYfOK:UQ5Q>eD$dJj75U=0VT&JGol7$&_GvCDdj:MRrX29ZvkmQ7B96:hn7!u;1AK4pnewL4Q7GHRmY_1*N!E592.370rwuS2VBxB>|MBmKXFgt9^ku5D~u.e,pT9Ou4MM4U7VDVdeKfbb43GUDxIVwZGim,jDYTDA39=D8hUa2ZdBYWQig3G2_%JcsY5o0lU=>:WHM*d<6E&D5?05>WOzQ1hEnia?OJ3hH$B5k:f9lITSyu|*1w7ptFb6:A<49d.J8&9?qD!0+K=1,.jq&_eM8$tsMPIS%OI6t2Jq&V85qcZU1L2DEu8dHq=r3RAC00A%sO*cErXWqQ82z60B4qB8cVQ?<X.CH%G<OqgCZB*cKJ37JrH=gB8;U*n4$oFMCTkv7:wf+Xd;aA3*VwroEWJ=qp92TBq09V&nTnT1K=v7Zq*xV0?kYAOX0>7N+cJQ^zXF9cMBp&zgG?S7nWkam2*5Xg9sX8BCkZF2Vhs3IR>|Bg8M6N;0L3NSs4hZL<^C&zFaiX%x?ZnDVqJJjAZ43Kl_OYbntA<vFsP_CR5,4zXW6v64,Yt|TSDSPi205&FGH0YB%lIA!<2&u8hQl3G4xQ;sFuPn4tD9FwnjN8g4MTd<RxPK5%3YhHX1~T:K_Lr=3<13WT+iIH1ftUhH&M9bH4d+cfa4V8u7hI=119.zI~!Ox0eA=c9.KU8USAUvq9X5iKzrRd633%L^AUgtc5r:Rxd5>&4k2~YbnI>A:3=:0ktD0EmLNR<JA0a_R&fd*XH7+|z~rkOACpAPi<7y8,CuO?VlvAdYZx&$d&2JJsQ5sle0qw=M&w?U7mY^i*Kc,FfWA$L*Ja4P;dv$gQQ55MLIq;Lt0kLM:aO4YJvX8UePmL0^nPz*T4i1s^9ij*mm0T*KL>uH,7X4l=.|&7D?gPH+8dX1sEY3FQs=78iCQ2*1h5*Y.$cz.c6~W8_W9w?1b0fN*_nzA0m$qA?kX6kzHEIHZ;8.AcTSdb.0XlbXh:Yz2?Ps:6fqPGLU=Trz7W4$mQsWo$UAMuXo26pi0ic=^_S4y16vWK<w~L8iseHj&5|0!r.X^fO3SVpTO24rY0Z=*tfHs|9=E+bK4GZIx%y.zBPS1h!i.jN;!A=99y.wi:JoI*ocDa9I,y$Q~.EM5<FI|vw*BERbvDGVrmEIE7Ihwvx6<BSZ0!i|7Fs0..xMf0Bt_mTGk,0,sQi^?odAXY?LTk&_0yS$&SU$g5yTWC.ZxWFoSow=oV82ePCQ>o*R1!7%NOt,T1F.~T4Mj<5s|m$&gPd0U$s.hTXH2Cddwey=<6;?&,n+Rk9BoewSgVV7aHzi5qaz2iwU4vrsgPYlp0ZK*dPkz^hQ1pNlco5<ID880e99C_5t02SOC8msyWYd:5$5l7v6j<nO=F<m0uDWaqBKM0sX>a=9zX0flYY+g0>6~!22?Z5+A.*b7lwMf4+fGRz_hh7boVhRG.IGvyba$0nNKGOC;I>&B7q$&X~;w1FbvG?+V195X>v4W~M35bN*QWusnA~%vh5f$sBIT<RpM1O1!UA.E|EZ2MMoqw7iwLi2Ma,&0MI>G05KJFs9qk&4=D&d0HY%LZ?4?»
end PySem.W.Fast
set_option maxRecDepth 100000 in
set_option maxHeartbeats 0 in
theorem PySem.Challenge.cw_whistlebook_k42_whole_season_holds : PySem.Challenge.rw_whistlebook_k42_whole_season.Holds := by
 w_on;o_law;k_head;(case hw=>w_witness2)
 k_fill
 refine K42.walk (l:=PySem.Challenge.rw_whistlebook_k42_whole_season) rfl rfl (fun w h Y=>PySem.W.kIn_of Y) ?F
 case F =>
  intro w mg fa h KX G hmg;apply K42.zln KX G hmg
  (case zs4|zrw|zqq|zpv|zp3|zp1|zsl|zrl|zrb|zr9|zrt|zra|zsx|zso|zpk|zqu|ztd|ztc|ztp|zs7=>(show _=_;k_is))
  (case zsg|zst|zrp|zs8|zsc|zq7|zro|zsj|zsv|ztn|zr6|zs9|zs5|zsh|zqf=>(show PySem.W.excIn _ _ _ _=true;k_exc))
  all_goals first|(show _=_;k_is)|(constructor<;>(show _=_;k_is))
#print axioms PySem.Challenge.cw_whistlebook_k42_whole_season_holds
