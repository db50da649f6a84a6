import PyProof.Rows.All
import Wide.All
import OpenK.AllK
import Wide.FinOn
import PyProof.EqAt
import PyProof.EqKinds
import PyProof.TupleCall
import Lean
import KE.KDictList
import PyProof.MaxThree
import KE.LcSums
import PyProof.Rows.FactsN_abs
import PyProof.FactsAll.list_3
import PyProof.SeqI3
import PyProof.EnumIter
import PyProof.EnumMake
import PyProof.EnumFor
import PyProof.ZipIter
import PyProof.FactsAll.zip_1
import PyProof.DictIter
import PyProof.MinMaxWalk
import PyProof.Rows.TupDisplay
import PyProof.Rows.SetFrom
import PyProof.FactsAll.NoneType_1
import PyProof.StrCalls2
import PyProof.FactsAll.list_4
import PyProof.ListRange
import PySem.Challenge.RW_whistlebook_k37_whole_taken_back
set_option bootstrap.genMatcherCode false
set_option compiler.extract_closed false
set_option genSizeOfSpec false
open PySem.W(Frag)
open Sum(inl inr)
local macro_rules|`(⋯)=>`(by first|decide +kernel|lia|omega|walk_at "ar")
local macro_rules|`(tactic|omega)=>`(tactic|lia)
set_option hygiene false
local macro_rules|`(#[b,$a,$b])=>`(some ($a $b))|`(#[d,$a])=>`(#[b,.ref,$a])|`(#[v])=>`(List (Addr×Obj))|`(#[i,$a])=>`(decide $a)|`(#[P,$a])=>`(X.env.cells.lookup $a)|`(#[k,$a])=>`(F.okX $a ⋯ fun _ _ _ _ H _ Q E hr h=>?_)|`(#[J,$a])=>`(s.heap.get? $a)|`(#[W,$a,$b])=>`(Heap.get?_push_of_some $a $b)|`(#[l,$a])=>`(#[b,.int,$a])|`(#[L])=>`(["_law_found","_law_due"])
local macro_rules|`(#[z,$a])=>`(#[b,.tup,$a])|`(#[N])=>`(List (Key×V))|`(#[a])=>`(List V)|`(#[ak])=>`((backTo pos (starEach es X.env)).any (·.1))|`(#[af,$a])=>`(⟨by show 0<=sizeLine;decide,$a⟩)|`(#[o])=>`(List Int)|`(#[r,$a])=>`(#[b,.lst,$a])|`(#[Q])=>`(["self","number"])|`(#[t])=>`(List Addr)|`(#[w,$a,$b,$c])=>`($a $b=#[b,.lst,$c])
local macro_rules|`(#[x,$a])=>`(.inl (SqL.of $a))|`(#[c])=>`(some o)|`(#[ah,$a])=>`(fun z=>$a (by rw[z];simp[SAd.fp]))|`(#[q,$a,$b])=>`(⟨$a,rfl,$b⟩)|`(#[n,$a,$b,$c])=>`(Zn $a $b (Zg $c))|`(#[B,$a])=>`(eval $a X.env)|`(#[y,$a])=>`(⟨$a,rfl⟩)|`(#[M])=>`(Str->Option Value)|`(#[G,$a,$b])=>`(Inv X pins σ $a $b)|`(#[R,$a,$b])=>`(some (.lst ($a $b)))
local macro_rules|`(#[A])=>`(List (List Int))|`(#[C])=>`(Option Int)|`(#[H])=>`(List (Nat×Option Int))|`(#[e,$a])=>`($a (ca a))|`(#[aa,$a])=>`(#[n,["self"],["self"],$a])|`(#[f])=>`(CX1 P w)|`(#[g,$a,$b,$c])=>`(Fun K $a $b $c f fd)|`(#[h])=>`(#[G,H,s])|`(#[j])=>`(Tx K mg a)|`(#[p])=>`(Same H H')
local macro_rules|`(#[T])=>`(List (List Row))|`(#[U,$a,$b,$c,$d,$e])=>`(wpAny (model X.prog X.w) $a $b $c $d $e)|`(#[V,$a,$b])=>`($a (K:=K) rfl (pv $b) rfl)|`(#[as])=>`(∀ b∈ch,(b∈X.ex\/X.s₀.heap.objs.size<=b)/\b≠X.env.locals/\(∀ x c,X.env.cells.lookup x=some c->c≠b)/\∀ p∈X.pn++pins,p.1≠b)|`(#[au,$a])=>`(∀ b∈ch,(b∈X.ex\/X.s₀.heap.get? $a=none)/\b≠X.env.locals/\(∀ x c,X.env.cells.lookup x=some c->c≠b)/\∀ p∈X.pn++pins,p.1≠b)|`(#[ae])=>`(["self","number","grade","club"])|`(#[O,$a,$b,$c])=>`(Walk rows gs $a $b $c)|`(#[S])=>`(iteF (Zx ?_))|`(#[ac,$a,$b,$c])=>`(findIn $a (.ref $b) $c=some none)|`(#[an,$a,$b,$c,$d,$e,$f])=>`($a ($b ($c ($d (K:=K) $e) (by rfl) T.zo8 PyProof.Rows.boot_isinstance $f)))
local macro_rules|`(#[D,$a])=>`(E (.ref $a) none H)|`(#[E])=>`(Zy ca H A S)|`(#[ai,$a,$b,$c,$d])=>`(PySem.W.kia_one $a I.kIn $b $c (fun z=>nomatch z) $d)|`(#[F,$a,$b,$c])=>`(al (upd _ $a _) $b rfl $c)|`(#[am,$a,$b,$c,$d,$e])=>`(∀ l H',H' $a=#[R,$b,$c]->#[p]->H l=none->$d (.ref $e) H')|`(#[I,$a])=>`(Q (.ref $a) H')|`(#[K,$a,$b])=>`(SqL.of ($a _ _ $b))|`(#[av,$a,$b,$c,$d,$e,$f,$g,$h])=>`(⟨$a,Zd (Zl ($b $c ($d ⋯ ⋯ $e (by repeat' (first|exact True.intro|apply And.intro|rfl)) (by repeat' (first|exact True.intro|apply And.intro|rfl)) ⋯) $f (fun _ _ _ _ _=>Wn) $g fun _ _ _ _ _=>$h)),?_⟩)|`(#[ag])=>`(absurd (show false=true from hs) zyo)|`(#[ab,$a,$b,$c,$d])=>`(Zm ($a K) (by rfl) T.zo5 PySem.boot_len ($b (pv $c) $d))
local macro_rules|`(#[aj,$a,$b,$c,$d])=>`(⟨$a,rfl,.inl ⟨$b,rfl,$c⟩,fun z=>⟨sz1,$d⟩⟩)|`(#[al])=>`(∀ x,(∃ o,H x=some o)->ok x->ok' x)|`(#[X,$a])=>`($a (Ys I q (by simp)))|`(#[Y])=>`(Ch rows gs q st e w)|`(#[Z])=>`(∀ t xs,H t=#[z,xs]->H' t=#[z,xs])|`(#[ad,$a])=>`(H $a=some (.lst (ls.map V.ref)))|`(#[ar,$a,$b,$c,$d,$e,$f,$g])=>`($a ($b (i:=0) $c rfl (by first|exact Or.inl rfl|exact Or.inr rfl)) ($d ($e (i:=1) $f rfl (by first|exact Or.inl rfl|exact Or.inr rfl)) $g))|`(#[ao,$a])=>`(Xa (fun i σ H'=>H'=H/\(∃ v,σ=[some (.ref b),some (.ref c),v])) ⟨rfl,#[y,$a]⟩ (fun i σ H' hi ⟨e,⟨v,hv⟩⟩=>?_) fun σ H' ⟨e,⟨v,hv⟩⟩=>?_)|`(#[ap,$a,$b,$c,$d,$e,$f,$g,$h])=>`(⟨$a,rfl,$b,$c,rfl,DGet.k (k:=.inr "people") ($d _ _ a1),lp,rfl,⟨$e,SqL.of ($f _ _ $g)⟩,$h⟩)|`(#[aq,$a,$b,$c,$d,$e])=>`(PW.pt (X3 #[an,Yg,Yb,Zm,Y7,rfl,Za (pv $a) (Za (Wf rfl T.zp9 PyProof.Rows.boot_list (show RelV (.ty "list") $b from rfl)) $c)] ($d $e)))
set_option hygiene true
abbrev zx1:=@List.length_map
abbrev zx2:=@List.getElem?_eq_getElem
abbrev zx3:=@List.getElem?_eq_some_iff
abbrev zx4:=@List.length_append
abbrev zx5:=@List.getElem?_map
abbrev zx6:=@List.mem_singleton
abbrev zx7:=@List.map_append
abbrev zx8:=@List.mem_cons
abbrev zx9:=@decide_eq_true
abbrev zya:=@List.mem_map
abbrev zyb:=@List.mem_of_getElem?
abbrev zyc:=@Nat.le_refl
abbrev zyd:=@List.mem_append
abbrev zye:=@decide_eq_false
abbrev zyf:=@List.map_cons
abbrev zyg:=@Nat.le_trans
abbrev zyh:=@Int.toNat_natCast
abbrev zyi:=@List.take_length
abbrev zyj:=@List.size_toArray
abbrev zyk:=@List.length_cons
abbrev zyl:=@List.take_succ_eq_append_getElem
abbrev zym:=@List.mem_cons_of_mem
abbrev zyn:=@Nat.lt_of_lt_of_le
abbrev zyo:=@Bool.false_ne_true
abbrev zyp:=@List.mem_append_left
abbrev zyq:=@List.mem_append_right
abbrev zyr:=@beq_eq_false_iff_ne
abbrev zys:=@List.nodup_cons
abbrev zyt:=@List.getD_eq_getElem?_getD
abbrev zyu:=@Nat.ne_of_lt
abbrev zyv:=@Nat.zero_le
abbrev zyw:=@List.length_filter_le
abbrev zyx:=@List.getElem_mem
abbrev zyy:=@List.mem_cons_self
abbrev zyz:=@List.getElem?_append_right
abbrev zy0:=@List.getElem?_append_left
abbrev zy1:=@Int.emod_lt_of_pos
abbrev zy2:=@List.lookup_cons
abbrev zy3:=@List.getElem?_set_ne
abbrev zy4:=@List.not_mem_nil
abbrev zy5:=@List.mem_filter
abbrev zy6:=@List.length_range
abbrev zy7:=@Int.zero_add
abbrev zy8:=@Option.map_some
abbrev zy9:=@Int.emod_nonneg
abbrev zza:=@List.mem_range
abbrev zzb:=@List.getElem?_set_self
abbrev zzc:=@List.length_take_le
abbrev zzd:=@List.take_add_one
abbrev zze:=@List.length_eq_zero_iff
abbrev zzf:=@List.filter_cons
abbrev zzg:=@List.getElem_of_mem
abbrev zzh:=@Option.isSome_iff_exists
abbrev zzi:=@List.map_map
abbrev zzj:=@Bool.false_eq_true
abbrev zzk:=@List.filter_append
abbrev zzl:=@List.filter_cons_of_pos
abbrev zzm:=@List.filter_cons_of_neg
abbrev zzn:=@Bool.and_eq_true
abbrev zzo:=@List.map_congr_left
abbrev zzp:=@Nat.le_succ_of_le
abbrev zzq:=@Nat.lt_of_le_of_lt
abbrev zzr:=@List.length_set
abbrev zzs:=@List.nodup_iff_pairwise_ne
abbrev zzt:=@List.append_inj'
abbrev zzu:=@Nat.lt_irrefl
abbrev zzv:=@List.mem_filterMap
abbrev zzw:=@List.nodup_nil
abbrev zzx:=@List.mem_of_mem_take
abbrev zzy:=@List.append_assoc
abbrev zzz:=@List.filterMap_cons
abbrev zz0:=@Int.toNat_of_nonneg
abbrev zz1:=@List.mem_singleton_self
abbrev zz2:=@Option.map_eq_some_iff
abbrev zz3:=@List.find?_cons
abbrev zz4:=@List.length_nil
abbrev zz5:=@Nat.not_lt_zero
abbrev zz6:=@List.filter_nil
abbrev zz7:=@List.any_cons
abbrev zz8:=@List.reverse_cons
abbrev zz9:=@Nat.lt_succ_of_lt
abbrev z0a:=@List.length_take
abbrev z0b:=@List.length_drop
abbrev z0c:=@List.length_zipWith
abbrev z0d:=@Bool.eq_iff_iff
abbrev z0e:=@List.append_nil
abbrev z0f:=@Nat.le_of_lt
set_option Elab.async false
set_option linter.all false
set_option maxRecDepth 100000
namespace L2
open PySem PySem.Spec PyProof.Rows
abbrev Key:=Sum Int Str
def G1:Key->Value->Bool
 | .inl k,v=>Value.isInt k v
 | .inr x,v=>Value.isStrOf x v
def znr(w:World):Key->Int
 | .inl k=>hashInt k
 | .inr x=>hashStr w x
theorem Yv:∀ {k:Key} {v:Value},G1 k v=true->(∃ i t,k=inl i/\v=Value.int i t)\/(∃ x t,k=inr x/\v=Value.str x t)
 | .inl i,v,h=>by
   obtain⟨t,e⟩:=Value.isInt_shape (k:=i) (v:=v) h;exact .inl ⟨i,t,rfl,e⟩
 | .inr x,v,h=>by
   obtain⟨t,e⟩:=Value.isStrOf_shape (x:=x) (v:=v) h;exact .inr ⟨x,t,rfl,e⟩
theorem ze3(i:Int)(t:Tok):G1 (.inl i) (.int i t)=true:=by simp[G1,Value.isInt]
theorem ze4(x:Str)(t:Tok):G1 (.inr x) (.str x t)=true:=by simp[G1,Value.isStrOf]
theorem zkp(a b:Int):#[i,(inl a:Key)=inl b]=(a == b):=by
 by_cases e:a=b
 ·subst e;simp
 ·have h:¬ (inl a:Key)=inl b:=fun q=>e (inl.inj q);rw[zye h];exact(zyr.mpr e).symm
theorem zkq(a b:Str):#[i,(inr a:Key)=inr b]=#[i,a=b]:=by
 by_cases e:a=b
 ·subst e;simp
 ·have h:¬ (inr a:Key)=inr b:=fun q=>e (inr.inj q);rw[zye h,zye e]
theorem zkr(a:Int)(b:Str):#[i,(inl a:Key)=inr b]=false:=zye (fun q=>nomatch q)
theorem zks(a:Str)(b:Int):#[i,(inr a:Key)=inl b]=false:=zye (fun q=>nomatch q)
def Yo(prog:Program)(w:World):PySem.KeyKind prog w Key where
 is:=G1
 hash:=znr w
 inj:=fun v a b ha hb=>by
  rcases Yv ha with ⟨i,t,rfl,rfl⟩|⟨x,t,rfl,rfl⟩
  ·rcases Yv hb with ⟨j,u,rfl,e⟩|⟨y,u,rfl,e⟩
   ·injection e with e1 _;rw[e1]
   ·exact nomatch e
  ·rcases Yv hb with ⟨j,u,rfl,e⟩|⟨y,u,rfl,e⟩
   ·exact nomatch e
   ·injection e with e1 _;rw[e1]
 byValue:=fun k v h=>by
  rcases Yv h with ⟨i,t,rfl,rfl⟩|⟨x,t,rfl,rfl⟩<;>rfl
 pyHash:=fun hv h=>by
  rcases Yv hv with ⟨i,t,rfl,rfl⟩|⟨x,t,rfl,rfl⟩
  ·exact wpAny_pyHash_int h
  ·exact wpAny_pyHash_str h
 eqBool:=fun hu hv h=>by
  rcases Yv hu with ⟨i,t,rfl,rfl⟩|⟨x,t,rfl,rfl⟩
  ·rcases Yv hv with ⟨j,u,rfl,rfl⟩|⟨y,u,rfl,rfl⟩
   ·rw[zkp] at h;exact wpAny_eqBool_int h
   ·rw[zkr] at h;exact SeqAt.EqAt.int_str i t y u _ _ _ _ h
  ·rcases Yv hv with ⟨j,u,rfl,rfl⟩|⟨y,u,rfl,rfl⟩
   ·rw[zks] at h;exact SeqAt.EqAt.str_int x t j u _ _ _ _ h
   ·rw[zkq] at h;exact wpAny_eqBool_str h
 «strs»:=fun k x t v h=>by
  rcases Yv h with ⟨i,u,rfl,e⟩|⟨y,u,rfl,e⟩
  ·exact nomatch e
  ·injection e with e1 _;subst e1;cases v<;>rfl
theorem zaa(prog:Program)(w:World)(i:Int)(t:Tok):(Yo prog w).is (.inl i) (.int i t)=true:=ze3 i t
theorem zab(prog:Program)(w:World)(x:Str)(t:Tok):(Yo prog w).is (.inr x) (.str x t)=true:=ze4 x t
inductive V where
 | non|bl (b:Bool)|int (i:Int)|str (x:Str)|byt (b:Array UInt8)|flt (b:UInt64)|ref (a:Addr)|ty (n:String)
 deriving DecidableEq
def RelV:V->Value->Prop
 | .non,u=>u=Value.none
 | .bl b,u=>u=Value.bool b
 | .int i,u=>∃ t,u=Value.int i t
 | .str x,u=>∃ t,u=Value.str x t
 | .byt b,u=>∃ t,u=Value.bytes b t
 | .flt b,u=>∃ t,u=Value.float b t
 | .ref a,u=>u=Value.ref a
 | .ty n,u=>u=Value.type n
abbrev Vals:#[a]->List Value->Prop:=Paired RelV
theorem Vals.length(r:Vals xs us):xs.length=us.length:=Paired.length r
theorem Vals.get:∀ {xs:List V} {us:List Value} {i:Nat} {x:V},Vals xs us->xs[i]?=some x->∃ u,us[i]?=some u/\RelV x u
 | _,_,_,_,.nil,e=>by simp at e
 | _,_,0,_,.cons r _,e=>by simp at e;subst e;exact#[q,_,r]
 | _,_,i+1,x,.cons _ t,e=>by
   obtain⟨u,h1,h2⟩:=Vals.get (i:=i) (x:=x) t (by simpa using e);exact⟨u,by simpa using h1,h2⟩
theorem Vals.set(r:RelV x u):∀ {xs:List V} {us:List Value} (i:Nat),Vals xs us->Vals (xs.set i x) (us.set i u)
 | _,_,_,.nil=>.nil
 | _,_,0,.cons _ t=>.cons r t
 | _,_,i+1,.cons q t=>.cons q (Vals.set r i t)
theorem Vals.append:∀ {xs ys:List V} {us ws:List Value},Vals xs us->Vals ys ws->Vals (xs++ys) (us++ws)
 | _,_,_,_,.nil,s=>s
 | _,_,_,_,.cons r t,s=>.cons r (Vals.append t s)
theorem Vals.take:∀ {xs:List V} {us:List Value} (n:Nat),Vals xs us->Vals (xs.take n) (us.take n)
 | _,_,0,_=>.nil
 | _,_,_+1,.nil=>.nil
 | _,_,n+1,.cons r t=>.cons r (Vals.take n t)
theorem Vals.drop:∀ {xs:List V} {us:List Value} (n:Nat),Vals xs us->Vals (xs.drop n) (us.drop n)
 | _,_,0,r=>r
 | _,_,_+1,.nil=>.nil
 | _,_,n+1,.cons _ t=>Vals.drop n t
def RelO:Option V->Option Value->Prop
 | some v,some u=>RelV v u
 | none,none=>True
 | _,_=>False
def KV{κ:Type}:List (κ×V)->List (κ×Value)->Prop:=Paired fun (p:κ×V) (q:κ×Value)=>p.1=q.1/\RelV p.2 q.2
def kV:Key->V
 | .inl i=>.int i
 | .inr x=>.str x
inductive HO where
 | lst (xs:#[a])
 | tup (xs:#[a])
 | dK (kvs:#[N])|dT (kvs:List (List Key×V))
 | set (S:Int->Bool) (n:Nat)
 | ins (C dx:Addr) (fs:List (Str×V))
 | own (x:Addr)
 | xd (fs:List (Str×V))
 | met (f x:Addr)
 | rng (lo hi:Int)
 | frz (o:Obj) (u:HO)
 | tbl (ps:Array Value)
 | ext (φ:Heap->Prop)
abbrev Hp:=Addr->Option HO
def upd(H:Hp)(a:Addr)(o:HO):Hp:=fun b=>if b=a then #[c] else H b
theorem Ze:upd H a o a=some o:=by unfold upd;rw[if_pos rfl]
theorem Zj(h:b≠a):upd H a o b=H b:=by unfold upd;rw[if_neg h]
theorem Gq:upd (upd H a o) a u=upd H a u:=by
 funext b;unfold upd;split<;>rfl
theorem Y2{H:Hp}{a b:Addr}{o u:HO}(h:H a=some o)(h':H b=some u)(d:o≠u):a≠b:=by
 intro e;subst e;rw[h] at h';exact d (Option.some.inj h')
theorem Zh{H:Hp}{a b:Addr}{o:HO}(h:H a=some o)(h':H b=none):a≠b:=by
 intro e;subst e;rw[h] at h';cases h'
section
variable(P:Program)(w:World)
def Xd(H:Hp)(h:Heap)(a:Addr):HO->Prop
 | .lst xs=>xs.length<=sizeLine/\∃ (its:List Value) (n:Nat),Vals xs its/\h.get? a=some { cls:=.type "list",data:=.seq its.toArray n }
 | .tup xs=>xs.length<=sizeLine/\∃ its:List Value,Vals xs its/\IsTup h a its.toArray
 | .dK kvs=>kvs.length<=sizeLine/\(a == sysModules)=false/\∃ vs,KV kvs vs/\h.DictOf (Yo P w) a vs
 | .dT kvs=>kvs.length<=sizeLine/\(a == sysModules)=false/\∃ xs:List (List Key×Addr×Value),
   Paired (fun (p:List Key×V) (q:List Key×Addr×Value)=>p.1=q.1/\H q.2.1=some (.tup (p.1.map kV))/\RelV p.2 q.2.2) kvs xs /\
   ∃ o es ep,h.get? a=#[c]/\o.ExactDict/\o.data=.dict es ep/\es.toList=xs.map (entryOfKey (tupleKind (Yo P w)))/\(xs.map (·.1)).Nodup
 | .set S n=>h.SetOf (intKind P w) a S n
 | .ins C dx fs=>H dx=#[b,.own,a]/\fs.length<=1000/\dx≠a/\h.get? a=some (PySem.W.instObj C dx) /\
   ∃ mA,h.Ns1 dx mA/\(∀ f,RelO (fs.lookup f) (mA f))/\PySem.Within mA (fs.map (·.1))
 | .own _=>∃ o,h.get? a=#[c]
 | .xd fs=>∃ mA,h.Ns1 a mA/\∀ f,RelO (fs.lookup f) (mA f)
 | .rng lo hi=>∃ t u v,h.get? a=some { cls:=.type "range",data:=.fields #[.int lo t,.int hi u,.int 1 v] }
 | .frz o u=>h.get? a=#[c]/\Xd H h a u
 | .tbl ps=>h.get? a=some { cls:=.none,data:=.fields ps }
 | .met f x=>h.get? a=some (PySem.W.methodObj (.ref f) (.ref x))
 | .ext φ=>φ h/\(∃ o,h.get? a=#[c])/\∀ h1 h2:Heap,φ h1->(∀ o,h1.get? a=#[c]->h2.get? a=#[c])->φ h2
def HOk(H:Hp)(h:Heap):Prop:=∀ a o,H a=#[c]->Xd P w H h a o
end
section
variable{P:Program}{w:World}{H H':Hp}{h h':Heap}{a:Addr}{o:HO}
theorem Xd.lt(x:Xd P w H h a o):a<h.objs.size:=by
 cases o with
 | lst xs=>obtain⟨_,_,_,_,e⟩:=x;exact Heap.lt_size e
 | tup xs=>obtain⟨_,_,_,p⟩:=x;exact p.lt
 | dK kvs=>obtain⟨_,_,_,_,o,_,_,e,_⟩:=x;exact Heap.lt_size e
 | dT kvs=>obtain⟨_,_,_,_,o,_,_,e,_⟩:=x;exact Heap.lt_size e
 | set S n=>obtain⟨o,_,_,_,e,_⟩:=x;exact Heap.lt_size e
 | ins C dx fs=>obtain⟨_,_,_,e,_⟩:=x;exact Heap.lt_size e
 | own y=>obtain⟨_,e⟩:=x;exact Heap.lt_size e
 | xd fs=>obtain⟨_,⟨_,_,_,e,_⟩,_⟩:=x;exact Heap.lt_size e
 | rng lo hi=>obtain⟨_,_,_,e⟩:=x;exact Heap.lt_size e
 | frz ob u=>obtain⟨e,_⟩:=x;exact Heap.lt_size e
 | tbl ps=>exact Heap.lt_size (show h.get? a=some _ from x)
 | met f y=>exact Heap.lt_size (show h.get? a=some _ from x)
 | ext φ=>obtain⟨_,⟨_,e⟩,_⟩:=x;exact Heap.lt_size e
theorem Paired.mapP:∀ {l₁:List α} {l₂:List β},Paired F l₁ l₂->(∀ a b,F a b->G a b)->Paired G l₁ l₂
 | _,_,.nil,_=>.nil
 | _,_,.cons r t,f=>.cons (f _ _ r) (Paired.mapP t f)
theorem Xd.stay(x:Xd P w H h a o)(k:∀ b u,(b=a\/H b=#[b,.own,a])->h.get? b=some u->h'.get? b=some u)
  (ho:∀ b,H b=#[b,.own,a]->H' b=#[b,.own,a]) (ht:∀ b xs,H b=#[z,xs]->H' b=#[z,xs]):Xd P w H' h' a o:=by
 induction o with
 | lst xs=>obtain⟨z,its,n,r,e⟩:=x;exact⟨z,its,n,r,k _ _ (.inl rfl) e⟩
 | tup xs=>obtain⟨z,its,r,ob,e,c⟩:=x;exact⟨z,its,r,ob,k _ _ (.inl rfl) e,c⟩
 | dK kvs=>obtain⟨z,y,vs,r,ob,es,ep,e,c⟩:=x;exact⟨z,y,vs,r,ob,es,ep,k _ _ (.inl rfl) e,c⟩
 | dT kvs =>
   obtain⟨z,y,xs,r,ob,es,ep,e,c⟩:=x;exact⟨z,y,xs,Paired.mapP r fun p q z=>⟨z.1,ht _ _ z.2.1,z.2.2⟩,ob,es,ep,k _ _ (.inl rfl) e,c⟩
 | set S n=>obtain⟨ob,es,ep,t,e,c⟩:=x;exact⟨ob,es,ep,t,k _ _ (.inl rfl) e,c⟩
 | ins C dx fs =>
   obtain⟨d,z,ne,e,mA,⟨od,es,ep,e2,c⟩,r⟩:=x;exact⟨ho _ d,z,ne,k _ _ (.inl rfl) e,mA,⟨od,es,ep,k _ _ (.inr d) e2,c⟩,r⟩
 | own y=>obtain⟨ob,e⟩:=x;exact⟨ob,k _ _ (.inl rfl) e⟩
 | xd fs=>obtain⟨mA,⟨od,es,ep,e,c⟩,r⟩:=x;exact⟨mA,⟨od,es,ep,k _ _ (.inl rfl) e,c⟩,r⟩
 | rng lo hi=>obtain⟨t,u,v,e⟩:=x;exact⟨t,u,v,k _ _ (.inl rfl) e⟩
 | frz ob u ih=>obtain⟨e,q⟩:=x;exact⟨k _ _ (.inl rfl) e,ih q⟩
 | tbl ps =>
   have e:h.get? a=some { cls:=.none,data:=.fields ps }:=x;show h'.get? a=some { cls:=.none,data:=.fields ps };exact k a _ (.inl rfl) e
 | met f y =>
   have e:h.get? a=some (PySem.W.methodObj (.ref f) (.ref y)):=x;show h'.get? a=some (PySem.W.methodObj (.ref f) (.ref y));exact k a _ (.inl rfl) e
 | ext φ=>obtain⟨p,⟨o,e⟩,st⟩:=x;exact⟨st _ _ p fun o q=>k _ _ (.inl rfl) q,⟨o,k _ _ (.inl rfl) e⟩,st⟩
theorem HOk.lt(x:HOk P w H h)(e:H a=some o):a<h.objs.size:=(x a o e).lt
theorem HOk.fresh(x:HOk P w H h)(e:h.objs.size<=a):H a=none:=by
 cases q:H a with
 | none=>rfl
 | some u=>exact absurd (zyn (x.lt q) e) (zzu _)
theorem HOk.kept(x:HOk P w H h)(k:∀ b u,h.get? b=some u->h'.get? b=some u):HOk P w H h':=fun a o e =>
 (x a o e).stay (fun b u _ q=>k b u q) (fun _ q=>q) fun _ _ q=>q
theorem HOk.laid(x:HOk P w H h)(k:∀ b u,h.get? b=some u->h'.get? b=some u)(hp:h.objs.size<=a)(new:Xd P w (upd H a o) h' a o):HOk P w (upd H a o) h':=fun b u e=>by
 have hn:=x.fresh hp;by_cases hb:b=a
 ·subst hb;rw[Ze] at e;cases e;exact new
 ·rw[Zj hb] at e;exact(x b u e).stay (fun c v _ q=>k c v q) (fun c q=>by rw[Zj (Zh q hn)];exact q) fun c xs q=>by rw[Zj (Zh q hn)];exact q
end
def Rd(H:Hp)(a:Addr)(u:HO):Prop:=H a=some u\/∃ o,H a=some (.frz o u)
theorem Rd.ok(r:Rd H a u)(x:HOk P w H h):Xd P w H h a u:=by
 rcases r with r|⟨o,r⟩
 ·exact x a u r
 ·obtain⟨_,q⟩:=x a _ r;exact q
def Mut:Option HO->Prop
 | some (.lst _)=>True
 | some (.dK _)=>True
 | some (.dT _)=>True
 | some (.set _ _)=>True
 | some (.ins _ _ _)=>True
 | some (.ext _)=>True
 | _=>False
section
variable{P:Program}{w:World}{H:Hp}{h h':Heap}{x e:Addr}{o':HO}
theorem HOk.write(ok:HOk P w H h)(mu:Mut (H x))(he:e=x\/H e=#[b,.own,x])(k:∀ b u,b≠e->h.get? b=some u->h'.get? b=some u)(heo:∃ u,h'.get? e=some u)
  (new:Xd P w (upd H x o') h' x o'):HOk P w (upd H x o') h':=fun b u q=>by
 have nown:∀ c y,H c=#[b,.own,y]->c≠x:=fun c y r z=>by subst z;rw[r] at mu;exact mu
 have ntup:∀ c xs,H c=#[z,xs]->c≠x:=fun c xs r z=>by subst z;rw[r] at mu;exact mu
 by_cases hb:b=x
 ·subst hb;rw[Ze] at q;cases q;exact new
 ·rw[Zj hb] at q;by_cases hbe:b=e
  ·have q':H b=#[b,.own,x]:=by
    rcases he with z|z
    ·exact absurd (hbe.trans z) hb
    ·rw[hbe];exact z
   rw[q] at q';cases q';obtain⟨v,hv⟩:=heo;exact⟨v,by rw[hbe];exact hv⟩
  ·refine(ok b u q).stay (fun c v hc r=>k c v ?_ r) (fun c r=>by rw[Zj (nown c b r)];exact r) fun c xs r=>by rw[Zj (ntup c xs r)];exact r
   rcases hc with rfl|hc
   ·exact hbe
   ·rintro rfl;rcases he with z|z
    ·exact nown c b hc z
    ·rw[hc] at z;cases z;exact hb rfl
end
structure Un(fs ex:#[t])(H H':Hp)(h h':Heap):Prop where
 keep:∀ b o,h.get? b=#[c]->H b=none->b∉fs->b∉ex->h'.get? b=#[c]
 slot:∀ b o,h.get? b=#[c]->H b=none->b∈fs->b∉ex->∃ sl,h'.get? b=some { o with slots:=sl }
 free:∀ b o,h.get? b=#[c]->H b=none->b∉ex->H' b=none
 there:∀ b o,h.get? b=#[c]->b∉ex->∃ o',h'.get? b=some o'
 tups:∀ b xs,H b=#[z,xs]->H' b=#[z,xs]
 frzs:∀ b o u,H b=some (.frz o u)->H' b=some (.frz o u)
 tbls:∀ b ps,H b=#[b,.tbl,ps]->∃ more,H' b=#[b,.tbl,ps++more]
section
variable{fs fs' ex ex':#[t]}{H H1 H2:Hp}{h h1 h2 h':Heap}{a x e:Addr}{o:HO}
theorem Un.any(u:Un fs ex H H1 h h1)(q:h.get? b=some ob)(n:H b=none)(hx:b∉ex):∃ sl,h1.get? b=some { ob with slots:=sl }:=by
 by_cases hb:b∈fs
 ·exact u.slot b ob q n hb hx
 ·exact⟨ob.slots,u.keep b ob q n hb hx⟩
theorem Un.kept(k:∀ b u,h.get? b=some u->h'.get? b=some u):Un fs ex H H h h' :=
 ⟨fun b ob q _ _ _=>k b ob q,fun b ob q _ _ _=>⟨ob.slots,k b ob q⟩,fun _ _ _ n _=>n,fun b ob q _=>⟨ob,k b ob q⟩,fun _ _ q=>q,fun _ _ _ q=>q,fun _ ps q=>⟨#[],by rw[q];simp⟩⟩
theorem Un.refl:Un fs ex H H h h:=Un.kept fun _ _ q=>q
theorem Un.laid(k:∀ b u,h.get? b=some u->h'.get? b=some u)(hp:h.objs.size<=a)(hn:H a=none):Un fs ex H (upd H a o) h h' where
 keep:=fun b u q _ _ _=>k b u q
 slot:=fun b u q _ _ _=>⟨u.slots,k b u q⟩
 free:=fun b u q n _=>by rw[Zj (zyu (zyn (Heap.lt_size q) hp))];exact n
 there:=fun b u q _=>⟨u,k b u q⟩
 tups:=fun b xs q=>by rw[Zj (Zh q hn)];exact q
 frzs:=fun b u xs q=>by rw[Zj (Zh q hn)];exact q
 tbls:=fun b ps q=>⟨#[],by rw[Zj (Zh q hn),q];simp⟩
theorem Un.write(mu:Mut (H x))(he:e=x\/H e=#[b,.own,x])(k:∀ b u,b≠e->h.get? b=some u->h'.get? b=some u)(heo:∃ u,h'.get? e=some u):Un fs ex H (upd H x o) h h':=by
 have hx:∀ b,H b=none->b≠x:=fun b n z=>by subst z;rw[n] at mu;exact mu
 have hb:∀ b,H b=none->b≠e:=fun b n z=>by
  subst z;rcases he with r|r
  ·exact hx b n r
  ·rw[n] at r;cases r
 have hm:∀ b u,H b=some u->¬ Mut (some u)->b≠x:=fun b u q nm z=>by subst z;rw[q] at mu;exact nm mu
 refine⟨fun b u q n _ _=>k b u (hb b n) q,fun b u q n _ _=>⟨u.slots,k b u (hb b n) q⟩,fun b u q n _=>by rw[Zj (hx b n)];exact n,fun b u q _=>?_,
  fun b xs q=>by rw[Zj (hm b _ q fun z=>z)];exact q,fun b u xs q=>by rw[Zj (hm b _ q fun z=>z)];exact q,fun b ps q=>⟨#[],by rw[Zj (hm b _ q fun z=>z),q];simp⟩⟩
 by_cases hbe:b=e
 ·subst hbe;exact heo
 ·exact⟨u,k b u hbe q⟩
end
def trk(h:Heap)(H:Hp):#[t]:=(List.range h.objs.size).filter fun a=>(H a).isSome
def Bv(h:Heap)(H:Hp):Heap:=PySem.W.hideAll h (trk h H)
theorem ze5(h:Heap)(H:Hp):(Bv h H).objs.size=h.objs.size:=PySem.W.hideAll_size _ _
theorem zgw(e:h.get? b=some o)(n:H b=none):(Bv h H).get? b=some o :=
 PySem.W.hideAll_get _ e fun hm=>by
  have q:(H b).isSome=true:=(zy5.mp hm).2;rw[n] at q;simp at q
theorem zi5(e:(Bv h H).get? b=some o):h.get? b=#[c]/\H b=none:=by
 have e':h.get? b=some o:=PySem.W.of_hideAll (trk h H) e;refine⟨e',?_⟩;cases q:H b with
 | none=>rfl
 | some x =>
   have hm:b∈trk h H:=zy5.mpr ⟨zza.mpr (Heap.lt_size e'),by simp[q]⟩;have z:(Bv h H).get? b=none:=PySem.W.hideAll_none (trk h H) hm;rw[z] at e;cases e
structure Mod(K:Frag)(mg:#[M])(base:Heap):Prop where
 kin:K.In base
 glob:base.Ns mainGlobals mg
 blt:∃ mb,base.Ns builtinsNs mb/\∀ x:Str,x≠"__name__"->mb x=bootBuiltins x
 nolimit:base.NoLimit
structure Cx where
 prog:Program
 w:World
 K:Frag
 mg:#[M]
 base:Heap
 A:Around
 N:List Str
 s₀:Shared
 H₀:Hp
 env:Env
 outer:List Env
 stack:List Env
 ex:#[t]
 fn:Str->Bool
 calm:Bool
 pn:#[v]
 xe:Value->Shared->Prop
 lk:List (Option V):=[]
def frs(l:List Env):#[t]:=l.filterMap (·.frame)
abbrev Cx.fs(X:Cx):#[t]:=frs X.outer
def Vis(sc:Scope)(x:Str):Prop:=sc.names.lookup x=some .local\/sc.names.lookup x=some .cell\/sc.names.lookup x=some .free
def Loc(sc:Scope)(x:Str):Prop:=sc.names.lookup x=some .local\/sc.names.lookup x=some .cell
def Look(env:Env)(h:Heap)(m:#[M])(x:Str)(u:Value):Prop :=
 (env.kindOf x=some .local/\m x=some u)\/((env.kindOf x=some .cell\/env.kindOf x=some .free)/\∃ c,env.cells.lookup x=some c/\h.IsCell c (some u))
structure Cx.Ok(X:Cx):Prop where
 mod:Mod X.K X.mg X.base
 kind:X.env.scope.kind=.function
 glob:X.env.globals=mainGlobals
 blt:X.env.builtins=builtinsNs
 above:X.s₀.heap.objs.size<=X.env.locals
 inj:∀ x y c,#[P,x]=some c->#[P,y]=some c->x=y
 has:∀ x,(X.env.kindOf x=some .cell\/X.env.kindOf x=some .free)->∃ c,#[P,x]=some c
 cab:∀ x c,X.fn x=true->#[P,x]=some c->X.s₀.heap.objs.size<=c
 hd:X.calm=true->X.A.handled=none
 frames:X.A.frames=some X.stack
 stk:X.stack=X.outer\/(X.stack=X.env :: X.outer/\X.env.frame=some X.env.locals)
 exf:∀ b∈X.ex,b≠X.env.locals/\∀ x c,#[P,x]=some c->c≠b
 bs:∀ b o,X.base.get? b=#[c]->X.s₀.heap.get? b=#[c]/\X.H₀ b=none
 bsz:X.base.objs.size<=X.s₀.heap.objs.size
 noex:∀ b o,X.base.get? b=#[c]->b∉X.ex
 exfs:∀ b∈X.ex,b∉X.fs
 funs:X.s₀.heap.FunFrames X.base X.outer
 frf:∀ b∈X.fs,X.H₀ b=none
structure Inv(X:Cx)(pins:#[v])(σ:List (Option V))(H:Hp)(s:Shared):Prop where
 ok:X.Ok
 os:s.os=X.s₀.os
 bare:AllBare s.gens
 base:Un X.fs X.ex X.H₀ H X.s₀.heap s.heap
 loc:∃ m,s.heap.Ns X.env.locals m/\∀ (i:Nat) (x:Str) (v:V),X.N[i]?=some x->(σ[i]?=#[b,some,v]\/X.lk[i]?=#[b,some,v])->Vis X.env.scope x->∃ u,RelV v u/\Look X.env s.heap m x u
 cell:∀ x c,#[P,x]=some c->∃ v,s.heap.IsCell c v
 free:H X.env.locals=none
 freeC:∀ x c,#[P,x]=some c->H c=none
 pin:∀ p∈X.pn++pins,#[J,p.1]=some p.2/\H p.1=none/\p.1≠X.env.locals/\p.1∉X.fs/\∀ v,p.2.data≠.cell v
 hok:HOk X.prog X.w H s.heap
 len:σ.length=X.N.length
section
variable{X:Cx}{pins:#[v]}{σ:List (Option V)}{H H':Hp}{s:Shared}{h':Heap}
theorem Cx.Ok.nofr(ok:X.Ok)(e:X.base.get? b=some o):b∉X.fs:=fun hb=>by
 have:=(ok.funs.mem hb).1;rw[e] at this;cases this
theorem Inv.bs(I:#[h]):∀ b o,X.base.get? b=#[c]->#[J,b]=#[c]/\H b=none:=fun b o e =>
 ⟨I.base.keep b o (I.ok.bs b o e).1 (I.ok.bs b o e).2 (I.ok.nofr e) (I.ok.noex b o e),I.base.free b o (I.ok.bs b o e).1 (I.ok.bs b o e).2 (I.ok.noex b o e)⟩
theorem Inv.bk(I:#[h]):∀ b o,X.base.get? b=#[c]->#[J,b]=#[c]:=fun b o e=>(I.bs b o e).1
theorem Inv.mod(I:#[h]):Mod X.K X.mg X.base:=I.ok.mod
theorem Inv.kIn(I:#[h]):X.K.In s.heap:=I.ok.mod.kin.keeps I.bk
theorem Inv.lt(I:#[h]):X.env.locals<s.heap.objs.size:=let ⟨_,hn,_⟩:=I.loc;hn.lt
theorem Inv.sz(I:#[h]):X.s₀.heap.objs.size<=s.heap.objs.size:=zyg I.ok.above (z0f I.lt)
theorem Inv.nofs(I:#[h])(h:s.heap.objs.size<=a):a∉X.fs:=fun hb=>by
 obtain⟨_,o,ho,_⟩:=I.ok.funs.mem hb;exact absurd (zyn (Heap.lt_size ho) (zyg I.sz h)) (zzu _)
theorem Inv.cne(I:#[h]):∀ x c,#[P,x]=some c->c≠X.env.locals:=fun x c e z=>by
 obtain⟨v,o,ho,hd⟩:=I.cell x c e;obtain⟨m,⟨o',es,ep,ho',hd',_⟩,_⟩:=I.loc;rw[z,ho'] at ho;cases ho;rw[hd'] at hd;cases hd
theorem Inv.funs(I:#[h]):s.heap.FunFrames X.base X.outer:=by
 have all:∀ (l:List Env),(∀ b∈frs l,b∈X.fs)->X.s₀.heap.FunFrames X.base l->s.heap.FunFrames X.base l:=by
  intro l
  induction l with
  | nil=>intro _ _;trivial
  | cons env r ih =>
    intro hs hl;obtain⟨hk,⟨L,o,hf,hn,ho,hd⟩,hr⟩:=hl;have hL:L∈X.fs:=hs L (by unfold frs;rw[zzz,hf];exact zyy);obtain⟨sl,e⟩:=I.base.slot L o ho (I.ok.frf L hL) hL fun z=>I.ok.exfs L z hL;exact⟨hk,⟨L,_,hf,hn,e,hd⟩,ih (fun b hb=>hs b (by unfold frs;rw[zzz,hf];exact zym _ hb)) hr⟩
 exact all X.outer (fun _ hb=>hb) I.ok.funs
theorem Inv.stack(I:#[h]):s.heap.FunFrames X.base X.stack:=by
 rcases I.ok.stk with e|⟨e,hf⟩
 ·rw[e];exact I.funs
 ·rw[e];obtain⟨m,hn,_⟩:=I.loc;refine .cons (by rw[I.ok.kind];decide) hf hn ?_ I.funs;exact Heap.get?_none_of_le (zyg I.ok.bsz I.ok.above)
theorem Inv.stkSub(I:#[h]):∀ b∈frs X.stack,b∈X.env.locals :: X.fs:=fun b hb=>by
 rcases I.ok.stk with e|⟨e,hf⟩
 ·rw[e] at hb;exact zym _ hb
 ·rw[e] at hb;unfold frs at hb;rw[zzz,hf] at hb;exact hb
theorem Inv.stkFree(I:#[h]):∀ b∈frs X.stack,H b=none:=fun b hb=>by
 rcases zx8.mp (I.stkSub b hb) with e|hb
 ·rw[e];exact I.free
 ·obtain⟨_,o,ho,_⟩:=I.ok.funs.mem hb;exact I.base.free b o ho (I.ok.frf b hb) fun z=>I.ok.exfs b z hb
theorem Inv.step{g':Array GenState}{t':Nat}{d':Drawn}{ch:#[t]}(I:#[h])
  (hch:#[as])
  (keep:∀ b o,b≠X.env.locals->b∉X.fs->b∉ch->#[J,b]=#[c]->H b=none->h'.get? b=#[c])
  (slot:∀ b o,b≠X.env.locals->b∈X.fs->b∉ch->#[J,b]=#[c]->H b=none->∃ sl,h'.get? b=some { o with slots:=sl }) (free:∀ b o,b∉ch->#[J,b]=#[c]->H b=none->H' b=none)
  (there:∀ b o,b∉ch->#[J,b]=#[c]->∃ o',h'.get? b=some o')
  (tups:∀ b xs,H b=#[z,xs]->H' b=#[z,xs]) (frzs:∀ b o u,H b=some (.frz o u)->H' b=some (.frz o u)) (tbls:∀ b ps,H b=#[b,.tbl,ps]->∃ more,H' b=#[b,.tbl,ps++more])
  (ns:∀ m,s.heap.Ns X.env.locals m->h'.Ns X.env.locals m) (hok:HOk X.prog X.w H' h') (hg:AllBare g') :
  Inv X pins σ H' { s with heap:=h',gens:=g',drawn:=d',toks:=t' }:=by
 have neL:∀ b o,X.s₀.heap.get? b=#[c]->b≠X.env.locals:=fun b o e=>zyu (zyn (Heap.lt_size e) I.ok.above);have neC:∀ b o,X.s₀.heap.get? b=#[c]->b∉X.ex->b∉ch:=fun b o e hx hb=>by
  rcases(hch b hb).1 with z|z
  ·exact hx z
  ·exact absurd (zyn (Heap.lt_size e) z) (zzu _)
 have cellK:∀ x c,#[P,x]=some c->∀ v,s.heap.IsCell c v->h'.IsCell c v:=fun x c e v ⟨o,ho,hd⟩=>by
  have nch:c∉ch:=fun z=>(hch c z).2.2.1 x c e rfl;by_cases hc:c∈X.fs
  ·obtain⟨sl,q⟩:=slot c o (I.cne x c e) hc nch ho (I.freeC x c e);exact⟨_,q,hd⟩
  ·exact⟨o,keep c o (I.cne x c e) hc nch ho (I.freeC x c e),hd⟩
 refine⟨I.ok,I.os,hg,⟨fun b o e n hb hx=>?_,fun b o e n hb hx=>?_,fun b o e n hx=>?_,fun b o e hx=>?_,fun b xs e=>tups b xs (I.base.tups b xs e),fun b o xs e=>frzs b o xs (I.base.frzs b o xs e),fun b ps e=>?_⟩,?_,fun x c e=>?_,?_,fun x c e=>?_,fun p hp=>?_,hok,I.len⟩
 ·exact keep b o (neL b o e) hb (neC b o e hx) (I.base.keep b o e n hb hx) (I.base.free b o e n hx)
 ·obtain⟨sl,e1⟩:=I.base.slot b o e n hb hx;obtain⟨sl',e2⟩:=slot b _ (neL b o e) hb (neC b o e hx) e1 (I.base.free b o e n hx);exact⟨sl',e2⟩
 ·obtain⟨o',e1⟩:=I.base.there b o e hx;exact free b o' (neC b o e hx) e1 (I.base.free b o e n hx)
 ·obtain⟨o',e1⟩:=I.base.there b o e hx;exact there b o' (neC b o e hx) e1
 ·obtain⟨m1,e1⟩:=I.base.tbls b ps e;obtain⟨m2,e2⟩:=tbls b _ e1;exact⟨m1++m2,by rw[e2,Array.append_assoc]⟩
 ·obtain⟨m,hn,hl⟩:=I.loc;refine⟨m,ns m hn,fun i x v e1 e2 e3=>?_⟩;obtain⟨u,r,l⟩:=hl i x v e1 e2 e3;refine⟨u,r,?_⟩;rcases l with l|⟨k,c,e,z⟩
  ·exact .inl l
  ·exact .inr ⟨k,c,e,cellK x c e _ z⟩
 ·obtain⟨v,z⟩:=I.cell x c e;exact⟨v,cellK x c e v z⟩
 ·obtain⟨m,⟨o,_,_,ho,_⟩,_⟩:=I.loc;exact free _ o (fun z=>(hch _ z).2.1 rfl) ho I.free
 ·obtain⟨v,o,ho,hd⟩:=I.cell x c e;exact free c o (fun z=>(hch c z).2.2.1 x c e rfl) ho (I.freeC x c e)
 ·obtain⟨e,n,ne,nf,d⟩:=I.pin p hp;have nch:p.1∉ch:=fun z=>(hch p.1 z).2.2.2 p hp rfl;exact⟨keep p.1 p.2 ne nf nch e n,free p.1 p.2 nch e n,ne,nf,d⟩
theorem Inv.un{t':Nat}(I:#[h])(u:Un X.fs [] H H' s.heap h')(hok:HOk X.prog X.w H' h'):#[G,H',{ s with heap:=h',toks:=t' }]:=by
 obtain⟨m,⟨o,es,ep,ho,r⟩,_⟩:=id I.loc;obtain⟨sl,hL⟩:=u.any ho I.free (by simp);exact I.step (g':=s.gens) (d':=s.drawn) (ch:=[]) (fun _ z=>nomatch z) (fun b o _ hb _ e n=>u.keep b o e n hb (by simp)) (fun b o _ hb _ e n=>u.slot b o e n hb (by simp)) (fun b o _ e n=>u.free b o e n (by simp)) (fun b o _ e=>u.there b o e (by simp)) u.tups u.frzs u.tbls (fun m' hm=>by
  obtain⟨o',es',ep',ho',r'⟩:=hm;rw[ho] at ho';cases ho';exact⟨_,es',ep',hL,r'⟩) hok I.bare
theorem Inv.call{g':Array GenState}{t':Nat}{d':Drawn}{ch:#[t]}(I:#[h])(u:Un (frs X.stack) ch H H' s.heap h')(hok:HOk X.prog X.w H' h')(hg:AllBare g')
  (hch:#[as]) :
  Inv X pins σ H' { s with heap:=h',gens:=g',drawn:=d',toks:=t' }:=by
 obtain⟨m,⟨o,es,ep,ho,r⟩,_⟩:=id I.loc;obtain⟨sl,hL⟩:=u.any ho I.free fun z=>(hch _ z).2.1 rfl;exact I.step (ch:=ch) hch (fun b o hL hb hc e n=>u.keep b o e n (fun z=>(zx8.mp (I.stkSub b z)).elim hL hb) hc) (fun b o _ _ hc e n=>u.any e n hc) (fun b o hc e n=>u.free b o e n hc) (fun b o hc e=>u.there b o e hc) u.tups u.frzs u.tbls (fun m' hm=>by
  obtain⟨o',es',ep',ho',r'⟩:=hm;rw[ho] at ho';cases ho';exact⟨_,es',ep',hL,r'⟩) hok hg
theorem Inv.turned{t':Nat}{it:Addr}(I:#[h])(k:∀ b o,b≠it->#[J,b]=#[c]->h'.get? b=#[c])(hn:H it=none)(hL:it≠X.env.locals)
  (h1:it∈X.ex\/X.s₀.heap.objs.size<=it) (h2:∀ x c,#[P,x]=some c->c≠it) (h3:∀ p∈X.pn++pins,p.1≠it):#[G,H,{ s with heap:=h',toks:=t' }]:=by
 have nit:∀ b u,H b=some u->b≠it:=fun b u e z=>by rw[z,hn] at e;cases e
 refine I.step (g':=s.gens) (d':=s.drawn) (ch:=[it]) (fun b hb=>?_) (fun b o _ _ hc e _=>k b o (fun z=>hc (by simp[z])) e) (fun b o _ _ hc e _=>⟨o.slots,k b o (fun z=>hc (by simp[z])) e⟩) (fun _ _ _ _ n=>n)
  (fun b o hc e=>⟨o,k b o (fun z=>hc (by simp[z])) e⟩) (fun _ _ e=>e) (fun _ _ _ e=>e) (fun b ps e=>⟨#[],by rw[e];simp⟩) (fun m hm=>?_) (fun b u e=>?_) I.bare
 ·have e:b=it:=by simpa using hb
  subst e;exact⟨h1,hL,h2,h3⟩
 ·obtain⟨o,es,ep,ho,r⟩:=hm;exact⟨o,es,ep,k _ o (Ne.symm hL) ho,r⟩
 ·refine(I.hok b u e).stay (fun c v hc q=>k c v ?_ q) (fun _ q=>q) fun _ _ q=>q;rcases hc with z|z
  ·rw[z];exact nit b u e
  ·exact nit c _ z
theorem Inv.tok(I:#[h])(t:Nat):#[G,H,{ s with toks:=t }]:=I.un (h':=s.heap) (t':=t) Un.refl I.hok
theorem Inv.kept(I:#[h])(k:∀ b u,#[J,b]=some u->h'.get? b=some u):#[G,H,{ s with heap:=h',toks:=t' }]:=I.un (Un.kept k) (I.hok.kept k)
theorem Inv.laid(I:#[h])(k:∀ b u,#[J,b]=some u->h'.get? b=some u)(hp:s.heap.objs.size<=a)(new:Xd X.prog X.w (upd H a o) h' a o) :
  Inv X pins σ (upd H a o) { s with heap:=h',toks:=t' }:=I.un (Un.laid k hp (I.hok.fresh hp)) (I.hok.laid k hp new)
theorem Inv.write(I:#[h])(mu:Mut (H x))(he:e=x\/H e=#[b,.own,x])(k:∀ b u,b≠e->#[J,b]=some u->h'.get? b=some u)(heo:∃ u,h'.get? e=some u)
  (new:Xd X.prog X.w (upd H x o) h' x o):#[G,upd H x o,{ s with heap:=h',toks:=t' }]:=I.un (Un.write mu he k heo) (I.hok.write mu he k heo new)
theorem Inv.weak(I:#[h])(hl:σ'.length=σ.length)(w:∀ (i:Nat) v,σ'[i]?=#[b,some,v]->σ[i]?=#[b,some,v]):Inv X pins σ' H s :=
 ⟨I.ok,I.os,I.bare,I.base,let ⟨m,hn,hl'⟩:=I.loc;⟨m,hn,fun i x v e1 e2 e3=>hl' i x v e1 (e2.imp_left (w i v)) e3⟩,I.cell,I.free,I.freeC,I.pin,I.hok,hl.trans I.len⟩
theorem Inv.pins_of(I:#[h])(h:∀ p∈pins',#[J,p.1]=some p.2/\H p.1=none/\p.1≠X.env.locals/\p.1∉X.fs/\∀ v,p.2.data≠.cell v):Inv X pins' σ H s :=
 ⟨I.ok,I.os,I.bare,I.base,I.loc,I.cell,I.free,I.freeC,fun p hp=>(zyd.mp hp).elim (fun z=>I.pin p (zyp _ z)) (h p),I.hok,I.len⟩
theorem zac{N:List Str}(hN:N.Nodup){i j:Nat}{x:Str}(a:N[i]?=some x)(b:N[j]?=some x):i=j:=by
 obtain⟨h1,e1⟩:=zx3.mp a;obtain⟨h2,e2⟩:=zx3.mp b;exact(List.getElem_inj hN).mp (e1.trans e2.symm)
def zcc(X:Cx)(i:Nat)(x:Str):Prop:=(X.fn x=true\/X.env.scope.names.lookup x=some .local)/\∀ v,X.lk[i]?≠#[b,some,v]
theorem W3{i:Nat}:∀ v:V,([]:List (Option V))[i]?≠some (some v):=fun _ h=>by simp at h
theorem Cu{M:Model}{A:Around}{E:Value->Shared->Prop}{i:Nat}{x:Str}{v:V}{u:Value}{Q:Unit->Shared->Prop}(I:#[h])(hN:X.N.Nodup)(hi:X.N[i]?=some x)(hx:Loc X.env.scope x)(r:RelV v u)
  (h:∀ s',Inv X pins (σ.set i (some v)) H s'->(∃ a,Heap.SameBut a s.heap s'.heap/\(a=X.env.locals\/X.env.cells.lookup x=some a))->Q () s') (hf:zcc X i x:=by first|exact⟨.inl rfl,W3⟩|exact⟨.inr rfl,W3⟩|assumption|exact⟨.inl rfl,by assumption⟩|exact⟨.inr rfl,by assumption⟩):wpAny M A (storeName X.env x u) Q E s:=by
 obtain⟨m,hn,hl⟩:=id I.loc;have hcls:(X.env.scope.kind == .class||(X.env.scope.kind == .module&&X.env.locals != X.env.globals))=false:=by rw[I.ok.kind];rfl
 have hiσ:i<σ.length:=by rw[I.len];exact(zx3.mp hi).1
 have cne:=I.cne;have tracked:∀ {a:Addr} {h':Heap},(∃ o,s.heap.get? a=some o/\H a=none)->Heap.SameBut a s.heap h'->HOk X.prog X.w H h':=fun {a h'} ha hs b ob e=>by
  obtain⟨_,_,hfree⟩:=ha;refine(I.hok b ob e).stay (fun c w' hc q=>(hs.2 c ?_).trans q) (fun _ q=>q) fun _ _ q=>q;rintro rfl;rcases hc with rfl|hc
  ·rw[hfree] at e;cases e
  ·rw[hfree] at hc;cases hc
 rcases hx with hk|hk
 ·refine wpAny_storeName_local hk hn (fun h' hn' hs=>?_) hcls;obtain⟨oL,_,_,hoL,_⟩:=id hn;refine h _ ⟨I.ok,I.os,I.bare,⟨fun b o e n hb hx=>?_,fun b o e n hb hx=>?_,I.base.free,fun b o e hx=>?_,I.base.tups,I.base.frzs,I.base.tbls⟩,⟨_,hn',fun j y v' e1 e2 e3=>?_⟩,fun y c e=>?_,I.free,I.freeC,fun p hp=>?_,tracked ⟨oL,hoL,I.free⟩ hs,by simpa using I.len⟩ ⟨_,hs,.inl rfl⟩
  ·exact(hs.2 b (zyu (zyn (Heap.lt_size e) I.ok.above))).trans (I.base.keep b o e n hb hx)
  ·obtain⟨sl,e1⟩:=I.base.slot b o e n hb hx;exact⟨sl,(hs.2 b (zyu (zyn (Heap.lt_size e) I.ok.above))).trans e1⟩
  ·obtain⟨o',e1⟩:=I.base.there b o e hx;exact⟨o',(hs.2 b (zyu (zyn (Heap.lt_size e) I.ok.above))).trans e1⟩
  ·by_cases hj:j=i
   ·subst hj;rw[hi] at e1;cases e1;rcases e2 with e2|e2
    case' inr=>exact absurd e2 (hf.2 _)
    rw[zzb hiσ] at e2;cases e2;exact⟨u,r,.inl ⟨hk,by simp⟩⟩
   ·have e2:σ[j]?=#[b,some,v']\/X.lk[j]?=#[b,some,v']:=e2.imp_left fun z=>by rw[zy3 (Ne.symm hj)] at z;exact z
    obtain⟨u',r',q⟩:=hl j y v' e1 e2 e3;refine⟨u',r',?_⟩;rcases q with ⟨k,e⟩|⟨k,c,e,z⟩
    ·refine .inl ⟨k,?_⟩;have:y≠x:=fun e=>hj (zac hN e1 (e▸hi));simp[this,e]
    ·exact .inr ⟨k,c,e,z.sameBut hs (cne y c e)⟩
  ·obtain⟨w',z⟩:=I.cell y c e;exact⟨w',z.sameBut hs (cne y c e)⟩
  ·obtain⟨e,n,ne,nf,d⟩:=I.pin p hp;exact⟨(hs.2 p.1 ne).trans e,n,ne,nf,d⟩
 ·have hfn:X.fn x=true:=by
   rcases hf.1 with z|z
   ·exact z
   ·rw[z] at hk;cases hk
  obtain⟨c,hc⟩:=I.ok.has x (.inl hk);obtain⟨w',z⟩:=I.cell x c hc;refine wpAny_storeName_cell I.ok.kind hk hc z fun h' hc' hs=>?_;obtain⟨oc,hoc,hocd⟩:=id z;refine h { s with heap:=h' } ⟨I.ok,I.os,I.bare,⟨fun b o e n hb hx=>?_,fun b o e n hb hx=>?_,I.base.free,fun b o e hx=>?_,I.base.tups,I.base.frzs,I.base.tbls⟩,⟨m,hn.sameBut hs (Ne.symm (cne x c hc)),fun j y v' e1 e2 e3=>?_⟩,fun y c' e=>?_,I.free,I.freeC,fun p hp=>?_,tracked ⟨oc,hoc,I.freeC x c hc⟩ hs,by simpa using I.len⟩ ⟨c,hs,.inr hc⟩
  ·exact(hs.2 b (zyu (zyn (Heap.lt_size e) (I.ok.cab x c hfn hc)))).trans (I.base.keep b o e n hb hx)
  ·obtain⟨sl,e1⟩:=I.base.slot b o e n hb hx;exact⟨sl,(hs.2 b (zyu (zyn (Heap.lt_size e) (I.ok.cab x c hfn hc)))).trans e1⟩
  ·obtain⟨o',e1⟩:=I.base.there b o e hx;exact⟨o',(hs.2 b (zyu (zyn (Heap.lt_size e) (I.ok.cab x c hfn hc)))).trans e1⟩
  ·by_cases hj:j=i
   ·subst hj;rw[hi] at e1;cases e1;rcases e2 with e2|e2
    case' inr=>exact absurd e2 (hf.2 _)
    rw[zzb hiσ] at e2;cases e2;exact⟨u,r,.inr ⟨.inl hk,c,hc,hc'⟩⟩
   ·have e2:σ[j]?=#[b,some,v']\/X.lk[j]?=#[b,some,v']:=e2.imp_left fun z=>by rw[zy3 (Ne.symm hj)] at z;exact z
    obtain⟨u',r',q⟩:=hl j y v' e1 e2 e3;refine⟨u',r',?_⟩;rcases q with q|⟨k,c',e,z'⟩
    ·exact .inl q
    ·refine .inr ⟨k,c',e,z'.sameBut hs ?_⟩;rintro rfl;exact hj (zac hN e1 (I.ok.inj _ _ _ e hc▸hi))
  ·by_cases hcc:c'=c
   ·subst hcc;exact⟨_,hc'⟩
   ·obtain⟨w2,z2⟩:=I.cell y c' e;exact⟨w2,z2.sameBut hs hcc⟩
  ·obtain⟨e,n,ne,nf,d⟩:=I.pin p hp;refine⟨(hs.2 p.1 ?_).trans e,n,ne,nf,d⟩;intro q;rw[q,hoc] at e;have q':oc=p.2:=Option.some.inj e;exact d w' (by rw[<- q'];exact hocd)
theorem zad(I:#[h])(hN:X.N.Nodup)(hi:X.N[i]?=some x)(hx:Loc X.env.scope x)(r:RelV v u)
  (h:∀ s',Inv X pins (σ.set i (some v)) H s'->Q () s') (hf:zcc X i x:=by first|exact⟨.inl rfl,W3⟩|exact⟨.inr rfl,W3⟩|assumption|exact⟨.inl rfl,by assumption⟩|exact⟨.inr rfl,by assumption⟩):wpAny M A (storeName X.env x u) Q E s :=
 Cu I hN hi hx r (fun s' I' _=>h s' I') hf
theorem Inv.call'(I:#[h])(ho:s'.os=s.os)(u:Un (frs X.stack) ch H H' s.heap s'.heap)(hok:HOk X.prog X.w H' s'.heap)(hg:AllBare s'.gens)
  (hch:#[as]):#[G,H',s']:=by
 obtain⟨h',g',d',t',o'⟩:=s';have e:o'=s.os:=ho;subst e;exact I.call (g':=g') (t':=t') (d':=d') u hok hg hch
end
abbrev XK:=Value->Option Addr->Hp->Prop
abbrev St:=List (Option V)
abbrev VK:=V->Hp->Prop
abbrev TE:=St->Hp->VK->Prop
abbrev TT:=St->Hp->(Bool->Hp->Prop)->Prop
abbrev TA:=St->Hp->(#[a]->Hp->Prop)->Prop
structure Pq where
 nx:St->Hp->Prop
 rt:VK
 bk:St->Hp->Prop:=fun _ _=>False
 ct:St->Hp->Prop:=fun _ _=>False
abbrev TS:=Pq->St->Hp->Prop
def EP(X:Cx)(pins:#[v])(σ:St)(Q:VK)(u:Value)(s':Shared):Prop:=∃ v H',#[G,H',s']/\RelV v u/\Q v H'
def TP(X:Cx)(pins:#[v])(σ:St)(Q:Bool->Hp->Prop)(b:Bool)(s':Shared):Prop:=∃ H',#[G,H',s']/\Q b H'
def AP(X:Cx)(pins:#[v])(σ:St)(Q:#[a]->Hp->Prop)(us:List Value)(s':Shared):Prop:=∃ vs H',#[G,H',s']/\Vals vs us/\Q vs H'
def SP(X:Cx)(pins:#[v])(D:Pq)(f:Flow)(s':Shared):Prop :=
 match f with
 | .next=>∃ σ' H',Inv X pins σ' H' s'/\D.nx σ' H'
 | .brk=>∃ σ' H',Inv X pins σ' H' s'/\D.bk σ' H'
 | .cont=>∃ σ' H',Inv X pins σ' H' s'/\D.ct σ' H'
 | .ret u=>∃ v σ' H',Inv X pins σ' H' s'/\RelV v u/\D.rt v H'
def PE(X:Cx)(e:Expr)(t:TE):Prop :=
 ∀ (pins:#[v]) (s:Shared) (σ:St) (H:Hp) (Q:VK),#[h]->t σ H Q->wpAny (model X.prog X.w) X.A #[B,e] (EP X pins σ Q) X.xe s
def PT(X:Cx)(e:Expr)(t:TT):Prop :=
 ∀ (pins:#[v]) (s:Shared) (σ:St) (H:Hp) (Q:Bool->Hp->Prop),#[h]->t σ H Q->wpAny (model X.prog X.w) X.A (isTrue e X.env #[B,e]) (TP X pins σ Q) X.xe s
def PW(X:Cx)(e:Expr)(t:TT):Prop :=
 ∀ (whole:Sem Value) (pins:#[v]) (s:Shared) (σ:St) (H:Hp) (Q:Bool->Hp->Prop),#[h]->t σ H Q->wpAny (model X.prog X.w) X.A (isTrue e X.env whole) (TP X pins σ Q) X.xe s
theorem PW.pt(h:PW X e t):PT X e t:=h _
def PA(X:Cx)(es:List Expr)(t:TA):Prop :=
 ∀ (pos:Pos) (pins:#[v]) (s:Shared) (σ:St) (H:Hp) (Q:#[a]->Hp->Prop),#[h]->t σ H Q->wpAny (model X.prog X.w) X.A (spliced (backTo pos (starEach es X.env))) (AP X pins σ Q) X.xe s
def PS(X:Cx)(st:Stmt)(t:TS):Prop :=
 ∀ (pins:#[v]) (s:Shared) (σ:St) (H:Hp) (D:Pq),#[h]->t D σ H->wpAny (model X.prog X.w) X.A (exec st X.env) (SP X pins D) X.xe s
def PSs(X:Cx)(st:List Stmt)(t:TS):Prop :=
 ∀ (pins:#[v]) (s:Shared) (σ:St) (H:Hp) (D:Pq),#[h]->t D σ H->wpAny (model X.prog X.w) X.A (execs st X.env) (SP X pins D) X.xe s
theorem thn(h:wpAny M A t Q E s)(hQ:∀ a s,Q a s->Q' a s):wpAny M A t Q' E s:=wpAny_mono h hQ fun _ _ x=>x
section
variable{X:Cx}
inductive Nh(i:Nat)(σ:L2.St)(H:Hp)(Q:VK):Prop where
 | mk(v)(_:σ[i]?=#[b,some,v])(_:Q v H)
def tC(v:V):TE:=fun _ H Q=>Q v H
theorem zkt(hN:X.N[i]?=some x)(hv:Vis X.env.scope x)(hd:(x == ("__debug__":Str))=false:=by decide)(hcd:(x == ("__classdict__":Str))=false:=by decide):PE X (.Name x pos) (Nh i):=by
 intro pins s σ H Q I h;obtain⟨v,e,h⟩:=h;obtain⟨m,hn,hl⟩:=I.loc;obtain⟨u,r,l⟩:=hl i x v hN (.inl e) hv;have fin:EP X pins σ Q u s:=⟨v,H,I,r,h⟩;rcases l with ⟨hk,hm⟩|⟨hk,c,hc,hcell⟩
 ·exact wpAny_Name (wpAny_loadName_local I.ok.kind hk hn hm fin) hd
 ·rcases hk with hk|hk
  ·exact wpAny_Name (wpAny_loadName_cell I.ok.kind hk hc hcell fin) hd
  ·exact wpAny_Name (wpAny_loadName_free I.ok.kind hk hc hcell fin hcd) hd
theorem Zf{i j pos}:PE X (.Constant (.int i) j pos) (tC (.int i)):=fun _ _ _ H _ I h=>wpAny_Constant_int ⟨.int i,H,I.tok _,#[y,_],h⟩
theorem Yn{b j pos}:PE X (.Constant (.bool b) j pos) (tC (.bl b)):=fun _ _ _ H _ I h=>Constant_bool ⟨.bl b,H,I,rfl,h⟩
theorem Y3{j pos}:PE X (.Constant .none j pos) (tC .non):=fun _ _ _ H _ I h=>Constant_none ⟨.non,H,I,rfl,h⟩
theorem Zr{x j pos}:PE X (.Constant (.str x) j pos) (tC (.str x)):=fun _ _ _ H _ I h=>Calls.Constant_str ⟨.str x,H,I.tok _,#[y,_],h⟩
def Gl(X:Cx)(x:Str):Prop:=X.env.kindOf x=some .globalImplicit
theorem O5(I:#[h])(hg:Gl X x)(hm:X.mg x=some u)(h:Q u s)
  (hd:(x == ("__debug__":Str))=false:=by decide):#[U,X.A,#[B,.Name x pos],Q,E,s] :=
 Calls.Name_function_global I.ok.kind hg (Calls.loadGlobal_global (by rw[I.ok.glob];exact I.mod.glob.keeps I.bk) hm h) hd
theorem Nw(I:#[h])(hg:Gl X x)(hm:X.mg x=none)(hv:bootBuiltins x=some u)(h:Q u s)
  (hn:x≠"__name__":=by decide) (hd:(x == ("__debug__":Str))=false:=by decide):#[U,X.A,#[B,.Name x pos],Q,E,s]:=by
 obtain⟨mb,h1,h2⟩:=I.mod.blt;exact Calls.Name_function_global I.ok.kind hg (Calls.loadGlobal_builtin (by rw[I.ok.glob];exact I.mod.glob.keeps I.bk) hm (by rw[I.ok.blt];exact h1.keeps I.bk) ((h2 x hn).trans hv) h) hd
theorem zi6(hg:Gl X x)(hm:X.mg x=some u)(r:RelV v u)(hd:(x == ("__debug__":Str))=false:=by decide):PE X (.Name x pos) (tC v) :=
 fun _ _ _ H _ I h=>O5 I hg hm ⟨v,H,I,r,h⟩ hd
theorem Wf(hg:Gl X x)(hm:X.mg x=none)(hv:bootBuiltins x=some u)(r:RelV v u)(hn:x≠"__name__":=by decide)(hd:(x == ("__debug__":Str))=false:=by decide):PE X (.Name x pos) (tC v) :=
 fun _ _ _ H _ I h=>Nw I hg hm hv ⟨v,H,I,r,h⟩ hn hd
variable{a b:Expr}{ta tb:TE}{pos:Pos}
def PC(X:Cx)(op:CmpOp)(a b:Expr)(t:TE):Prop :=
 ∀ (pins:#[v]) (s:Shared) (σ:St) (H:Hp) (Q:VK),#[h]->t σ H Q ->
   wpAny (model X.prog X.w) X.A (eval a X.env) (fun v s₁=>#[U,X.A,#[B,b],fun u s₂=>#[U,X.A,compareOp op v u,EP X pins σ Q,X.xe,s₂],X.xe,s₁]) X.xe s
inductive tBI(Q:Bool->Hp->Prop)(x:V)(H1:Hp):Prop where
 | mk(c)(_:x=.bl c)(_:Q c H1)
def tB(t:TE):TT:=fun σ H Q=>t σ H fun x H1=>tBI Q x H1
theorem zku(h:PC X op a b t)(h1:behindInMarks op b=false:=by first|exact nobehind _ ⋯ ⋯|rfl):PE X (.Compare a [op] [b] pos) t:=fun pins s σ H Q I hw=>wpAny_Compare1 (h pins s σ H Q I hw) h1
theorem Qf(h:PC X op a b t)(h1:behindInMarks op b=false:=by first|exact nobehind _ ⋯ ⋯|rfl):PT X (.Compare a [op] [b] pos) (tB t):=by
 intro pins s σ H Q I hw;refine wpAny_isTrue_Compare1 (thn (h pins s σ H _ I hw) fun v s1 h1=>thn h1 fun u s2 h2=>thn h2 fun c s3 ⟨x,H1,I1,r1,q1⟩=>?_) h1;obtain⟨d,rfl,q⟩:=q1;cases r1;exact wpAny_truthy_bool ⟨H1,I1,q⟩
theorem Yb(h:PE X e t)(he:∀ whole,isTrue e X.env whole=(do let v <- whole;standAt e.pos;holding [v] (truthy v)):=by intro _;rfl):PT X e (tB t):=by
 intro pins s σ H Q I hw;refine isTrue_plain (thn (h pins s σ H _ I hw) fun v s1 ⟨x,H1,I1,r1,q1⟩=>?_) (he _);obtain⟨d,rfl,q⟩:=q1;cases r1;exact wpAny_truthy_bool ⟨H1,I1,q⟩
variable{tA tB':TT}{rest:List Expr}
def zkv(t u:TT):TT:=fun σ H Q=>t σ H fun c H1=>if c=true then u σ H1 Q else Q false H1
def tOr(t u:TT):TT:=fun σ H Q=>t σ H fun c H1=>if c=true then Q true H1 else u σ H1 Q
def zns(t:TT):TT:=fun σ H Q=>t σ H fun c H1=>Q (!c) H1
theorem Qg(ha:PT X a tA):PW X (.BoolOp .And [a] pos) tA:=by
 intro wh pins s σ H Q I h;refine isTrue_and (thn (ha pins s σ H Q I h) fun c s1 e=>?_);cases c with
 | true=>exact isTrue_and_nil e
 | false=>exact e
theorem Xh(ha:PT X a tA):PW X (.BoolOp .Or [a] pos) tA:=by
 intro wh pins s σ H Q I h;refine isTrue_or (thn (ha pins s σ H Q I h) fun c s1 e=>?_);cases c with
 | false=>exact isTrue_or_nil e
 | true=>exact e
theorem Ny(ha:PT X a tA)(hb:PW X (.BoolOp .And (b :: rest) pos) tB'):PW X (.BoolOp .And (a :: b :: rest) pos) (zkv tA tB'):=by
 intro wh pins s σ H Q I h;refine isTrue_and (thn (ha pins s σ H _ I h) fun c s1 ⟨H1,I1,q1⟩=>?_);cases c with
 | true=>exact hb wh pins s1 σ H1 Q I1 q1
 | false=>exact⟨H1,I1,q1⟩
theorem X3(ha:PT X a tA)(hb:PW X (.BoolOp .Or (b :: rest) pos) tB'):PW X (.BoolOp .Or (a :: b :: rest) pos) (tOr tA tB'):=by
 intro wh pins s σ H Q I h;refine isTrue_or (thn (ha pins s σ H _ I h) fun c s1 ⟨H1,I1,q1⟩=>?_);cases c with
 | true=>exact⟨H1,I1,q1⟩
 | false=>exact hb wh pins s1 σ H1 Q I1 q1
theorem Yg(ha:PT X a tA):PT X (.UnaryOp .Not a pos) (zns tA):=by
 intro pins s σ H Q I h;exact isTrue_not (ha pins s σ H (fun c H1=>Q (!c) H1) I h)
inductive zkw(tb:TE)(σ:L2.St)(Q:VK)(x:V)(H1:Hp):Prop where
 | mk(c)(_:x=.bl c)(_:if c=true then tb σ H1 Q else Q (.bl false) H1)
def zmg(ta tb:TE):TE:=fun σ H Q=>ta σ H fun x H1=>zkw tb σ Q x H1
inductive zmh(tb:TE)(σ:L2.St)(Q:VK)(x:V)(H1:Hp):Prop where
 | mk(c)(_:x=.bl c)(_:if c=true then Q (.bl true) H1 else tb σ H1 Q)
def znt(ta tb:TE):TE:=fun σ H Q=>ta σ H fun x H1=>zmh tb σ Q x H1
inductive zkx(Q:VK)(x:V)(H1:Hp):Prop where
 | mk(c)(_:x=.bl c)(_:Q (.bl (!c)) H1)
def zmi(ta:TE):TE:=fun σ H Q=>ta σ H fun x H1=>zkx Q x H1
theorem P4{op}(h:PE X a t):PE X (.BoolOp op [a] pos) t:=fun pins s σ H Q I hw=>BoolOp_one (h pins s σ H Q I hw)
theorem P5(ha:PE X a ta)(hb:PE X (.BoolOp .And (b :: rest) pos) tb):PE X (.BoolOp .And (a :: b :: rest) pos) (zmg ta tb):=by
 intro pins s σ H Q I h;refine BoolOp_and (thn (ha pins s σ H _ I h) fun v s1 ⟨x,H1,I1,r1,q1⟩=>?_);obtain⟨c,rfl,q1⟩:=q1;cases r1;refine wpAny_truthy_bool ?_;cases c with
 | true=>exact hb pins s1 σ H1 Q I1 q1
 | false=>exact⟨.bl false,H1,I1,rfl,q1⟩
theorem zmj(ha:PE X a ta)(hb:PE X (.BoolOp .Or (b :: rest) pos) tb):PE X (.BoolOp .Or (a :: b :: rest) pos) (znt ta tb):=by
 intro pins s σ H Q I h;refine BoolOp_or (thn (ha pins s σ H _ I h) fun v s1 ⟨x,H1,I1,r1,q1⟩=>?_);obtain⟨c,rfl,q1⟩:=q1;cases r1;refine wpAny_truthy_bool ?_;cases c with
 | false=>exact hb pins s1 σ H1 Q I1 q1
 | true=>exact⟨.bl true,H1,I1,rfl,q1⟩
theorem zky(ha:PE X a ta):PE X (.UnaryOp .Not a pos) (zmi ta):=by
 intro pins s σ H Q I h;refine UnaryOp_ (thn (ha pins s σ H _ I h) fun v s1 ⟨x,H1,I1,r1,q1⟩=>?_);obtain⟨c,rfl,q1⟩:=q1;cases r1;exact not_of (wpAny_truthy_bool ⟨.bl (!c),H1,I1,rfl,q1⟩)
def tIf(t:TT)(ta tb:TE):TE:=fun σ H Q=>t σ H fun c H1=>if c=true then ta σ H1 Q else tb σ H1 Q
theorem zae(hc:PT X c tA)(ha:PE X a ta)(hb:PE X b tb):PE X (.IfExp c a b pos) (tIf tA ta tb):=by
 intro pins s σ H Q I h;refine wpAny_IfExp (thn (hc pins s σ H _ I h) fun d s1 ⟨H1,I1,q1⟩=>?_);cases d with
 | true=>exact ha pins s1 σ H1 Q I1 q1
 | false=>exact hb pins s1 σ H1 Q I1 q1
end
def SqL(K:Frag)(H:Hp)(a:Addr)(xs:#[a]):Prop :=
 Rd H a (.lst xs) \/
  ∃ (o:Obj) (its:Array Value) (n:Nat),K.lookup a=#[c]/\o.cls=.type "list"/\o.dict=none/\o.data=.seq its n/\its.size<=sizeLine/\Vals xs its.toList
def SqT(K:Frag)(H:Hp)(a:Addr)(xs:#[a]):Prop :=
 Rd H a (.tup xs) \/
  ∃ (o:Obj) (its:Array Value) (n:Nat),K.lookup a=#[c]/\o.cls=.type "tuple"/\o.data=.seq its n/\its.size<=sizeLine/\Vals xs its.toList
def znu:Value->Option V
 | .none=>some .non
 | .bool b=>#[b,.bl,b]
 | .int i _=>#[l,i]
 | .str x _=>#[b,.str,x]
 | .bytes b _=>#[b,.byt,b]
 | .float b _=>#[b,.flt,b]
 | .ref a=>#[d,a]
 | .type n=>#[b,.ty,n]
 | _=>none
theorem RelV.abs(r:RelV x u):znu u=some x:=by
 cases x with
 | non=>cases r;rfl
 | bl _=>cases r;rfl
 | int _=>obtain⟨t,rfl⟩:=r;rfl
 | str _=>obtain⟨t,rfl⟩:=r;rfl
 | byt _=>obtain⟨t,rfl⟩:=r;rfl
 | flt _=>obtain⟨t,rfl⟩:=r;rfl
 | ref _=>cases r;rfl
 | ty _=>cases r;rfl
theorem RelV.inj(r:RelV x u)(q:RelV y u):x=y:=Option.some.inj (r.abs.symm.trans q.abs)
theorem Vals.inj:∀ {xs ys:List V} {us:List Value},Vals xs us->Vals ys us->xs=ys
 | _,_,_,.nil,.nil=>rfl
 | _,_,_,.cons r t,.cons r' t'=>by rw[r.inj r',Vals.inj t t']
section
variable{X:Cx}{pins:#[v]}{σ:St}{H:Hp}{s:Shared}{a:Addr}{xs ys:#[a]}
theorem SqL.of{K:Frag}(h:#[w,H,a,xs]):SqL K H a xs:=.inl (.inl h)
theorem SqT.of{K:Frag}(h:H a=#[b,.tup,xs]):SqT K H a xs:=.inl (.inl h)
theorem Inv.list(I:#[h])(h:SqL X.K H a xs):∃ its:List Value,Vals xs its/\PlainL s.heap a its.toArray/\xs.length<=sizeLine:=by
 rcases h with h|⟨o,its,n,hk,hc,hd,hs,hz,r⟩
 ·obtain⟨z,its,n,r,e⟩:=h.ok I.hok;exact⟨its,r,⟨_,n,e,rfl,rfl,rfl⟩,z⟩
 ·refine⟨its.toList,r,⟨o,n,I.kIn a o hk,hc,hd,by simpa using hs⟩,?_⟩;have e:=r.length;simp only[Array.length_toList] at e;omega
theorem Inv.tuple(I:#[h])(h:SqT X.K H a xs):∃ its:List Value,Vals xs its/\IsTup s.heap a its.toArray/\xs.length<=sizeLine:=by
 rcases h with h|⟨o,its,n,hk,hc,hs,hz,r⟩
 ·obtain⟨z,its,r,p⟩:=h.ok I.hok;exact⟨its,r,p,z⟩
 ·refine⟨its.toList,r,⟨o,I.kIn a o hk,hc,n,by simpa using hs⟩,?_⟩;have e:=r.length;simp only[Array.length_toList] at e;omega
theorem Inv.list_inj(I:#[h])(h:SqL X.K H a xs)(h':SqL X.K H a ys):xs=ys:=by
 obtain⟨its,r,⟨o,n,e,_,_,d⟩,_⟩:=I.list h;obtain⟨its',r',⟨o',n',e',_,_,d'⟩,_⟩:=I.list h';rw[e] at e';cases e';rw[d] at d';injection d' with d1 _;have:its=its':=by simpa using congrArg Array.toList d1
 subst this;exact r.inj r'
end
section
variable{X:Cx}{st:Stmt}{rest:List Stmt}{t u:TS}{e:Expr}{te:TE}{pos:Pos}
def zdq:TS:=fun D σ H=>D.nx σ H
def Z0(t u:TS):TS:=fun D σ H=>t { D with nx:=u D } σ H
theorem Zo:PSs X [] zdq:=fun _ _ σ H _ I h=>wpAny_execs_nil ⟨σ,H,I,h⟩
theorem Zc(h1:PS X st t)(h2:PSs X rest u):PSs X (st :: rest) (Z0 t u):=by
 intro pins s σ H D I h;refine wpAny_execs_cons (thn (h1 pins s σ H { D with nx:=u D } I h) fun f s1 q=>?_);cases f with
 | next =>
   obtain⟨σ',H',I',q⟩:=q;exact h2 pins s1 σ' H' D I' q
 | ret v=>exact q
 | brk=>exact q
 | cont=>exact q
theorem Zd(h1:PS X st t):PSs X [st] t:=by
 intro pins s σ H D I h;refine wpAny_execs_cons (thn (h1 pins s σ H D I h) fun f s1 q=>?_);cases f with
 | next=>exact wpAny_execs_nil q
 | ret v=>exact q
 | brk=>exact q
 | cont=>exact q
def zkz:TS:=fun D σ H=>D.bk σ H
theorem zgx:PS X (.Break pos) zkz:=fun _ _ σ H _ I h=>wpAny_Break ⟨σ,H,I,h⟩
theorem Inv.quiet(I:#[h]):interactive X.env=false:=by simp[interactive,I.ok.kind]
def zmk(te:TE):TS:=fun D σ H=>te σ H fun _ H1=>D.nx σ H1
theorem Z7(he:PE X e te)(hs:swapsWith e none pos.line X.env=pure false:=by rfl):PS X (.Expr e pos) (zmk te):=by
 intro pins s σ H D I h;exact wpAny_Expr_any (thn (he pins s σ H _ I h) fun v s1 ⟨x,H1,I1,r1,q1⟩=>⟨σ,H1,I1,q1⟩) I.quiet hs
def zml(te:TE):TS:=fun D σ H=>te σ H D.rt
theorem Zl(he:PE X e te):PS X (.Return (some e) pos) (zml te):=by
 intro pins s σ H D I h;exact wpAny_Return_some (thn (he pins s σ H _ I h) fun v s1 ⟨x,H1,I1,r1,q1⟩=>⟨x,σ,H1,I1,r1,q1⟩)
def Dp(c:TT)(t u:TS):TS:=fun D σ H=>c σ H fun b H1=>if b=true then t D σ H1 else u D σ H1
theorem Z2(hc:PT X c tc)(ha:PSs X a t)(hb:PSs X b u):PS X (.If c a b pos) (Dp tc t u):=by
 intro pins s σ H D I h;refine wpAny_If (thn (hc pins s σ H _ I h) fun d s1 ⟨H1,I1,q1⟩=>?_);cases d with
 | true=>exact ha pins s1 σ H1 D I1 q1
 | false=>exact hb pins s1 σ H1 D I1 q1
end
abbrev TG:=V->St->Hp->(St->Hp->Prop)->Prop
abbrev TGs:=#[a]->St->Hp->(St->Hp->Prop)->Prop
def PG(X:Cx)(target:Expr)(t:TG):Prop :=
 ∀ (pins:#[v]) (s:Shared) (σ:St) (H:Hp) (v:V) (u:Value) (Q:St->Hp->Prop),#[h]->RelV v u->t v σ H Q ->
   wpAny (model X.prog X.w) X.A (assign target X.env u) (fun _ s'=>∃ σ' H',Inv X pins σ' H' s'/\Q σ' H') X.xe s
def PGs(X:Cx)(ts:List Expr)(t:TGs):Prop :=
 ∀ (pins:#[v]) (s:Shared) (σ:St) (H:Hp) (vs:#[a]) (us:List Value) (Q:St->Hp->Prop),#[h]->Vals vs us->t vs σ H Q ->
   wpAny (model X.prog X.w) X.A (assignInOrder ((assignEach ts X.env).map (·.2)) us) (fun _ s'=>∃ σ' H',Inv X pins σ' H' s'/\Q σ' H') X.xe s
abbrev zmm:=V->V->V->Hp->(Hp->Prop)->Prop
def zmn(X:Cx)(t:zmm):Prop :=
 ∀ (pins:#[v]) (s:Shared) (σ:St) (H:Hp) (o i v:V) (ov iv u:Value) (Q:Hp->Prop),#[h]->RelV o ov->RelV i iv->RelV v u->t o i v H Q ->
   wpAny (model X.prog X.w) X.A (setItem ov iv u) (fun _ s'=>∃ H',#[G,H',s']/\Q H') X.xe s
section
variable{X:Cx}{pos:Pos}
def Wu(i:Nat):TG:=fun v σ H Q=>Q (σ.set i (some v)) H
theorem Vc(hN:X.N.Nodup)(hi:X.N[i]?=some x)(hx:Loc X.env.scope x)(hf:zcc X i x:=by first|exact⟨.inl rfl,W3⟩|exact⟨.inr rfl,W3⟩|assumption|exact⟨.inl rfl,by assumption⟩|exact⟨.inr rfl,by assumption⟩):PG X (.Name x pos) (Wu i):=by
 intro pins s σ H v u Q I r h;exact wpAny_assign_Name (zad I hN hi hx r (fun s' I'=>⟨_,H,I',h⟩) hf)
def zmo:TGs:=fun vs σ H Q=>vs=[]/\Q σ H
def zgy(t:TG)(u:TGs):TGs:=fun vs σ H Q=>∃ v r,vs=v :: r/\t v σ H fun σ' H'=>u r σ' H' Q
theorem Xt:PGs X [] zmo:=by
 intro pins s σ H vs us Q I r h;obtain⟨e,h⟩:=h;subst e;cases r;exact assignInOrder_nil ⟨σ,H,I,h⟩
theorem Zv(h1:PG X e t)(h2:PGs X es u)
  (hs:(assignEach (e :: es) X.env).map (·.2)=assign e X.env :: (assignEach es X.env).map (·.2):=by rfl):PGs X (e :: es) (zgy t u):=by
 intro pins s σ H vs us Q I r h;obtain⟨v,vr,e1,h⟩:=h;subst e1;cases r with
 | cons r rr =>
   rw[hs];refine assignInOrder_cons (thn (h1 pins s σ H _ _ _ I r h) fun _ s1 ⟨σ1,H1,I1,q1⟩=>?_);exact h2 pins s1 σ1 H1 _ _ Q I1 rr q1
def zk0(K:Frag)(n:Nat)(t:TGs):TG:=fun v σ H Q=>∃ a xs,v=.ref a/\SqT K H a xs/\xs.length=n/\t xs σ H Q
theorem zk1(hc:X.calm=true)(h:PGs X es t)
  (hn:(assignEach es X.env).length=n:=by rfl) (hst:(assignEach es X.env).findIdx? (·.1)=none:=by rfl):PG X (.Tuple es k pos) (zk0 X.K n t):=by
 intro pins s σ H v u Q I r hw;obtain⟨a,xs,e1,hq,hl,hw⟩:=hw;subst e1;cases r;obtain⟨its,rv,ht,hz⟩:=I.tuple hq;refine assign_Tuple_tuple (I.ok.hd hc) ht (by simp[hn,<- hl,rv.length]) hst fun h' hx=>?_;have I1:#[G,H,{ s with heap:=h' }]:=I.kept (t':=s.toks) fun b o e=>hx b o (zyu (Heap.lt_size e)) e;exact h pins _ σ H xs _ Q I1 (by simpa using rv) hw
def znv(to ti:TE)(t:zmm):TG:=fun v σ H Q=>to σ H fun o H1=>ti σ H1 fun i H2=>t o i v H2 fun H3=>Q σ H3
theorem zk2(ho:PE X o to)(hi:PE X i ti)(hs:zmn X t)
  (ha:∀ v,assign (.Subscript o i pos) X.env v=(do
   let ov <- holding [v] (eval o X.env)
   let iv <- holding [v,ov] (eval i X.env)
   standAt pos
   holding [v,ov,iv] (setItem ov iv v)
   release [v,ov,iv] []):=by intro _;rfl):PG X (.Subscript o i pos) (znv to ti t):=by
 intro pins s σ H v u Q I r h;rw[ha];refine wpAny_bind (wpAny_holding (thn (ho pins s σ H _ I h) fun ov s1 ⟨x,H1,I1,r1,q1⟩=>?_));refine wpAny_bind (wpAny_holding (thn (hi pins s1 σ H1 _ I1 q1) fun iv s2 ⟨y,H2,I2,r2,q2⟩=>?_));refine wpAny_bind (wpAny_standAt (wpAny_bind (wpAny_holding (thn (hs pins s2 σ H2 x y v ov iv u _ I2 r1 r2 r q2) fun _ s3 ⟨H3,I3,q3⟩=>?_))));exact wpAny_release ⟨σ,H3,I3,q3⟩
def ze6(te:TE)(g:TG):TS:=fun D σ H=>te σ H fun x H1=>g x σ H1 D.nx
theorem Nz(he:PE X e te)(hg:PG X tg g)(hs:swapsWithSole [tg] e pos.line X.env=pure false:=by rfl)(hw:swappedStores [tg] e X.env=pure none:=by rfl)
  (h1:(assignEach [tg] X.env).map (·.2)=[assign tg X.env]:=by rfl):PS X (.Assign [tg] e pos) (ze6 te g):=by
 intro pins s σ H D I h;refine wpAny_Assign_stores (thn (he pins s σ H _ I h) fun v s1 ⟨x,H1,I1,r1,q1⟩=>?_) hs hw;rw[h1];exact thn (hg pins s1 σ H1 x v _ I1 r1 q1) fun _ s2 q=>q
theorem zk3(hN:X.N.Nodup)(hi:X.N[i]?=some x)(hx:Loc X.env.scope x)(he:PE X e te)(hs:swapsWith e (some (.Name x pos')) pos.line X.env=pure false:=by rfl)(hf:zcc X i x:=by first|exact⟨.inl rfl,W3⟩|exact⟨.inr rfl,W3⟩|assumption|exact⟨.inl rfl,by assumption⟩|exact⟨.inr rfl,by assumption⟩) :
  PS X (.Assign [.Name x pos'] e pos) (ze6 te (Wu i)):=by
 intro pins s σ H D I h;refine wpAny_Assign_Name (thn (he pins s σ H _ I h) fun v s1 ⟨y,H1,I1,r1,q1⟩=>?_) hs;exact zad I1 hN hi hx r1 (fun s2 I2=>⟨_,H1,I2,q1⟩) hf
end
section
variable{X:Cx}{pos:Pos}
def zcd(c:TT)(tb:TS):TS:=fun D σ H=>∃ W:Nat->St->Hp->Prop,(∃ m,W m σ H)/\∀ m σ H,W m σ H ->
 c σ H fun b H1=>if b=true then ∃ N:St->Hp->Prop,(∀ σ' H',N σ' H'->∃ m',m' < m/\W m' σ' H')/\tb { D with nx:=N,ct:=N,bk:=D.nx } σ H1 else D.nx σ H1
theorem G2(hp:PassesOwn (model X.prog X.w) X.A X.env X.xe)(hc:PT X c tc)(hb:PSs X body tb):PS X (.While c body [] pos) (zcd tc tb):=by
 intro pins s σ H D I h;obtain⟨W,⟨m0,w0⟩,turn⟩:=h;refine wpAny_While (codeAny_whileLoop (fun n s'=>∃ σ' H',Inv X pins σ' H' s'/\W n σ' H') ?_ m0 ⟨σ,H,I,w0⟩);rintro n s1 ⟨σ1,H1,I1,w1⟩;refine wpAny_passesOwn hp (thn (hc pins s1 σ1 H1 _ I1 (turn n σ1 H1 w1)) fun b s2 ⟨H2,I2,q2⟩=>?_);cases b with
 | true =>
   obtain⟨N,hN,q2⟩:=q2;rw[if_pos rfl];refine wpAny_passesOwn hp (thn (hb pins s2 σ1 H2 _ I2 q2) fun f s3 q3=>?_);cases f with
   | next =>
     obtain⟨σ3,H3,I3,n3⟩:=q3;obtain⟨m',hm,w3⟩:=hN σ3 H3 n3;exact⟨m',hm,σ3,H3,I3,w3⟩
   | cont =>
     obtain⟨σ3,H3,I3,n3⟩:=q3;obtain⟨m',hm,w3⟩:=hN σ3 H3 n3;exact⟨m',hm,σ3,H3,I3,w3⟩
   | brk=>exact q3
   | ret v=>exact q3
 | false =>
   rw[if_neg zyo];exact wpAny_execs_nil ⟨σ1,H2,I2,q2⟩
end
structure It where
 go:Nat->Hp->Prop
 yld:Nat->Hp->V->Hp->Prop
 stop:Nat->Hp->Prop
def FpOk(X:Cx)(pins:#[v])(H:Hp)(b:Addr):Prop :=
 H b=none/\b≠X.env.locals/\b∉X.fs/\(b∈X.ex\/X.s₀.heap.objs.size<=b)/\(∀ x c,#[P,x]=some c->c≠b)/\∀ p∈X.pn++pins,p.1≠b
theorem Inv.fpOk(I:#[h])(hb:s.heap.objs.size<=b)(hn:H' b=none):FpOk X pins H' b:=by
 refine⟨hn,Nat.ne_of_gt (zyn I.lt hb),I.nofs hb,.inr (zyg I.sz hb),fun x c e z=>?_,fun p hp z=>?_⟩
 ·obtain⟨v,q⟩:=I.cell x c e;exact absurd (zyn q.lt (by rw[z];exact hb)) (zzu _)
 ·exact absurd (zyn (Heap.lt_size (I.pin p hp).1) (by rw[z];exact hb)) (zzu _)
structure zaf(P:Program)(w:World)(K:Frag)(tg:Expr)(J:It)(fp:#[t])(it:Addr)(tn:Nat->Heap->Prop):Prop where
 mem:it∈fp
 obj:∀ i h,tn i h->∀ b∈fp,∃ o,h.get? b=#[c]/\∀ v,o.data≠.cell v
 keep:∀ i h h',tn i h->(∀ b∈fp,∀ o,h.get? b=some o->h'.get? b=some o)->tn i h'
 item:∀ (X:Cx),X.prog=P->X.w=w->X.K=K->X.calm=true->∀ (i:Nat) (pins:#[v]) (s:Shared) (σ:St) (H:Hp) (E:Value->Shared->Prop),#[h]->(∀ b∈fp,FpOk X pins H b)->tn i s.heap->J.go i H ->
  wpAny (model P w) X.A (pyNext (.ref it)) (fun r s1=>∃ u,r=some u /\
   wpAny (model P w) X.A (letOwnedTupleGo tg (.ref it) u) (fun _ s2=>∃ x H',#[G,H',s2]/\RelV x u/\J.yld i H x H'/\tn (i+1) s2.heap/\∀ b∈fp,H' b=none) E s1) E s
 done:∀ (X:Cx),X.prog=P->X.w=w->X.K=K->X.calm=true->∀ (i:Nat) (pins:#[v]) (s:Shared) (σ:St) (H:Hp) (E:Value->Shared->Prop),#[h]->(∀ b∈fp,FpOk X pins H b)->tn i s.heap->J.stop i H ->
  wpAny (model P w) X.A (pyNext (.ref it)) (fun r s1=>r=none/\#[G,H,s1]) E s
 self:∀ (A:Around) (i:Nat) (s:Shared) (Q:Value->Shared->Prop) (E:Value->Shared->Prop),tn i s.heap->Q (.ref it) s->wpAny (model P w) A (pyIter (.ref it)) Q E s
abbrev TI:=St->Hp->(It->Hp->Prop)->Prop
def PIE(X:Cx)(pins:#[v])(σ:St)(tg:Expr)(R:It->Hp->Prop)(itv:Value)(s2:Shared):Prop :=
 ∃ (it:Addr) (fp:#[t]) (tn:Nat->Heap->Prop) (J:It) (H':Hp),itv=.ref it/\#[G,H',s2]/\zaf X.prog X.w X.K tg J fp it tn/\tn 0 s2.heap/\(∀ b∈fp,FpOk X pins H' b)/\R J H'
def PI(X:Cx)(tg iter:Expr)(wi:TI):Prop :=
 ∀ (pins:#[v]) (s:Shared) (σ:St) (H:Hp) (R:It->Hp->Prop),#[h]->wi σ H R ->
   wpAny (model X.prog X.w) X.A (eval iter X.env) (fun v s1=>#[U,X.A,pyIter v,PIE X pins σ tg R,X.xe,s1]) X.xe s
theorem zgz(ho:s.heap.get? it=some o)(hc:o.cls=.type n)(hd:o.data=.fields vs)
  (hn:["enumerate","zip","dict_itemiterator","dict_reverseitemiterator","odict_iterator","itertools.zip_longest","itertools.pairwise"].contains n=false) (hQ:Q () s):wpAny M A (letOwnedTupleGo tg (.ref it) u) Q E s:=by
 unfold letOwnedTupleGo;cases tg<;>first
  | exact wpAny_pure hQ
  | (cases u<;>first
    | exact wpAny_pure hQ
    | (refine wpAny_bind (wpAny_load ho ?_)
       rw[hc,hd];show wpAny M A (if (["enumerate","zip","dict_itemiterator","dict_reverseitemiterator","odict_iterator","itertools.zip_longest","itertools.pairwise"].contains n&&vs[0]? == some (rawInt _))=true then _ else _) Q E s;rw[if_neg (by intro h;rw[hn,Bool.false_and] at h;cases h)];exact wpAny_pure hQ))
def Itl(K:Frag)(a:Addr):It :=
 ⟨fun i H=>∃ xs x,SqL K H a xs/\xs[i]?=some x,fun i H x H'=>H'=H/\∀ xs,SqL K H a xs->xs[i]?=some x,fun i H=>∃ xs,SqL K H a xs/\xs.length<=i⟩
def Itr(lo:Int)(n:Nat):It:=⟨fun i _=>i<n,fun i H x H'=>H'=H/\x=.int (lo+i),fun i _=>n<=i⟩
theorem ze7{P:Program}{w:World}{K:Frag}{tg:Expr}(a it:Addr):zaf P w K tg (Itl K a) [it] it (fun i h=>h.IsListIter it a i) where
 mem:=by simp
 obj:=fun i h st b hb=>by
  have e:b=it:=by simpa using hb
  subst e;obtain⟨o,e,c,d⟩:=st;exact⟨o,e,fun v z=>by rw[d] at z;cases z⟩
 keep:=fun i h h' st k=>st.at fun o e=>k it (by simp) o e
 item:=by
  intro X hP hw hK hc i pins s σ H E I hf st hg;subst hP hw hK;obtain⟨xs,x,hq,hx⟩:=hg;obtain⟨its,rv,p,hz⟩:=I.list hq;obtain⟨u,hu,ru⟩:=rv.get hx;obtain⟨f0,f1,f2,f3,f4,f5⟩:=hf it (by simp);refine wpAny_pyNext_list_item st p.isList (x:=u) (by simpa using hu) fun h' st' sb=>?_;have I1:#[G,H,{ s with heap:=h' }]:=I.turned (t':=s.toks) (fun b o hb e=>(sb.2 b hb).trans e) f0 f1 f3 f4 f5;obtain⟨o,e,c,d⟩:=id st';exact#[q,u,zgz (s:={ s with heap:=h' }) e c d ⋯ ⟨x,H,I1,ru,⟨rfl,fun ys hy=>by rw[I.list_inj hy hq];exact hx⟩,st',fun b hb=>(hf b hb).1⟩]
 done:=by
  intro X hP hw hK hc i pins s σ H E I hf st hg;subst hP hw hK;obtain⟨xs,hq,hx⟩:=hg;obtain⟨its,rv,p,hz⟩:=I.list hq;obtain⟨f0,f1,f2,f3,f4,f5⟩:=hf it (by simp);have hl:=rv.length;exact wpAny_pyNext_list_end (I.ok.hd hc) st p.isList (by simp;omega) fun h' eb=>⟨rfl,I.turned (t':=s.toks) (fun b o hb e=>eb b o hb e) f0 f1 f3 f4 f5⟩
 self:=fun _ _ _ _ _ st h=>wpAny_pyIter_listiter st h
theorem zce{P:Program}{w:World}{K:Frag}{tg:Expr}(it:Addr)(lo:Int)(n:Nat):zaf P w K tg (Itr lo n) [it] it (fun i h=>IsRangeIter h it (lo+(i:Nat)*1) ((n:Int)-(i:Nat)) 1) where
 mem:=by simp
 obj:=fun i h st b hb=>by
  have e:b=it:=by simpa using hb
  subst e;exact⟨_,st,fun v z=>by
   have z':Data.fields _=Data.cell v:=z;cases z'⟩
 keep:=fun i h h' st k=>k it (by simp) _ st
 item:=by
  intro X hP hw hK hc i pins s σ H E I hf st hg;subst hP hw hK;obtain⟨f0,f1,f2,f3,f4,f5⟩:=hf it (by simp);have W:=Walks.range (prog:=X.prog) (w:=X.w) (I.ok.hd hc) it lo 1 n;refine W.item i s _ _ hg st fun v h' tk hv st' kk=>?_;obtain⟨t,rfl⟩:=hv;have I1:#[G,H,{ s with heap:=h',toks:=tk }]:=I.turned (fun b o hb e=>kk b o (by simpa using hb) e) f0 f1 f3 f4 f5;refine#[q,_,zgz (s:={ s with heap:=h',toks:=tk }) (n:="range_iterator") st' rfl rfl ⋯ ⟨.int (lo+i),H,I1,⟨t,?_⟩,#[y,rfl],st',fun b hb=>(hf b hb).1⟩];rw[Int.mul_one]
 done:=by
  intro X hP hw hK hc i pins s σ H E I hf st hg;subst hP hw hK;obtain⟨f0,f1,f2,f3,f4,f5⟩:=hf it (by simp);exact wpAny_pyNext_range_end (I.ok.hd hc) st (by have:n<=i:=hg;omega) fun h' eb=>⟨rfl,I.turned (t':=s.toks) (fun b o hb e=>eb b o hb e) f0 f1 f3 f4 f5⟩
 self:=fun _ _ _ _ _ st h=>wpAny_pyIter_rangeiter st h
section
variable{X:Cx}{tg:Expr}
inductive zk4(K:Frag)(R:It->Hp->Prop)(x:V)(H1:Hp):Prop where
 | mk(a)(_:x=.ref a)(_:(∃ xs,SqL K H1 a xs))(_:R (Itl K a) H1)
def zdr(K:Frag)(tl:TE):TI:=fun σ H R=>tl σ H fun x H1=>zk4 K R x H1
theorem zi7{l:Expr}{tl:TE}(hl:PE X l tl):PI X tg l (zdr X.K tl):=by
 intro pins s σ H R I h;refine thn (hl pins s σ H _ I h) fun v s1 ⟨x,H1,I1,r1,q1⟩=>?_;obtain⟨a,e,⟨xs,hq⟩,q⟩:=q1;subst e;cases r1;obtain⟨its,rv,p,hz⟩:=I1.list hq;refine wpAny_pyIter_list p.isList ?_;refine⟨s1.heap.objs.size,[s1.heap.objs.size],_,_,H1,rfl,I1.kept (t':=s1.toks) fun b o e=>#[W,_,e],ze7 a _,⟨_,Heap.get?_push_size _ rfl,rfl,rfl⟩,fun b hb=>?_,q⟩;have e:b=s1.heap.objs.size:=by simpa using hb
 subst e;exact I1.fpOk (zyc _) (I1.hok.fresh (zyc _))
theorem zag{pins:#[v]}{σ:St}{H:Hp}{s:Shared}{R:It->Hp->Prop}{E:Value->Shared->Prop}{lo hi:Int}{t u v:Tok}{tk:Nat}(I:#[h])(h1:-(2 ^ 62)<=lo)(h2:lo<2 ^ 62)(h3:-(2 ^ 62)<=hi)(h4:hi<2 ^ 62)
  (q:R (Itr lo (hi-lo).toNat) H):#[U,X.A,pyIter (.ref s.heap.objs.size),PIE X pins σ tg R,E,{ s with heap:=s.heap.push { cls:=.type "range",data:=.fields #[.int lo t,.int hi u,.int 1 v] },toks:=tk }]:=by
 refine wpAny_pyIter_range (IsRange.new ..) (small_one h1 h2 h3 h4) ?_;have I1:#[G,H,{ s with heap:=s.heap.push { cls:=.type "range",data:=.fields #[.int lo t,.int hi u,.int 1 v] },toks:=tk }]:=I.kept fun b o e=>#[W,_,e];refine⟨(s.heap.push { cls:=.type "range",data:=.fields #[.int lo t,.int hi u,.int 1 v] }).objs.size,[(s.heap.push { cls:=.type "range",data:=.fields #[.int lo t,.int hi u,.int 1 v] }).objs.size],_,_,H,rfl,
  I1.kept (t':=tk) fun b o e=>#[W,_,e],zce _ lo (hi-lo).toNat,?_,fun b hb=>?_,q⟩
 ·have e1:lo+((0:Nat):Int)*1=lo:=by simp
  have e2:(((hi-lo).toNat:Nat):Int)-((0:Nat):Int)=Builtin.Range.rangeSize lo hi 1:=by rw[rangeSize_one];split<;>omega
  show IsRangeIter _ _ (lo+((0:Nat):Int)*1) ((((hi-lo).toNat:Nat):Int)-((0:Nat):Int)) 1;rw[e1,e2];exact Heap.get?_push_size _ rfl
 ·have e:b=(s.heap.push { cls:=.type "range",data:=.fields #[.int lo t,.int hi u,.int 1 v] }).objs.size:=by simpa using hb
  subst e;exact I1.fpOk (zyc _) (I1.hok.fresh (zyc _))
def zmp(ta:TA):TI:=fun σ H R=>ta σ H fun vs H1=>∃ j:Int,vs=[.int j]/\-(2 ^ 62)<=j/\j<2 ^ 62/\R (Itr 0 j.toNat) H1
def zmq(ta:TA):TI:=fun σ H R=>ta σ H fun vs H1=>∃ i j:Int,vs=[.int i,.int j]/\(-(2 ^ 62)<=i/\i<2 ^ 62/\-(2 ^ 62)<=j/\j<2 ^ 62)/\R (Itr i (j-i).toNat) H1
theorem Yw{a:Expr}{ta:TA}{p pos:Pos}(hg:Gl X "range")(hm:X.mg "range"=none)(ha:PA X [a] ta)(hs:starEach [a] X.env=[(false,#[B,a])]:=by rfl):PI X tg (.Call (.Name "range" p) [a] [] pos) (zmp ta):=by
 intro pins s σ H R I h;refine Call_ (Nw I hg hm boot_range (PyProof.Rows.callWith_type1 (thn (ha pos pins s σ H _ I h) fun us s1 ⟨vs,H1,I1,r1,q1⟩=>?_) hs rfl));obtain⟨j,e,q1,q2,q⟩:=q1;subst e;cases r1 with
 | cons r rr =>
   cases rr;obtain⟨t,rfl⟩:=r;exact call_range_1 (zag I1 ⋯ ⋯ q1 q2 (by simpa using q))
theorem O6(hg:Gl X "range")(hm:X.mg "range"=none)(ha:PA X [a,b] ta)(hs:starEach [a,b] X.env=[(false,eval a X.env),(false,eval b X.env)]:=by rfl)(hs2:starEach [b] X.env=[(false,#[B,b])]:=by rfl) :
  PI X tg (.Call (.Name "range" p) [a,b] [] pos) (zmq ta):=by
 intro pins s σ H R I h;refine Call_ (Nw I hg hm boot_range (PyProof.Rows.callWith_type1 (thn (ha pos pins s σ H _ I h) fun us s1 ⟨vs,H1,I1,r1,q1⟩=>?_) (by rw[hs,hs2]) (by rw[hs2];rfl)));obtain⟨i,j,e,⟨q1,q2,q3,q4⟩,q⟩:=q1;subst e;cases r1 with
 | cons r rr =>
   cases rr with
   | cons r' rr =>
     cases rr;obtain⟨t,rfl⟩:=r;obtain⟨t',rfl⟩:=r';exact call_range_2 (zag I1 q1 q2 q3 q4 q)
def ze8(wi:TI)(g:TG)(tb:TS):TS:=fun D σ H=>wi σ H fun J H1=>∃ W:Nat->Nat->St->Hp->Prop,(∃ m,W 0 m σ H1)/\∀ i m σ H,W i m σ H ->
 (J.stop i H/\D.nx σ H)\/(J.go i H/\∃ N:St->Hp->Prop,(∀ σ' H',N σ' H'->∃ m',m' < m/\W (i+1) m' σ' H')/\∀ x H',J.yld i H x H'->g x σ H' fun σ2 H2=>tb { D with nx:=N,ct:=N,bk:=D.nx } σ2 H2)
def Kn(fp:#[t])(h:Heap):#[v]:=fp.filterMap fun b=>(h.get? b).map fun o=>(b,o)
theorem Qh(hb:b∈fp)(e:h.get? b=some o):(b,o)∈Kn fp h:=zzv.mpr ⟨b,hb,by rw[e];rfl⟩
theorem ze9(hp:p∈Kn fp h):p.1∈fp/\h.get? p.1=some p.2:=by
 obtain⟨b,hb,e⟩:=zzv.mp hp;cases q:h.get? b with
 | none=>rw[q] at e;cases e
 | some o =>
   rw[q] at e;have e':(b,o)=p:=Option.some.inj e;subst e';exact⟨hb,q⟩
theorem Inv.pinned(I:#[h])(hf:∀ b∈fp,FpOk X pins H b)(ho:∀ b∈fp,∃ o,#[J,b]=#[c]/\∀ v,o.data≠.cell v):Inv X (pins++Kn fp s.heap) σ H s :=
 I.pins_of fun p hp=>(zyd.mp hp).elim (fun z=>I.pin p (zyq _ z)) fun z=>by
  obtain⟨hb,e⟩:=ze9 z;obtain⟨f0,f1,f2,_⟩:=hf p.1 hb;obtain⟨o,e',d⟩:=ho p.1 hb;rw[e] at e';cases e';exact⟨e,f0,f1,f2,d⟩
theorem Inv.unpinned(I:Inv X (pins++pl) σ H s):#[h]:=I.pins_of fun p hp=>I.pin p (zyq _ (zyp _ hp))
theorem Yp(hp:PassesOwn (model X.prog X.w) X.A X.env X.xe)(hc:X.calm=true)(hi:PI X tg iter wi)(hg:PG X tg g)(hb:PSs X body tb)
  (hs:∀ x,foldedSetIterable iter X.env x=pure x:=by intro _;rfl):PS X (.For tg iter body [] pos) (ze8 wi g tb):=by
 intro pins s σ H D I h;refine wpAny_For (thn (hi pins s σ H _ I h) fun v s1 h1=>thn h1 fun itv s2 h2=>?_) hs;obtain⟨it,fp,tn,J,H2,e,I2,T,st2,f2,W,⟨m0,w0⟩,turn⟩:=h2;subst e;have stat:∀ {H':Hp},(∀ b∈fp,H' b=none)->∀ b∈fp,FpOk X pins H' b:=fun hn b hb=>⟨hn b hb,(f2 b hb).2⟩
 refine codeAny_forLoop_any (fun n s'=>∃ i σ' H',Inv X pins σ' H' s'/\tn i s'.heap/\(∀ b∈fp,H' b=none)/\W i n σ' H') ?_ m0 ⟨0,σ,H2,I2,st2,fun b hb=>(f2 b hb).1,w0⟩;rintro n s3 ⟨i,σ3,H3,I3,st3,fr3,w3⟩;rcases turn i n σ3 H3 w3 with ⟨stop,qn⟩|⟨go,N,hN,step⟩
 ·refine wpAny_passesOwn hp (thn (T.done X rfl rfl rfl hc i pins s3 σ3 H3 X.xe I3 (stat fr3) st3 stop) fun r s4 ⟨hr,I4⟩=>?_);subst hr;exact wpAny_execs_nil ⟨σ3,H3,I4,qn⟩
 ·refine wpAny_passesOwn hp (thn (T.item X rfl rfl rfl hc i pins s3 σ3 H3 X.xe I3 (stat fr3) st3 go) fun r s4 ⟨u,hr,h4⟩=>?_);subst hr;refine wpAny_passesOwn hp (thn h4 fun _ s5 ⟨x,H5,I5,r5,y5,st5,fr5⟩=>?_);have I5':=I5.pinned (stat fr5) (T.obj _ _ st5);refine wpAny_passesOwn hp (thn (hg _ s5 σ3 H5 x u _ I5' r5 (step x H5 y5)) fun _ s6 ⟨σ6,H6,I6,q6⟩=>?_);refine wpAny_passesOwn hp (thn (hb _ s6 σ6 H6 _ I6 q6) fun f s7 q7=>?_);have again:∀ {σ7:St} {H7:Hp},Inv X (pins++Kn fp s5.heap) σ7 H7 s7->N σ7 H7->∃ m,m<n/\∃ i σ' H',Inv X pins σ' H' s7/\tn i s7.heap/\(∀ b∈fp,H' b=none)/\W i m σ' H':=fun {σ7 H7} I7 n7=>by
   obtain⟨m',hm,w7⟩:=hN σ7 H7 n7;refine⟨m',hm,i+1,σ7,H7,I7.unpinned,T.keep _ _ _ st5 fun b hb o e=>(I7.pin (b,o) (zyq _ (zyq _ (Qh hb e)))).1,fun b hb=>?_,w7⟩;obtain⟨o,e,d⟩:=T.obj _ _ st5 b hb;exact(I7.pin (b,o) (zyq _ (zyq _ (Qh hb e)))).2.1
  cases f with
  | next=>obtain⟨σ7,H7,I7,n7⟩:=q7;exact again I7 n7
  | cont=>obtain⟨σ7,H7,I7,n7⟩:=q7;exact again I7 n7
  | brk=>obtain⟨σ7,H7,I7,q7⟩:=q7;exact⟨σ7,H7,I7.unpinned,q7⟩
  | ret v=>obtain⟨x7,σ7,H7,I7,r7,q7⟩:=q7;exact⟨x7,σ7,H7,I7.unpinned,r7,q7⟩
end
theorem Xr{K:Frag}{a:Addr}{xs:#[a]}{g:TG}{tb:TS}{D:Pq}{σ:St}{H:Hp}(Pv:Nat->St->Hp->Prop)(h0:Pv 0 σ H)(hl:∀ i σ H,i<=xs.length->Pv i σ H->SqL K H a xs)
  (hs:∀ i x σ H,xs[i]?=some x->Pv i σ H->g x σ H fun σ2 H2=>tb { D with nx:=Pv (i+1),ct:=Pv (i+1),bk:=D.nx } σ2 H2) (hd:∀ σ H,Pv xs.length σ H->D.nx σ H) :
  ∃ W:Nat->Nat->St->Hp->Prop,(∃ m,W 0 m σ H)/\∀ i m σ H,W i m σ H ->
    ((Itl K a).stop i H/\D.nx σ H)\/((Itl K a).go i H/\∃ N:St->Hp->Prop,(∀ σ' H',N σ' H'->∃ m',m' < m/\W (i+1) m' σ' H')/\∀ x H',(Itl K a).yld i H x H'->g x σ H' fun σ2 H2=>tb { D with nx:=N,ct:=N,bk:=D.nx } σ2 H2):=by
 refine⟨fun i m σ H=>m=xs.length-i/\i<=xs.length/\Pv i σ H,⟨xs.length,by simp,zyv _,h0⟩,?_⟩;rintro i m σ H ⟨rfl,hi,p⟩;have q:=hl i σ H hi p;by_cases hlt:i<xs.length
 ·refine .inr ⟨⟨xs,xs[i],q,by simp[hlt]⟩,Pv (i+1),fun σ' H' p'=>⟨xs.length-(i+1),by omega,rfl,hlt,p'⟩,fun x H' y=>?_⟩;obtain⟨e,y⟩:=y;subst e;exact hs i x σ _ (y xs q) p
 ·have e:i=xs.length:=by omega
  subst e;exact .inl ⟨⟨xs,q,zyc _⟩,hd σ H p⟩
theorem Xa{lo:Int}{n:Nat}{g:TG}{tb:TS}{D:Pq}{σ:St}{H:Hp}(Pv:Nat->St->Hp->Prop)(h0:Pv 0 σ H)
  (hs:∀ i σ H,i<n->Pv i σ H->g (.int (lo+i)) σ H fun σ2 H2=>tb { D with nx:=Pv (i+1),ct:=Pv (i+1),bk:=D.nx } σ2 H2) (hd:∀ σ H,Pv n σ H->D.nx σ H) :
  ∃ W:Nat->Nat->St->Hp->Prop,(∃ m,W 0 m σ H)/\∀ i m σ H,W i m σ H ->
    ((Itr lo n).stop i H/\D.nx σ H)\/((Itr lo n).go i H/\∃ N:St->Hp->Prop,(∀ σ' H',N σ' H'->∃ m',m' < m/\W (i+1) m' σ' H')/\∀ x H',(Itr lo n).yld i H x H'->g x σ H' fun σ2 H2=>tb { D with nx:=N,ct:=N,bk:=D.nx } σ2 H2):=by
 refine⟨fun i m σ H=>m=n-i/\i<=n/\Pv i σ H,⟨n,by simp,zyv _,h0⟩,?_⟩;rintro i m σ H ⟨rfl,hi,p⟩;by_cases hlt:i<n
 ·refine .inr ⟨hlt,Pv (i+1),fun σ' H' p'=>⟨n-(i+1),by omega,rfl,hlt,p'⟩,fun x H' y=>?_⟩;obtain⟨e,y⟩:=y;subst e y;exact hs i σ _ hlt p
 ·have e:i=n:=by omega
  subst e;exact .inl ⟨zyc _,hd σ H p⟩
abbrev R2:=V->V->Hp->VK->Prop
def OpR(X:Cx)(f:Value->Value->Sem Value)(r:R2):Prop :=
 ∀ (pins:#[v]) (s:Shared) (σ:St) (H:Hp) (x y:V) (v u:Value) (Q:VK),#[h]->RelV x v->RelV y u->r x y H Q ->
   wpAny (model X.prog X.w) X.A (f v u) (EP X pins σ Q) X.xe s
def UnR(X:Cx)(f:Value->Sem Value)(r:V->Hp->VK->Prop):Prop :=
 ∀ (pins:#[v]) (s:Shared) (σ:St) (H:Hp) (x:V) (v:Value) (Q:VK),#[h]->RelV x v->r x H Q ->
   wpAny (model X.prog X.w) X.A (f v) (EP X pins σ Q) X.xe s
def V2(X:Cx)(f:Value)(r:#[a]->Hp->VK->Prop):Prop :=
 ∀ (pins:#[v]) (s:Shared) (σ:St) (H:Hp) (xs:#[a]) (us:List Value) (Q:VK),#[h]->Vals xs us->r xs H Q ->
   wpAny (model X.prog X.w) X.A (call f us) (EP X pins σ Q) X.xe s
def znw(X:Cx)(r:V->Hp->(Bool->Hp->Prop)->Prop):Prop :=
 ∀ (pins:#[v]) (s:Shared) (σ:St) (H:Hp) (x:V) (v:Value) (Q:Bool->Hp->Prop),#[h]->RelV x v->r x H Q ->
   wpAny (model X.prog X.w) X.A (truthy v) (TP X pins σ Q) X.xe s
def tOp(r:R2)(ta tb:TE):TE:=fun σ H Q=>ta σ H fun x H1=>tb σ H1 fun y H2=>r x y H2 Q
def tUn(r:V->Hp->VK->Prop)(ta:TE):TE:=fun σ H Q=>ta σ H fun x H1=>r x H1 Q
inductive rI(C:Int->Int->Prop)(g:Int->Int->V)(x:V)(y:V)(H:Hp)(Q:VK):Prop where
 | mk(i)(j)(_:x=.int i)(_:y=.int j)(_:C i j/\Q (g i j) H)
inductive rI0(g:Int->Int->V)(x:V)(y:V)(H:Hp)(Q:VK):Prop where
 | mk(i)(j)(_:x=.int i)(_:y=.int j)(_:Q (g i j) H)
inductive rU(g:Int->V)(x:V)(H:Hp)(Q:VK):Prop where
 | mk(i)(_:x=.int i)(_:Q (g i) H)
section
variable{X:Cx}{a b c:Expr}{ta tb tc:TE}{pos:Pos}
theorem binT(ha:PE X a ta)(hb:PE X b tb){pins:#[v]}{s:Shared}{σ:St}{H:Hp}{R:V->V->Hp->Prop}(I:#[h])
  (h:ta σ H fun x H1=>tb σ H1 fun y H2=>R x y H2) {Q:Value->Shared->Prop} {f:Value->Value->Sem Value}
  (hf:∀ v u s2 x y H2,#[G,H2,s2]->RelV x v->RelV y u->R x y H2->#[U,X.A,f v u,Q,X.xe,s2]) :
  wpAny (model X.prog X.w) X.A (eval a X.env) (fun v s₁=>#[U,X.A,#[B,b],fun u s₂=>#[U,X.A,f v u,Q,X.xe,s₂],X.xe,s₁]) X.xe s:=by
 refine thn (ha pins s σ H _ I h) fun v s1 ⟨x,H1,I1,r1,q1⟩=>?_;refine thn (hb pins s1 σ H1 _ I1 q1) fun u s2 ⟨y,H2,I2,r2,q2⟩=>?_;exact hf v u s2 x y H2 I2 r1 r2 q2
theorem Zu{op:Operator}{r:R2}(ho:OpR X (binaryOp op) r)(ha:PE X a ta)(hb:PE X b tb):PE X (.BinOp a op b pos) (tOp r ta tb):=by
 intro pins s σ H Q I h;exact wpAny_BinOp (binT ha hb I h fun v u s2 x y H2 I2 rx ry q=>ho pins s2 σ H2 x y v u Q I2 rx ry q)
theorem Pa(ho:UnR X (unaryOp op) r)(ha:PE X a ta):PE X (.UnaryOp op a pos) (tUn r ta):=by
 intro pins s σ H Q I h;exact UnaryOp_ (thn (ha pins s σ H _ I h) fun v s1 ⟨x,H1,I1,r1,q1⟩=>ho pins s1 σ H1 x v Q I1 r1 q1)
theorem opI{f:Value->Value->Sem Value}{C:Int->Int->Prop}{g:Int->Int->Int}
  (rule:∀ (i j:Int) (t u:Tok) (s:Shared) (Q:Value->Shared->Prop) (E:Value->Shared->Prop),C i j->Q (.int (g i j) s.toks) { s with toks:=s.toks+1 }->#[U,X.A,f (.int i t) (.int j u),Q,E,s]) :
  OpR X f (rI C fun i j=>.int (g i j)):=by
 intro pins s σ H x y v u Q I rx ry h;obtain⟨i,j,rfl,rfl,hc,q⟩:=h;obtain⟨t,rfl⟩:=rx;obtain⟨t',rfl⟩:=ry;exact rule i j t t' s _ _ hc ⟨.int (g i j),H,I.tok _,#[y,_],q⟩
theorem zmr{f:Value->Value->Sem Value}{g:Int->Int->Int}
  (rule:∀ (i j:Int) (t u:Tok) (s:Shared) (Q:Value->Shared->Prop) (E:Value->Shared->Prop),Q (.int (g i j) s.toks) { s with toks:=s.toks+1 }->#[U,X.A,f (.int i t) (.int j u),Q,E,s]) :
  OpR X f (rI0 fun i j=>.int (g i j)):=by
 intro pins s σ H x y v u Q I rx ry h;obtain⟨i,j,rfl,rfl,q⟩:=h;obtain⟨t,rfl⟩:=rx;obtain⟨t',rfl⟩:=ry;exact rule i j t t' s _ _ ⟨.int (g i j),H,I.tok _,#[y,_],q⟩
theorem zi8{f:Value->Value->Sem Value}{g:Int->Int->Bool}
  (rule:∀ (i j:Int) (t u:Tok) (s:Shared) (Q:Value->Shared->Prop) (E:Value->Shared->Prop),Q (.bool (g i j)) s->#[U,X.A,f (.int i t) (.int j u),Q,E,s]) :
  OpR X f (rI0 fun i j=>.bl (g i j)):=by
 intro pins s σ H x y v u Q I rx ry h;obtain⟨i,j,rfl,rfl,q⟩:=h;obtain⟨t,rfl⟩:=rx;obtain⟨t',rfl⟩:=ry;exact rule i j t t' s _ _ ⟨.bl (g i j),H,I,rfl,q⟩
def CDiv(i j:Int):Prop:=0<j/\j<1073741824
def CMul(i j:Int):Prop:=(-(2 ^ 64)<i/\i<2 ^ 64)\/(-(2 ^ 64)<j/\j<2 ^ 64)
theorem CMul.ok(h:CMul i j):IntMulOk i j:=by
 rcases h with ⟨h1,h2⟩|⟨h1,h2⟩
 ·exact .of_left (intBits_le_64 h1 h2)
 ·exact .of_right (intBits_le_64 h1 h2)
theorem Yq:OpR X (binaryOp .Add) (rI0 fun i j=>.int (i+j)):=zmr fun _ _ _ _ _ _ _ q=>add_int q
theorem Rf:OpR X (binaryOp .Sub) (rI0 fun i j=>.int (i-j)):=zmr fun _ _ _ _ _ _ _ q=>sub_int q
theorem P6:OpR X (binaryOp .Mult) (rI CMul fun i j=>.int (i*j)):=opI fun _ _ _ _ _ _ _ hc q=>mul_int q hc.ok
theorem Xo:OpR X (binaryOp .FloorDiv) (rI CDiv fun i j=>.int (i/j)):=opI fun i j _ _ _ _ _ hc q=>by
 have h1:(0:Int)<j:=hc.1;have h2:j<1073741824:=hc.2;exact floordiv_int ⋯ (by rw[Int.fdiv_eq_ediv_of_nonneg i ⋯];exact q) (.inl (PyProof.noPylong_small ⋯))
theorem Yy:OpR X (binaryOp .Mod) (rI (fun _ j=>0<j) fun i j=>.int (i%j)):=opI fun i j _ _ _ _ _ hc q=>by
 have h1:(0:Int)<j:=hc;exact mod_int' ⋯ (by rw[Int.fmod_eq_emod_of_nonneg i ⋯];exact q)
theorem unI{f:Value->Sem Value}{g:Int->Int}
  (rule:∀ (i:Int) (t:Tok) (s:Shared) (Q:Value->Shared->Prop) (E:Value->Shared->Prop),Q (.int (g i) s.toks) { s with toks:=s.toks+1 }->#[U,X.A,f (.int i t),Q,E,s]) :
  UnR X f (rU fun i=>.int (g i)):=by
 intro pins s σ H x v Q I rx h;obtain⟨i,rfl,q⟩:=h;obtain⟨t,rfl⟩:=rx;exact rule i t s _ _ ⟨.int (g i),H,I.tok _,#[y,_],q⟩
theorem U8:UnR X (unaryOp .USub) (rU fun i=>.int (-i)):=unI fun _ _ _ _ _ q=>neg_int q
end
def zms:V->V->Bool
 | .non,.non=>true|.non,.int _=>true|.int _,.non=>true|.non,.bl _=>true|.bl _,.non=>true|.non,.str _=>true|.str _,.non=>true
 | .int _,.int _=>true|.bl _,.bl _=>true|.str _,.str _=>true|.byt _,.byt _=>true
 | .int _,.str _=>true|.str _,.int _=>true|.bl _,.str _=>true|.str _,.bl _=>true
 | _,_=>false
inductive rEq(x:V)(y:V)(H:Hp)(Q:VK):Prop where
 | mk(_:zms x y=true)(_:Q (.bl (decide (x=y))) H)
inductive rNe(x:V)(y:V)(H:Hp)(Q:VK):Prop where
 | mk(_:zms x y=true)(_:Q (.bl (!#[i,x=y])) H)
theorem zds:#[i,V.int i=V.int j]=(i == j):=by
 rw[z0d];simp
theorem zg0:#[i,V.bl i=V.bl j]=(i == j):=by
 rw[z0d];simp
theorem zdt:#[i,V.str i=V.str j]=(i == j):=by
 rw[z0d];simp
theorem zdu:#[i,V.byt i=V.byt j]=(i.toList == j.toList):=by
 rw[z0d];cases i;cases j;simp
section
variable{X:Cx}{a b c:Expr}{ta tb tc:TE}{pos:Pos}
theorem Ys(I:#[h])(q:Q (.bl k) H)(e:k=k'):EP X pins σ Q (.bool k') s:=by
 subst e;exact⟨.bl k,H,I,rfl,q⟩
theorem Wd:OpR X (compareOp .Eq) rEq:=by
 intro pins s σ H x y v u Q I rx ry h;obtain⟨hs,q⟩:=h;cases x with
 | non =>
   cases rx;cases y with
   | non=>cases ry;exact #[X,PySem.EqNone.eq_none_none]
   | bl j=>cases ry;exact #[X,PySem.EqNone.eq_none_bool]
   | int j=>obtain⟨t',rfl⟩:=ry;exact #[X,PySem.EqNone.eq_none_int]
   | str j=>obtain⟨t',rfl⟩:=ry;exact #[X,PySem.EqNone.eq_none_str]
   | _=>exact #[ag]
 | bl i =>
   cases rx;cases y with
   | non=>cases ry;exact #[X,PySem.EqNone.eq_bool_none]
   | bl j=>cases ry;exact eq_bool (Ys I q zg0)
   | str j=>obtain⟨t',rfl⟩:=ry;exact #[X,PySem.EqMixed.eq_bool_str]
   | _=>exact #[ag]
 | int i =>
   obtain⟨t,rfl⟩:=rx;cases y with
   | non=>cases ry;exact #[X,PySem.EqNone.eq_int_none]
   | int j=>obtain⟨t',rfl⟩:=ry;exact eq_int (Ys I q zds)
   | str j=>obtain⟨t',rfl⟩:=ry;exact #[X,PySem.EqMixed.eq_int_str]
   | _=>exact #[ag]
 | str i =>
   obtain⟨t,rfl⟩:=rx;cases y with
   | non=>cases ry;exact #[X,PySem.EqNone.eq_str_none]
   | bl j=>cases ry;exact #[X,PySem.EqMixed.eq_str_bool]
   | int j=>obtain⟨t',rfl⟩:=ry;exact #[X,PySem.EqMixed.eq_str_int]
   | str j=>obtain⟨t',rfl⟩:=ry;exact eq_str (Ys I q zdt)
   | _=>exact #[ag]
 | byt i =>
   obtain⟨t,rfl⟩:=rx;cases y with
   | byt j=>obtain⟨t',rfl⟩:=ry;exact PySem.W.eq_bytes (Ys I q zdu)
   | _=>exact #[ag]
 | _=>cases y<;>exact #[ag]
theorem Pb:OpR X (compareOp .NotEq) rNe:=by
 intro pins s σ H x y v u Q I rx ry h;obtain⟨hs,q⟩:=h;cases x with
 | non =>
   cases rx;cases y with
   | non=>cases ry;exact #[X,PySem.EqNone.ne_none_none]
   | bl j=>cases ry;exact #[X,PySem.EqNone.ne_none_bool]
   | int j=>obtain⟨t',rfl⟩:=ry;exact #[X,PySem.EqNone.ne_none_int]
   | str j=>obtain⟨t',rfl⟩:=ry;exact #[X,PySem.EqNone.ne_none_str]
   | _=>exact #[ag]
 | bl i =>
   cases rx;cases y with
   | non=>cases ry;exact #[X,PySem.EqNone.ne_bool_none]
   | bl j=>cases ry;exact ne_bool (Ys I q (congrArg not zg0))
   | str j=>obtain⟨t',rfl⟩:=ry;exact #[X,PySem.EqMixed.ne_bool_str]
   | _=>exact #[ag]
 | int i =>
   obtain⟨t,rfl⟩:=rx;cases y with
   | non=>cases ry;exact #[X,PySem.EqNone.ne_int_none]
   | int j=>obtain⟨t',rfl⟩:=ry;exact ne_int (Ys I q (congrArg not zds))
   | str j=>obtain⟨t',rfl⟩:=ry;exact #[X,PySem.EqMixed.ne_int_str]
   | _=>exact #[ag]
 | str i =>
   obtain⟨t,rfl⟩:=rx;cases y with
   | non=>cases ry;exact #[X,PySem.EqNone.ne_str_none]
   | bl j=>cases ry;exact #[X,PySem.EqMixed.ne_str_bool]
   | int j=>obtain⟨t',rfl⟩:=ry;exact #[X,PySem.EqMixed.ne_str_int]
   | str j=>obtain⟨t',rfl⟩:=ry;exact ne_str (Ys I q (congrArg not zdt))
   | _=>exact #[ag]
 | byt i =>
   obtain⟨t,rfl⟩:=rx;cases y with
   | byt j=>obtain⟨t',rfl⟩:=ry;exact PySem.W.ne_bytes (Ys I q (congrArg not zdu))
   | _=>exact #[ag]
 | _=>cases y<;>exact #[ag]
theorem Cv:OpR X (compareOp .Lt) (rI0 fun i j=>.bl (decide (i<j))):=zi8 fun _ _ _ _ _ _ _ q=>lt_int q
theorem zg1:OpR X (compareOp .LtE) (rI0 fun i j=>.bl (decide (i<=j))):=zi8 fun _ _ _ _ _ _ _ q=>le_int q
theorem Tu:OpR X (compareOp .Gt) (rI0 fun i j=>.bl (decide (j<i))):=zi8 fun _ _ _ _ _ _ _ q=>gt_int q
theorem zdv:OpR X (compareOp .GtE) (rI0 fun i j=>.bl (decide (j<=i))):=zi8 fun _ _ _ _ _ _ _ q=>ge_int q
theorem P8:OpR X (compareOp .Is) fun x y H Q=>y=.non/\Q (.bl (decide (x=.non))) H:=by
 intro pins s σ H x y v u Q I rx ry h;obtain⟨rfl,q⟩:=h;cases ry;refine is_none_gen (Ys I q ?_);cases x<;>first
  | (cases rx;rfl)
  | (obtain⟨t,rfl⟩:=rx;rfl)
theorem Tj:OpR X (compareOp .IsNot) fun x y H Q=>y=.non/\Q (.bl (!#[i,x=.non])) H:=by
 intro pins s σ H x y v u Q I rx ry h;obtain⟨rfl,q⟩:=h;cases ry;refine isnot_none_gen (Ys I q ?_);cases x<;>first
  | (cases rx;rfl)
  | (obtain⟨t,rfl⟩:=rx;rfl)
theorem Zt(b:Expr)(h:op≠.In:=by decide)(h2:op≠.NotIn:=by decide):behindInMarks op b=false:=by
 have e1:(op == CmpOp.In)=false:=by cases op<;>first|rfl|exact absurd rfl h
 have e2:(op == CmpOp.NotIn)=false:=by cases op<;>first|rfl|exact absurd rfl h2
 cases b<;>simp[behindInMarks,e1,e2]
theorem Vn{op:CmpOp}{r:R2}(ho:OpR X (compareOp op) r)(ha:PE X a ta)(hb:PE X b tb)(hm:behindInMarks op b=false):PE X (.Compare a [op] [b] pos) (tOp r ta tb):=by
 intro pins s σ H Q I h;exact wpAny_Compare1 (binT ha hb I h fun v u s2 x y H2 I2 rx ry q=>ho pins s2 σ H2 x y v u Q I2 rx ry q) hm
def zah(t:TE):TT:=fun σ H Q=>t σ H fun x H'=>∃ k,x=.bl k/\Q k H'
theorem Zp(ho:OpR X (compareOp op) r)(ha:PE X a ta)(hb:PE X b tb)(hm:behindInMarks op b=false):PT X (.Compare a [op] [b] pos) (zah (tOp r ta tb)):=by
 intro pins s σ H Q I h;refine wpAny_isTrue_Compare1 (thn (ha pins s σ H _ I h) fun v s1 ⟨x,H1,I1,r1,q1⟩=>thn (hb pins s1 σ H1 _ I1 q1) fun u s2 ⟨y,H2,I2,r2,q2⟩ =>
  thn (ho pins s2 σ H2 x y v u _ I2 r1 r2 q2) fun c s3 ⟨z,H3,I3,r3,k,e,q3⟩=>?_) hm
 subst e;cases r3;exact wpAny_truthy_bool ⟨H3,I3,q3⟩
def TruV(K:Frag)(x:V)(H:Hp)(k:Bool):Prop :=
 match x with
 | .non=>k=false
 | .bl b=>k=b
 | .int i=>k=(i != 0)
 | .str y=>y.length<=sizeLine/\k=((y.length:Int) != 0)
 | .byt y=>y.size<=sizeLine/\k=((y.size:Int) != 0)
 | .ref p=>(∃ xs,SqL K H p xs/\k=!xs.isEmpty)\/(∃ xs,SqT K H p xs/\k=!xs.isEmpty)\/∃ kvs,H p=#[b,.dK,kvs]/\k=!kvs.isEmpty
 | _=>False
theorem zcf(r:KV kvs vs):(!vs.isEmpty)=!kvs.isEmpty:=by
 cases r<;>rfl
theorem G3(r:Vals xs its):(!its.toArray.isEmpty)=!xs.isEmpty:=by
 cases r<;>simp
theorem N1:(sizeLine:Nat)<2 ^ 63:=by rw[sizeLine_eq];decide
theorem zk5:znw X (fun x H Q=>∃ k,TruV X.K x H k/\Q k H):=by
 intro pins s σ H x v Q I rx h;obtain⟨k,e,q⟩:=h;have hl:=N1;have hs:sizeLine=16777216:=sizeLine_eq;cases x with
 | non =>
   cases rx;have e':k=false:=e;subst e';exact truthy_none ⟨H,I,q⟩
 | bl b =>
   cases rx;have e':k=b:=e;subst e';exact wpAny_truthy_bool ⟨H,I,q⟩
 | int i =>
   obtain⟨t,rfl⟩:=rx;have e':k=(i != 0):=e;subst e';exact PySem.P.truthy_int ⟨H,I,q⟩
 | str y =>
   obtain⟨t,rfl⟩:=rx;obtain⟨hy,e'⟩:y.length<=sizeLine/\k=((y.length:Int) != 0):=e;subst e';exact PySem.P.truthy_str ⋯ ⟨H,I.tok _,q⟩
 | byt y =>
   obtain⟨t,rfl⟩:=rx;obtain⟨hy,e'⟩:y.size<=sizeLine/\k=((y.size:Int) != 0):=e;subst e';exact PySem.W.truthy_bytes ⋯ ⟨H,I.tok _,q⟩
 | ref p =>
   cases rx;have e':(∃ xs,SqL X.K H p xs/\k=!xs.isEmpty)\/(∃ xs,SqT X.K H p xs/\k=!xs.isEmpty)\/∃ kvs,H p=#[b,.dK,kvs]/\k=!kvs.isEmpty:=e;rcases e' with ⟨xs,hx,e'⟩|⟨xs,hx,e'⟩|⟨kvs,hx,e'⟩
   ·subst e';obtain⟨its,r,pl,hz⟩:=I.list hx;have hlen:=r.length;exact wpAny_truthy_list pl.isList (by simp only[zyj];omega) ⟨H,I.tok _,by rw[G3 r];exact q⟩
   ·subst e';obtain⟨its,r,pl,hz⟩:=I.tuple hx;have hlen:=r.length;exact truthy_tuple pl (by simp only[zyj];omega) ⟨H,I.tok _,by rw[G3 r];exact q⟩
   ·subst e';obtain⟨hz,hS,vs,r,m⟩:kvs.length<=sizeLine/\(p == sysModules)=false/\∃ vs,KV kvs vs/\s.heap.DictOf (Yo X.prog X.w) p vs:=I.hok p _ hx;have hlen:kvs.length=vs.length:=Paired.length r;exact wpAny_truthy_dict hS m ⋯ ⟨H,I.tok _,by rw[zcf r];exact q⟩
 | _=>exact(show False from e).elim
theorem zg2(ha:PE X a ta)(he:∀ whole,isTrue a X.env whole=(do let v <- whole;standAt a.pos;holding [v] (truthy v))) :
  PT X a (fun σ H Q=>ta σ H fun x H'=>∃ k,TruV X.K x H' k/\Q k H'):=by
 intro pins s σ H Q I h;exact isTrue_plain (thn (ha pins s σ H _ I h) fun v s1 ⟨x,H1,I1,r1,q1⟩=>zk5 pins s1 σ H1 x v Q I1 r1 q1) (he _)
theorem Pc(r:Vals [x] us):∃ u,us=[u]/\RelV x u:=by
 cases r with
 | cons r1 r2=>cases r2;exact#[q,_,r1]
theorem zg3(r:Vals [x,y] us):∃ u w',us=[u,w']/\RelV x u/\RelV y w':=by
 cases r with
 | cons r1 r2 =>
   cases r2 with
   | cons r3 r4=>cases r4;exact⟨_,_,rfl,r1,r3⟩
theorem O7(hc:X.calm=true):V2 X (.builtin "max") (fun xs H Q=>∃ i j,xs=[.int i,.int j]/\Q (.int (if j>i then j else i)) H):=by
 intro pins s σ H xs us Q I r h;obtain⟨i,j,rfl,q⟩:=h;obtain⟨u,w',rfl,⟨t,rfl⟩,⟨t',rfl⟩⟩:=zg3 r;refine max_two_ints (I.ok.hd hc) fun h' tk k=>⟨_,H,I.kept k,?_,q⟩
 by_cases hj:j>i
 ·rw[if_pos hj,if_pos hj];exact#[y,_]
 ·rw[if_neg hj,if_neg hj];exact#[y,_]
theorem Ko(hc:X.calm=true):V2 X (.builtin "min") (fun xs H Q=>∃ i j,xs=[.int i,.int j]/\Q (.int (if j<i then j else i)) H):=by
 intro pins s σ H xs us Q I r h;obtain⟨i,j,rfl,q⟩:=h;obtain⟨u,w',rfl,⟨t,rfl⟩,⟨t',rfl⟩⟩:=zg3 r;refine min_two_ints (I.ok.hd hc) fun h' tk k=>⟨_,H,I.kept k,?_,q⟩
 by_cases hj:j<i
 ·rw[if_pos hj,if_pos hj];exact#[y,_]
 ·rw[if_neg hj,if_neg hj];exact#[y,_]
theorem zfa:V2 X (.type "int") (fun xs H Q=>(∃ i,xs=[.int i]/\Q (.int i) H)\/∃ k,xs=[.bl k]/\Q (.int (if k then 1 else 0)) H):=by
 intro pins s σ H xs us Q I r h;rcases h with ⟨i,rfl,q⟩|⟨k,rfl,q⟩
 ·obtain⟨u,rfl,t,rfl⟩:=Pc r;exact call_int_int ⟨.int i,H,I,#[y,_],q⟩
 ·obtain⟨u,rfl,r1⟩:=Pc r;cases r1;exact call_int_bool ⟨.int (if k then 1 else 0),H,I.tok _,#[y,_],q⟩
end
structure ObjM(h:Heap)(x dx C:Addr)(mA:#[M]):Prop where
 obj:h.get? x=some (PySem.W.instObj C dx)
 ns:h.Ns1 dx mA
 ne:dx≠x
theorem zfb{h:Heap}{dx:Addr}{mA:#[M]}(n:h.Ns1 dx mA):∃ od,h.get? dx=some od/\∀ name,PySem.W.lookIn name od=#[b,mA,name]:=by
 obtain⟨o,es,ep,ho,hd,hk,_,hm⟩:=n;refine⟨o,ho,fun name=>?_⟩;have e:=hm name;unfold nsFind findBy at e;rw[<- Array.find?_toList] at e;unfold PySem.W.lookIn;rw[hd];dsimp only;split
 ·rename_i y q;rw[q] at e;exact congrArg some e
 ·rename_i q;rw[q] at e;have a:es.toList.any (·.refKey)=false:=by
   rw[List.any_eq_false];intro y hy;obtain⟨z,t,hkey⟩:=hk y (Array.mem_toList_iff.mp hy);simp[DictEntry.refKey,hkey]
  have a':¬ es.toList.any (·.refKey)=true:=by rw[a];exact zyo
  rw[if_neg a'];exact congrArg some e
theorem ObjM.look(I:ObjM h x dx C mA):∃ od,PySem.W.InstAt h x (PySem.W.instObj C dx) C (some od)/\∀ name,PySem.W.lookIn name od=#[b,mA,name] :=
 let ⟨od,ho,hl⟩:=zfb I.ns
 ⟨od,⟨I.obj,rfl,rfl,ho⟩,hl⟩
section
variable{prog:Program}{w:World}{A:Around}{E:Value->Shared->Prop}{s:Shared}{K:Frag}{x dx C f:Addr}{mA:#[M]}{name:Str}{v:Value}
theorem zi9(X:K.In s.heap)(I:ObjM s.heap x dx C mA)(hg:PySem.W.plainGet K C name=true)(hh:PySem.W.hasDictIn K C=true)
  (ha:PySem.W.findIn K (.ref C) name=some none) (hv:mA name=some v) (hv':PySem.W.handedIn v=true) (h:Q v { s with toks:=s.toks+1 }) :
  wpAny (model prog w) A (getAttr (.ref x) name expr) Q E s:=by
 obtain⟨od,J,hl⟩:=I.look;exact PySem.W.get_value X J (PySem.W.plainGet_of hg).1 (PySem.W.findObj_own hh ha rfl (by rw[hl,hv])) hv' h
theorem zg4(X:K.In s.heap)(I:ObjM s.heap x dx C mA)(hg:PySem.W.plainGet K C name=true)
  (hf:PySem.W.findIn K (.ref C) name=some #[d,f]) (ht:PySem.W.isFn K (.ref f)=true) (hv:mA name=none) (h:Q (.ref f,[.ref x]) s) :
  wpAny (model prog w) A (getMethod (.ref x) name pl) Q E s:=by
 obtain⟨od,J,hl⟩:=I.look;exact PySem.W.method_fn X J (PySem.W.plainGet_of hg).1 (PySem.W.plainGet_of hg).2 hf (beq_iff_eq.mp ht) (by show (PySem.W.lookIn name od).map (·.isSome)=some false;rw[hl,hv];rfl) h
theorem zja(X:K.In s.heap)(I:ObjM s.heap x dx C mA)
  (hs:PySem.W.findIn K (.ref C) "__setattr__"=some #[b,.builtin,"object.__setattr__"]) (hp:PySem.W.plainOver K C=true) (ht:PySem.W.takerIn K C name=some none) (hh:PySem.W.hasDictIn K C=true)
  (hw:PySem.Within mA ns) (hsz:ns.length<=sizeLine)
  (h:∀ h',ObjM h' x dx C (fun y=>if y=name then some v else mA y)->Heap.SameBut dx s.heap h'->Q () { s with heap:=h',toks:=s.toks+2 }) :
  wpAny (model prog w) A (setAttr (.ref x) name v) Q E s:=by
 obtain⟨od,J,hl⟩:=I.look;refine PySem.W.set_plain X J hs (PySem.W.osa_open (s:={ s with toks:=s.toks+1 }) (r:=none) X J hp ht fun b=>?_);obtain⟨cd,hc,hd'⟩:=PySem.W.any_some hh;have hx:s.heap.get? x=some ⟨.ref C,some dx,.plain,#[]⟩:=I.obj;refine wpAny_bind (wpAny_pure (wpAny_bind (wpAny_bind (wpAny_loadPart hx (wpAny_bind (PySem.W.Looks.here (s:={ s with toks:=s.toks+1 }) (PySem.W.looks_clsIn X hc) ?_))))));rw[hd'];refine wpAny_pure (a:=some dx) (wpAny_bind (wpAny_pure (wpAny_bind ?_)));refine wpAny_nsSet1 (s:={ s with toks:=s.toks+1 }) I.ns fun h' hn2 hs2=>?_;obtain⟨oD,esD,epD,hoD,hdD,hcD⟩:=hn2.count (PySem.Within.cons name v hw);refine wpAny_bind (wpAny_lookBehind hoD (by rw[hdD];exact pastItsLine_dict (zyg hcD (by rw[zyk];omega))) ?_);exact wpAny_pure (h _ ⟨(hs2.2 _ (Ne.symm I.ne)).trans I.obj,hn2,I.ne⟩ hs2)
theorem zg5(X:K.In s.heap)(hm:PySem.W.makesIn K C=true)
  (hi:PySem.W.findIn K (.ref C) "__init__"=some #[d,f]) (hf:PySem.W.typeIn K (.ref f)=#[b,.type,"function"])
  (h:codeAny (model prog w) (A.under (.builtin "type.__call__" ⟨.ref C :: vs,kw⟩)) (.call (.ref f) ⟨.ref (s.heap.objs.size+1) :: vs,kw⟩) (PySem.W.InitBack (s.heap.objs.size+1) R)
   { s with heap:=(s.heap.push PySem.W.emptyDict).push (PySem.W.instObj C s.heap.objs.size) }) :
  codeAny (model prog w) A (.call (.ref C) ⟨vs,kw⟩) R s:=by
 obtain⟨hh,g,d,t,os⟩:=s;exact PySem.W.make_core (PySem.W.makes_of X hm) (PySem.W.looks_findIn X hi) (fun self=>PySem.W.bind_fn X self hf) (.inl rfl) h
end
def putF(f:Str)(v:V):List (Str×V)->List (Str×V)
 | []=>[(f,v)]
 | (g,x) :: r=>if g=f then (g,v) :: r else (g,x) :: putF f v r
theorem Jw(f g:Str)(v:V):∀ fs:List (Str×V),(putF f v fs).lookup g=if g=f then some v else fs.lookup g
 | []=>by
   show List.lookup g [(f,v)]=_;by_cases h:g=f
   ·have hb:(g == f)=true:=beq_iff_eq.mpr h;simp only[List.lookup,hb,if_pos h]
   ·have hb:(g == f)=false:=zyr.mpr h;simp only[List.lookup,hb,if_neg h]
 | (k,x) :: r=>by
   have ih:=Jw f g v r;rw[show putF f v ((k,x) :: r)=(if k=f then (k,v) :: r else (k,x) :: putF f v r) from rfl];by_cases hk:k=f
   ·rw[if_pos hk];by_cases h:g=k
    ·have hb:(g == k)=true:=beq_iff_eq.mpr h;simp only[List.lookup,hb,if_pos (h.trans hk)]
    ·have hb:(g == k)=false:=zyr.mpr h;simp only[List.lookup,hb,if_neg (fun e:g=f=>h (e.trans hk.symm))]
   ·rw[if_neg hk];by_cases h:g=k
    ·have hb:(g == k)=true:=beq_iff_eq.mpr h;simp only[List.lookup,hb,if_neg (fun e:g=f=>hk (h.symm.trans e))]
    ·have hb:(g == k)=false:=zyr.mpr h;simp only[List.lookup,hb];exact ih
theorem Kp(f:Str)(v:V):∀ fs:List (Str×V),f∈(putF f v fs).map (·.1)/\∀ g,g∈fs.map (·.1)->g∈(putF f v fs).map (·.1)
 | []=>⟨by simp[putF],fun g h=>by simp at h⟩
 | (k,x) :: r=>by
   obtain⟨i1,i2⟩:=Kp f v r;rw[show putF f v ((k,x) :: r)=(if k=f then (k,v) :: r else (k,x) :: putF f v r) from rfl];by_cases hk:k=f
   ·rw[if_pos hk];subst hk;exact⟨by simp,fun g h=>by simpa using h⟩
   ·rw[if_neg hk];refine⟨?_,fun g h=>?_⟩
    ·rw[zyf];exact zym _ i1
    ·rw[zyf] at h ⊢;rcases zx8.mp h with e|e
     ·exact zx8.mpr (.inl e)
     ·exact zym _ (i2 g e)
theorem Jx(f:Str)(v:V):∀ fs:List (Str×V),(putF f v fs).length<=fs.length+1
 | []=>by simp[putF]
 | (k,x) :: r=>by
   have ih:=Jx f v r;rw[show putF f v ((k,x) :: r)=(if k=f then (k,v) :: r else (k,x) :: putF f v r) from rfl];by_cases hk:k=f
   ·rw[if_pos hk,zyk,zyk];omega
   ·rw[if_neg hk,zyk,zyk];omega
theorem RelO.some_of(r:RelO (some v) o):∃ u,o=some u/\RelV v u:=by
 cases o with
 | none=>exact(show False from r).elim
 | some u=>exact#[q,u,r]
theorem RelO.none_of(r:RelO none o):o=none:=by
 cases o with
 | none=>rfl
 | some u=>exact(show False from r).elim
theorem zfc(r:RelV v u):PySem.W.handedIn u=true:=by
 cases v with
 | non=>cases (show u=Value.none from r);rfl
 | bl b=>cases (show u=Value.bool b from r);rfl
 | int i=>obtain⟨t,e⟩:=(show ∃ t,u=Value.int i t from r);cases e;rfl
 | str x=>obtain⟨t,e⟩:=(show ∃ t,u=Value.str x t from r);cases e;rfl
 | byt b=>obtain⟨t,e⟩:=(show ∃ t,u=Value.bytes b t from r);cases e;rfl
 | flt b=>obtain⟨t,e⟩:=(show ∃ t,u=Value.float b t from r);cases e;rfl
 | ref a=>cases (show u=Value.ref a from r);rfl
 | ty n=>cases (show u=Value.type n from r);rfl
section
variable{P:Program}{w:World}{H H':Hp}{h h':Heap}{a C dx:Addr}{fs fs':List (Str×V)}
theorem Gs(hok:HOk P w H h)(e:H a=some (.ins C dx fs)):∃ mA,ObjM h a dx C mA/\(∀ f,RelO (fs.lookup f) (mA f))/\PySem.Within mA (fs.map (·.1))/\fs.length<=1000/\H dx=#[b,.own,a]:=by
 obtain⟨d,z,ne,ob,mA,n,r,q⟩:=(show Xd P w H h a (.ins C dx fs) from hok a _ e);exact⟨mA,⟨ob,n,ne⟩,r,q,z,d⟩
end
structure Cls(K:Frag)(C:Addr):Prop where
 pg:PySem.W.plainGet K C Str.empty=true
 hd:PySem.W.hasDictIn K C=true
 po:PySem.W.plainOver K C=true
 sa:PySem.W.findIn K (.ref C) "__setattr__"=some #[b,.builtin,"object.__setattr__"]
theorem Cls.get{K:Frag}{C:Addr}(c:Cls K C)(f:Str):PySem.W.plainGet K C f=true:=c.pg
def X9(K:Frag)(C:Addr)(f:Str):Prop:=PySem.W.findIn K (.ref C) f=some none
theorem X9.taker{K:Frag}{C:Addr}{f:Str}(n:X9 K C f):PySem.W.takerIn K C f=some none:=by
 unfold PySem.W.takerIn;rw[show PySem.W.findIn K (.ref C) f=some none from n];rfl
structure Con(K:Frag)(C:Addr)(f:Str)(v:V)(u:Value):Prop where
 at_:PySem.W.findIn K (.ref C) f=#[b,some,u]
 rel:RelV v u
 get:PySem.W.specialIn K u "__get__"=some none
 cp:PySem.W.copiedNames.contains f=false
structure zg6(K:Frag)(C:Addr)(m:Str)(f:Addr):Prop where
 at_:PySem.W.findIn K (.ref C) m=some #[d,f]
 fn:PySem.W.isFn K (.ref f)=true
 kp:PySem.W.keepIn K (.ref f)=true
section
variable{X:Cx}{pins:#[v]}{σ:St}{H:Hp}{s:Shared}{a C dx:Addr}{fs:List (Str×V)}{f:Str}{v:V}{A:Around}{E:Value->Shared->Prop}
theorem zcg(I:#[h])(e:H a=some (.ins C dx fs))(c:Cls X.K C)(n:X9 X.K C f)(l:fs.lookup f=some v)
  (h:∀ u s',#[G,H,s']->RelV v u->Q u s'):#[U,A,getAttr (.ref a) f b,Q,E,s]:=by
 obtain⟨mA,O,r,_,_,_⟩:=Gs I.hok e;obtain⟨u,hu,ru⟩:=RelO.some_of (v:=v) (o:=mA f) (by rw[<- l];exact r f);exact zi9 I.kIn O (c.get f) c.hd n hu (zfc ru) (h u _ (I.tok _) ru)
theorem G4(I:#[h])(e:H a=some (.ins C dx fs))(c:Cls X.K C)(k:zg6 X.K C m g)(l:fs.lookup m=none)
  (h:Q (.ref g,[.ref a]) s):#[U,A,getMethod (.ref a) m pl,Q,E,s]:=by
 obtain⟨mA,O,r,_,_,_⟩:=Gs I.hok e;have hn:mA m=none:=RelO.none_of (by rw[<- l];exact r m);exact zg4 I.kIn O (c.get m) k.at_ k.fn hn h
theorem zch(I:#[h])(e:H a=some (.ins C dx fs))(c:Cls X.K C)(n:X9 X.K C f)(hl:fs.length<1000)(ry:RelV y u)
  (h:∀ s',#[G,upd H a (.ins C dx (putF f y fs)),s']->Q () s'):#[U,A,setAttr (.ref a) f u,Q,E,s]:=by
 obtain⟨mA,O,r,wi,_,ho⟩:=Gs I.hok e;have hz:(fs.map (·.1)).length<=sizeLine:=by rw[zx1,sizeLine_eq];omega
 refine zja I.kIn O c.sa c.po n.taker c.hd wi hz fun h' O' sb=>h _ ?_;have hd:∃ o,h'.get? dx=#[c]:=let ⟨o,_,_,e',_⟩:=O'.ns;⟨o,e'⟩;refine I.write (x:=a) (e:=dx) (by rw[e];exact True.intro) (.inr ho) (fun b q hb z=>(sb.2 b hb).trans z) hd ?_;refine⟨by rw[Zj O.ne];exact ho,?_,O.ne,O'.obj,_,O'.ns,fun g=>?_,fun g hg=>?_⟩
 ·have:=Jx f y fs;omega
 ·show RelO ((putF f y fs).lookup g) (if g=f then some u else mA g);rw[Jw];by_cases q:g=f
  ·rw[if_pos q,if_pos q];exact ry
  ·rw[if_neg q,if_neg q];exact r g
 ·by_cases q:g=f
  ·rw[q];exact(Kp f y fs).1
  ·refine(Kp f y fs).2 g (wi g fun z=>hg ?_);show (if g=f then some u else mA g)=none;rw[if_neg q];exact z
theorem Inv.made(I:#[h]):Inv X pins σ (upd (upd H s.heap.objs.size (.own (s.heap.objs.size+1))) (s.heap.objs.size+1) (.ins C s.heap.objs.size []))
  { s with heap:=(s.heap.push PySem.W.emptyDict).push (PySem.W.instObj C s.heap.objs.size) }:=by
 have e1:(s.heap.push PySem.W.emptyDict).get? s.heap.objs.size=some PySem.W.emptyDict:=Heap.get?_push_size s.heap rfl;have e2:((s.heap.push PySem.W.emptyDict).push (PySem.W.instObj C s.heap.objs.size)).get? (s.heap.objs.size+1)=some (PySem.W.instObj C s.heap.objs.size):=by
  have:=Heap.get?_push_size (s.heap.push PySem.W.emptyDict) (o:=PySem.W.instObj C s.heap.objs.size) rfl
  rwa [Heap.size_push] at this
 have e3:(s.heap.push PySem.W.emptyDict).Ns s.heap.objs.size fun _=>none:=⟨PySem.W.emptyDict,#[],_,e1,rfl,fun e he=>absurd he (by simp),fun _=>rfl⟩;have I1:=I.laid (a:=s.heap.objs.size) (o:=.own (s.heap.objs.size+1)) (h':=s.heap.push PySem.W.emptyDict) (t':=s.toks) (fun b u q=>#[W,_,q]) (zyc _) ⟨_,e1⟩;refine I1.laid (a:=s.heap.objs.size+1) (o:=.ins C s.heap.objs.size []) (t':=s.toks) (fun b u q=>#[W,_,q]) (Nat.le_of_eq (Heap.size_push _ _)) ?_;have ne:s.heap.objs.size≠s.heap.objs.size+1:=zyu (Nat.lt_succ_self _);refine⟨by rw[Zj ne,Ze],zyv _,ne,e2,fun _=>none,(Heap.Ns1.of_empty e3).at fun o q=>#[W,_,q],fun _=>True.intro,fun y hy=>absurd rfl hy⟩
theorem zjb(hb:attributeBase e f env (eval e env)=eval e env)
  (h:wpAny (model prog w) A (eval e env) (fun o s₁=>wpAny (model prog w) A (getAttr o f true) Q E s₁) E s):wpAny (model prog w) A (eval (.Attribute e f pos) env) Q E s :=
 Attribute_any_ h (by rw[arm_eval_Attribute,hb])
end
inductive zmt(K:Frag)(f:Str)(Q:VK)(x:V)(H1:Hp):Prop where
 | mk(a)(C)(dx)(fs)(v)(_:x=.ref a)(_:H1 a=some (.ins C dx fs))(_:Cls K C)(_:X9 K C f)(_:fs.lookup f=some v)(_:Q v H1)
def zmu(K:Frag)(ta:TE)(f:Str):TE:=fun σ H Q=>ta σ H fun x H1=>zmt K f Q x H1
inductive zmv(K:Frag)(f:Str)(D:Pq)(σ:L2.St)(y:V)(x:V)(H2:Hp):Prop where
 | mk(a)(C)(dx)(fs)(_:x=.ref a)(_:H2 a=some (.ins C dx fs))(_:Cls K C)(_:X9 K C f)(_:fs.length<1000)(_:D.nx σ (upd H2 a (.ins C dx (putF f y fs))))
def zmw(K:Frag)(ta tv:TE)(f:Str):TS:=fun D σ H=>tv σ H fun y H1=>ta σ H1 fun x H2=>zmv K f D σ y x H2
section
variable{X:Cx}{o e value:Expr}{f:Str}{pos pos' tpos:Pos}{ta tv:TE}
theorem zk6(he:PE X e ta)(hb:attributeBase e f X.env #[B,e]=#[B,e]):PE X (.Attribute e f pos) (zmu X.K ta f):=by
 intro pins s σ H Q I h;refine zjb hb (thn (he pins s σ H _ I h) fun u s1 ⟨x,H1,I1,rx,a,C,dx,fs,v,ex,ea,c,n,l,q⟩=>?_);subst ex;obtain rfl:u=Value.ref a:=rx;exact zcg I1 ea c n l fun u' s2 I2 ru=>⟨v,H1,I2,ru,q⟩
theorem zk7(ha:PE X o ta)(hv:PE X value tv)(hs:swapsWith value (some (.Attribute o f pos')) pos.line X.env=pure false):PS X (.Assign [.Attribute o f pos'] value pos) (zmw X.K ta tv f):=by
 intro pins s σ H D I h;refine plainObj_wpAny_Assign_Attribute (thn (hv pins s σ H _ I h) fun u s1 ⟨y,H1,I1,ry,q⟩=>thn (ha pins s1 σ H1 _ I1 q) fun ov s2 ⟨x,H2,I2,rx,a,C,dx,fs,ex,ea,c,n,l,q2⟩=>?_) hs;subst ex;obtain rfl:ov=Value.ref a:=rx;exact zch I2 ea c n l ry fun s3 I3=>⟨σ,_,I3,q2⟩
end
section
variable{X:Cx}{pins:#[v]}{σ:St}{H:Hp}{s:Shared}{A:Around}{E:Value->Shared->Prop}{Q:Value->Shared->Prop}{c:Value}{b:Bool}
inductive Kq(K:Frag)(H:Hp):V->Value->Prop where
 | non:Kq K H .non (.type "NoneType")
 | bl (x:Bool):Kq K H (.bl x) (.type "bool")
 | int (i:Int):Kq K H (.int i) (.type "int")
 | str (x:Str):Kq K H (.str x) (.type "str")
 | flt (x:UInt64):Kq K H (.flt x) (.type "float")
 | lst {a:Addr} {xs:#[a]} (e:#[w,H,a,xs]):Kq K H (.ref a) (.type "list")
 | frz {a:Addr} {o:Obj} {xs:#[a]} (e:H a=some (.frz o (.lst xs))):Kq K H (.ref a) (.type "list")
 | tup {a:Addr} {xs:#[a]} (e:H a=#[b,.tup,xs]):Kq K H (.ref a) (.type "tuple")
 | dK {a:Addr} {kvs:#[N]} (e:H a=#[b,.dK,kvs]):Kq K H (.ref a) (.type "dict")
 | dT {a:Addr} {kvs:List (List Key×V)} (e:H a=#[b,.dT,kvs]):Kq K H (.ref a) (.type "dict")
 | ins {a C dx:Addr} {fs:List (Str×V)} (e:H a=some (.ins C dx fs)) (cl:Cls K C) (ha:PySem.W.findIn K (.ref C) "__class__"=some #[b,.builtin,"object.__class__"])
   (hn:PySem.W.specialIn K (.builtin "object.__class__") "__get__"=some #[b,.builtin,"getset_descriptor.__get__"]) (htk:PySem.W.takesIn K (.builtin "object.__class__")=some true)
   (hm:PySem.W.mroIn K C (.type "object")=some true):Kq K H (.ref a) (.ref C)
theorem zfd(I:#[h])(rx:RelV x u)(ty:Kq X.K H x t)(e:PySem.W.kitOne X.K t c=some b)(h:∀ tk,Q (.bool b) { s with toks:=tk }) :
  wpAny (model X.prog X.w) A (call (.builtin "isinstance") [u,c]) Q E s:=by
 cases ty with
 | non=>cases (show u=Value.none from rx);exact #[ai,PySem.W.kitx_none,True.intro,e,h]
 | bl y=>cases (show u=Value.bool y from rx);exact #[ai,PySem.W.kitx_bool,True.intro,e,h]
 | int i=>obtain⟨t,q⟩:=(show ∃ t,u=Value.int i t from rx);cases q;exact #[ai,PySem.W.kitx_int,True.intro,e,h]
 | str y=>obtain⟨t,q⟩:=(show ∃ t,u=Value.str y t from rx);cases q;exact #[ai,PySem.W.kitx_str,True.intro,e,h]
 | flt y=>obtain⟨t,q⟩:=(show ∃ t,u=Value.float y t from rx);cases q;exact #[ai,PySem.W.kitx_float,True.intro,e,h]
 | @lst a xs ea =>
   cases (show u=Value.ref a from rx);obtain⟨_,_,n,_,h1⟩:=(show Xd X.prog X.w H s.heap a (.lst xs) from I.hok a _ ea);exact #[ai,PySem.W.kitx_list,⟨_,h1,rfl⟩,e,h]
 | @frz a ob xs ea =>
   cases (show u=Value.ref a from rx);obtain⟨_,_,_,n,_,h1⟩:=(show Xd X.prog X.w H s.heap a (.frz ob (.lst xs)) from I.hok a _ ea);exact #[ai,PySem.W.kitx_list,⟨_,h1,rfl⟩,e,h]
 | @tup a xs ea =>
   cases (show u=Value.ref a from rx);obtain⟨_,_,_,p⟩:=(show Xd X.prog X.w H s.heap a (.tup xs) from I.hok a _ ea);obtain⟨o,h1,h2,_⟩:=p;exact #[ai,PySem.W.kitx_tuple,⟨o,h1,h2⟩,e,h]
 | @dK a kvs ea =>
   cases (show u=Value.ref a from rx);obtain⟨_,_,vs,_,p⟩:=(show Xd X.prog X.w H s.heap a (.dK kvs) from I.hok a _ ea);obtain⟨o,es,ep,h1,h2,_⟩:=p;exact #[ai,PySem.W.kitx_dict,⟨o,h1,h2.1⟩,e,h]
 | @dT a kvs ea =>
   cases (show u=Value.ref a from rx);obtain⟨_,_,xs,_,o,es,ep,h1,h2,_⟩:=(show Xd X.prog X.w H s.heap a (.dT kvs) from I.hok a _ ea);exact #[ai,PySem.W.kitx_dict,⟨o,h1,h2.1⟩,e,h]
 | @ins a C dx fs ea cl ha hn htk hm =>
   cases (show u=Value.ref a from rx);obtain⟨mA,O,_⟩:=Gs I.hok ea;obtain⟨od,J,_⟩:=O.look;exact #[ai,PySem.W.kitx_own (cl.get _) cl.hd ha hn htk hm,J,e,h]
end
structure Vl(k:Nat)(A:Around):Prop where
 hd:A.handled=none
 dp:A.depth+3*k+5<recursionLimit
 un:A.units+16*k+200<cLine
theorem Vl.mono(r:Vl k A)(h:j<=k):Vl j A:=⟨r.hd,by have:=r.dp;omega,by have:=r.un;omega⟩
theorem Vl.deeper(r:Vl (k+1) A)(env:Env):Vl k (A.deeper env) :=
 ⟨r.hd,by have:=r.dp;show A.depth+1+3*k+5<_;omega,by have:=r.un;show A.units+3+16*k+200<_;omega⟩
theorem zci{A:Around}{C:Addr}{us:List Value}{kw:List (Str×Value)}:(A.under (.builtin "type.__call__" ⟨.ref C :: us,kw⟩)).depth=A.depth+1:=by
 first|rfl|simp[Around.under,Code.weight,Code.isCreation,Code.isGuard,Code.isCaller,Code.frames,Code.isFrame,guardIds]
theorem zcj{A:Around}{C:Addr}{us:List Value}{kw:List (Str×Value)}:(A.under (.builtin "type.__call__" ⟨.ref C :: us,kw⟩)).units=A.units+1:=by
 first|rfl|simp[Around.under,Code.cUnits,Code.frames,Code.isFrame]
theorem Vl.make(r:Vl (k+1) A)(C:Addr)(us:List Value)(kw:List (Str×Value)):Vl k (A.under (.builtin "type.__call__" ⟨.ref C :: us,kw⟩)) :=
 ⟨r.hd,by have:=r.dp;rw[zci];omega,by have:=r.un;rw[zcj];omega⟩
theorem Vl.depth(r:Vl k A):A.depth<recursionLimit:=by have:=r.dp;omega
theorem Vl.units(r:Vl k A):A.units+64<cLine:=by have:=r.un;omega
def Iu:TA:=fun _ H Q=>Q [] H
def Jy(ta:TE)(tr:TA):TA:=fun σ H Q=>ta σ H fun x H1=>tr σ H1 fun xs H2=>Q (x :: xs) H2
section
variable{X:Cx}{e:Expr}{es:List Expr}{te:TE}{t:TA}{pos:Pos}
theorem Zb:PA X [] Iu:=fun _ _ _ _ H Q I h=>Calls.spliced_nil ⟨[],H,I,.nil,h⟩
theorem Za(ha:PE X e te)(hr:PA X es t)(hs:starEach (e :: es) X.env=(false,#[B,e]) :: starEach es X.env:=by rfl):PA X (e :: es) (Jy te t):=by
 intro pos pins s σ H Q I h;rw[hs];show wpAny _ _ (spliced ((false,eval e X.env) :: backTo pos (starEach es X.env))) _ _ s;refine Calls.spliced_cons (thn (ha pins s σ H _ I h) fun u s1 ⟨x,H1,I1,r1,q1⟩=>?_);exact thn (hr pos pins s1 σ H1 _ I1 q1) fun us s2 ⟨xs,H2,I2,r2,q2⟩=>⟨x :: xs,H2,I2,.cons r1 r2,q2⟩
inductive zmx(Q:VK)(xs:#[a])(H1:Hp):Prop where
 | mk(_:xs.length<=sizeLine)(_:∀ p,H1 p=none->Q (.ref p) (upd H1 p (.tup xs)))
def zmy(t:TA):TE:=fun σ H Q=>t σ H fun xs H1=>zmx Q xs H1
inductive zmz(Q:VK)(xs:#[a])(H1:Hp):Prop where
 | mk(_:xs.length<=sizeLine)(_:∀ p,H1 p=none->Q (.ref p) (upd H1 p (.lst xs)))
def zck(t:TA):TE:=fun σ H Q=>t σ H fun xs H1=>zmz Q xs H1
theorem Yc{x1}(h:PA X es t):PE X (.Tuple es x1 pos) (zmy t):=by
 intro pins s σ H Q I hq;refine wpAny_Tuple_spliced (thn (h pos pins s σ H _ I hq) fun us s1 ⟨xs,H1,I1,r,z,q⟩=>⟨by rw[<- r.length];exact z,?_⟩);have hf:H1 s1.heap.objs.size=none:=I1.hok.fresh (zyc _);refine⟨.ref s1.heap.objs.size,upd H1 s1.heap.objs.size (.tup xs),I1.laid (t':=s1.toks) (fun b u e=>#[W,_,e]) (zyc _) ?_,rfl,q _ hf⟩;exact⟨z,us,r,⟨_,Heap.get?_push_size _ rfl,rfl,_,rfl⟩⟩
theorem Yd(h:PA X es t):PE X (.List es pos) (zck t):=by
 intro pins s σ H Q I hq;refine wpAny_List_spliced (thn (h pos pins s σ H _ I hq) fun us s1 ⟨xs,H1,I1,r,z,q⟩=>⟨by rw[<- r.length];exact z,?_⟩);have hf:H1 s1.heap.objs.size=none:=I1.hok.fresh (zyc _);refine⟨.ref s1.heap.objs.size,upd H1 s1.heap.objs.size (.lst xs),I1.laid (t':=s1.toks) (fun b u e=>#[W,_,e]) (zyc _) ?_,rfl,q _ hf⟩;exact⟨z,us,0,r,Heap.get?_push_size _ rfl⟩
end
abbrev Sp:=#[a]->Hp->VK->XK->Prop
abbrev CXT:=List Env->Hp->Shared->XK->Value->Shared->Prop
structure zcl(P:Program)(w:World)(K:Frag)(mg:#[M])(base:Heap)(A:Around)(outer:List Env)(s:Shared)(H:Hp):Prop where
 frames:A.frames=some outer
 mod:Mod K mg base
 bs:∀ b o,base.get? b=#[c]->#[J,b]=#[c]/\H b=none
 bsz:base.objs.size<=s.heap.objs.size
 funs:s.heap.FunFrames base outer
 frf:∀ b∈frs outer,H b=none
 hok:HOk P w H s.heap
 bare:AllBare s.gens
def CE(outer:List Env)(P:Program)(w:World)(H:Hp)(s:Shared)(Q:VK)(u:Value)(s':Shared):Prop :=
 ∃ v H',s'.os=s.os/\AllBare s'.gens/\Un (frs outer) [] H H' s.heap s'.heap/\HOk P w H' s'.heap/\RelV v u/\Q v H'
def CR(CX:CXT)(outer:List Env)(P:Program)(w:World)(H:Hp)(s:Shared)(Q:VK)(E:XK)(r:Result)(s':Shared):Prop :=
 match r with
 | .ok (.ret u)=>CE outer P w H s Q u s'
 | .ok _=>False
 | .error e=>CX outer H s E e s'
structure FnOk(P:Program)(w:World)(K:Frag)(mg:#[M])(base:Heap)(CX:CXT)(k:Nat)(f:Addr)(fd:FuncData)(ps:List Str)(sp:Sp):Prop where
 len:∀ vs H Q E,sp vs H Q E->vs.length=ps.length
 run:∀ (A:Around) (outer:List Env) (s:Shared) (H:Hp) (args:Args) (us:List Value) (vs:#[a]) (Q:VK) (E:XK),Vl k A->zcl P w K mg base A outer s H->BindsTo s fd args (ps.zip us)->Vals vs us->sp vs H Q E ->
  codeAny (model P w) A (.call (.ref f) args) (CR CX outer P w H s Q E) s
theorem zcl.make{P:Program}{w:World}{K:Frag}{mg:#[M]}{base:Heap}{A:Around}{outer:List Env}{s:Shared}{H:Hp}(e:zcl P w K mg base A outer s H)(C:Addr)(us:List Value)(kw:List (Str×Value)) :
  zcl P w K mg base (A.under (.builtin "type.__call__" ⟨.ref C :: us,kw⟩)) outer s H:=⟨by first|exact e.frames|(simpa [Around.under,Code.envs,Code.isFrame,pushEnvs] using e.frames),e.mod,e.bs,e.bsz,e.funs,e.frf,e.hok,e.bare⟩
section
variable{X:Cx}{pins:#[v]}{σ:St}{H:Hp}{s s':Shared}
theorem Inv.env0(I:#[h]):zcl X.prog X.w X.K X.mg X.base X.A X.stack s H :=
 ⟨I.ok.frames,I.ok.mod,I.bs,zyg I.ok.bsz I.sz,I.stack,I.stkFree,I.hok,I.bare⟩
theorem Inv.after(I:#[h])(h:CE X.stack X.prog X.w H s Q u s'):EP X pins σ Q u s':=by
 obtain⟨v,H',os,bare,un,hok,r,q⟩:=h;obtain⟨hh,g,d,t,os'⟩:=s';obtain rfl:os'=s.os:=os;exact⟨v,H',I.call (h':=hh) (g':=g) (d':=d) (t':=t) (ch:=[]) un hok bare fun b z=>absurd z (by simp),r,q⟩
end
def zdw(sp:Sp)(dvs:#[a])(E:XK)(t:TA):TE:=fun σ H Q=>t σ H fun vs H1=>sp (vs++dvs) H1 Q E
inductive zk8(C:Addr)(m:Str)(sp:Sp)(dvs:#[a])(E:XK)(t:TA)(σ:L2.St)(Q:VK)(x:V)(H1:Hp):Prop where
 | mk(a)(dx)(fs)(_:x=.ref a)(_:H1 a=some (.ins C dx fs))(_:fs.lookup m=none)(_:t σ H1 fun vs H2=>sp (x :: (vs++dvs)) H2 Q E)
def Cw(C:Addr)(m:Str)(sp:Sp)(dvs:#[a])(E:XK)(ta:TE)(t:TA):TE:=fun σ H Q=>ta σ H fun x H1=>zk8 C m sp dvs E t σ Q x H1
def zdx(C:Addr)(sp:Sp)(dvs:#[a])(E:XK)(t:TA):TE:=fun σ H Q=>t σ H fun vs H1=>∀ x dx,H1 x=none->H1 dx=none->dx≠x ->
 sp (.ref x :: (vs++dvs)) (upd (upd H1 dx (.own x)) x (.ins C dx [])) (fun v H2=>v=.non/\Q (.ref x) H2) E
def Rx(K:Frag)(fd:FuncData)(ps:List Str)(ds:List Value):Prop :=
 ∀ (s:Shared) (us:List Value),K.In s.heap->(us++ds).length=ps.length->BindsTo s fd ⟨us,[]⟩ (ps.zip (us++ds))
theorem Rx.all{K:Frag}{fd:FuncData}{ps:List Str}(h:∀ us:List Value,us.length=ps.length->bindArgs fd ⟨us,[]⟩=pure (ps.zip us)):Rx K fd ps []:=fun s us _ hl=>by
 rw[z0e] at hl ⊢;exact .of_eq (h us hl)
def Vh(CX:CXT)(X:Cx)(E:XK):Prop:=∀ (pins:List (Addr×Obj)) (σ:St) (H:Hp) (s:Shared) (e:Value) (s':Shared),#[h]->CX X.stack H s E e s'->X.xe e s'
section
variable{X:Cx}{CX:CXT}{k:Nat}{f C:Addr}{fd:FuncData}{ps:List Str}{sp:Sp}{dvs:#[a]}{ds:List Value}{E:XK}{x m:Str}{p pos apos:Pos}{e o:Expr}{es:List Expr}{ta:TE}{t:TA}
theorem zcm(F:FnOk X.prog X.w X.K X.mg X.base CX k f fd ps sp)(hr:Vl k X.A)(hb:Rx X.K fd ps ds)(hd:Vals dvs ds)(hx:Vh CX X E)
  (I:#[h]) (r:Vals vs us) (h:sp (vs++dvs) H Q E):#[U,X.A,call (.ref f) us,EP X pins σ Q,X.xe,s]:=by
 have r2:Vals (vs++dvs) (us++ds):=r.append hd;have hl:(us++ds).length=ps.length:=by rw[<- r2.length];exact F.len _ _ _ _ h
 refine wpAny_call (codeAny_mono (F.run X.A X.stack s H ⟨us,[]⟩ (us++ds) (vs++dvs) Q E hr I.env0 (hb s us I.kIn hl) r2 h) fun r s' hq=>?_);cases r with
 | error e=>exact hx pins σ H s e s' I hq
 | ok fl =>
   cases fl with
   | ret u=>exact I.after hq
   | next=>exact False.elim hq
   | brk=>exact False.elim hq
   | cont=>exact False.elim hq
theorem zjc(F:FnOk X.prog X.w X.K X.mg X.base CX k f fd ps sp)(hr:Vl k X.A)(hg:Gl X x)(hm:X.mg x=#[b,.ref,f])(hk:PySem.W.keepIn X.K (.ref f)=true)(hb:Rx X.K fd ps ds)(hd:Vals dvs ds)(hx:Vh CX X E)
  (ha:PA X (e :: es) t) (hdb:(x == ("__debug__":Str))=false:=by decide) (he:starEach (e :: es) X.env=(false,#[B,e]) :: starEach es X.env:=by rfl) (hpl:#[ak]=false:=by rfl) :
  PE X (.Call (.Name x p) (e :: es) [] pos) (zdw sp dvs E t):=by
 intro pins s σ H Q I h;refine wpAny_Call_Name_kw (O5 I hg hm ?_ hdb);refine PySem.W.callWith_K (h₀:=X.base) I.ok.mod.kin hk (thn (ha pos pins s σ H _ I h) fun us s1 ⟨vs,H1,I1,r,q⟩=>⟨I1.kIn,?_⟩) he hpl;exact zcm F hr hb hd hx I1 r q
theorem zjd(he:PE X o ta)(c:Cls X.K C)(hm:zg6 X.K C m f)(F:FnOk X.prog X.w X.K X.mg X.base CX k f fd ps sp)(hr:Vl k X.A)(hb:Rx X.K fd ps ds)(hd:Vals dvs ds)(hx:Vh CX X E)(ha:PA X (e :: es) t)
  (hst:starEach (e :: es) X.env=(false,#[B,e]) :: starEach es X.env:=by rfl) (hpl:#[ak]=false:=by rfl)
  (ht:#[B,.Call (.Attribute o m apos) (e :: es) [] pos]=(do
   let ov <- #[B,o]
   standAt apos.atName
   let (f,first) <- holding [ov] (getMethod ov m pl)
   callWith pos f first (backTo pos (starEach (e :: es) X.env)) (backToKw pos (keywordEach [] X.env))):=by rfl) :
  PE X (.Call (.Attribute o m apos) (e :: es) [] pos) (Cw C m sp dvs E ta t):=by
 intro pins s σ H Q I h;refine PySem.W.methodCall_KW (pl:=pl) (thn (he pins s σ H _ I h) fun u s1 ⟨x,H1,I1,rx,a,dx,fs,ex,ea,l,q⟩=>?_) ht;subst ex;obtain rfl:u=Value.ref a:=rx;refine G4 I1 ea c hm l ?_;refine PySem.W.callWith_K (first:=[.ref a]) (h₀:=X.base) I.ok.mod.kin hm.kp (thn (ha pos pins s1 σ H1 _ I1 q) fun us s2 ⟨vs,H2,I2,r,q2⟩=>⟨I2.kIn,?_⟩) hst hpl;exact zcm (us:=.ref a :: us) (vs:=.ref a :: vs) F hr hb hd hx I2 (.cons rfl r) q2
theorem zg7(he:PE X o ta)(c:Cls X.K C)(hm:zg6 X.K C m f)(F:FnOk X.prog X.w X.K X.mg X.base CX k f fd ps sp)(hr:Vl k X.A)(hb:Rx X.K fd ps ds)(hd:Vals dvs ds)(hx:Vh CX X E)
  (ht:#[B,.Call (.Attribute o m apos) [] [] pos]=(do
   let ov <- #[B,o]
   standAt apos.atName
   let (f,first) <- holding [ov] (getMethod ov m pl)
   callWith pos f first (backTo pos (starEach [] X.env)) (backToKw pos (keywordEach [] X.env))):=by rfl) :
  PE X (.Call (.Attribute o m apos) [] [] pos) (Cw C m sp dvs E ta Iu):=by
 intro pins s σ H Q I h;refine PySem.W.methodCall_KW (pl:=pl) (thn (he pins s σ H _ I h) fun u s1 ⟨x,H1,I1,rx,a,dx,fs,ex,ea,l,q⟩=>?_) ht;subst ex;obtain rfl:u=Value.ref a:=rx;refine G4 I1 ea c hm l ?_;exact PySem.W.callWith_K0 (first:=[.ref a]) I1.kIn hm.kp (zcm (us:=[.ref a]) (vs:=[.ref a]) F hr hb hd hx I1 (.cons rfl .nil) q)
structure Mk(K:Frag)(C f:Addr):Prop where
 makes:PySem.W.makesIn K C=true
 init:PySem.W.findIn K (.ref C) "__init__"=some #[d,f]
 fn:PySem.W.isFn K (.ref f)=true
 kp:PySem.W.keepIn K (.ref C)=true
theorem zai(M:Mk X.K C f)(F:FnOk X.prog X.w X.K X.mg X.base CX k f fd ps sp)(hr:Vl (k+1) X.A)(hb:Rx X.K fd ps ds)(hd:Vals dvs ds)
  (hx:Vh CX X E) (I:#[h]) (r:Vals vs us)
  (h:∀ x dx,H x=none->H dx=none->dx≠x->sp (.ref x :: (vs++dvs)) (upd (upd H dx (.own x)) x (.ins C dx [])) (fun v H2=>v=.non/\Q (.ref x) H2) E) :
  wpAny (model X.prog X.w) X.A (call (.ref C) us) (EP X pins σ Q) X.xe s:=by
 have hq:=h (s.heap.objs.size+1) s.heap.objs.size (I.hok.fresh (Nat.le_succ _)) (I.hok.fresh (zyc _)) (zyu (Nat.lt_succ_self _));have I2:=Inv.made (C:=C) I;have r2:Vals (V.ref (s.heap.objs.size+1) :: (vs++dvs)) (Value.ref (s.heap.objs.size+1) :: (us++ds)):=.cons rfl (r.append hd);have hl:(Value.ref (s.heap.objs.size+1) :: us++ds).length=ps.length:=by
  have e:=r2.length;rw[F.len _ _ _ _ hq] at e;exact e.symm
 refine wpAny_call (zg5 (f:=f) I.kIn M.makes M.init (beq_iff_eq.mp M.fn) (codeAny_mono (F.run _ X.stack _ _ ⟨Value.ref (s.heap.objs.size+1) :: us,[]⟩ (Value.ref (s.heap.objs.size+1) :: (us++ds)) _ _ E (hr.make C us [])
  (I2.env0.make C us []) (hb _ (Value.ref (s.heap.objs.size+1) :: us) I2.kIn hl) r2 hq) fun r s' hq'=>?_))
 cases r with
 | error e=>exact hx pins σ _ _ e s' I2 hq'
 | ok fl =>
   cases fl with
   | ret u =>
     obtain⟨v,H',I3,rv,ev,q3⟩:=I2.after hq';subst ev;exact⟨rv,⟨V.ref (s.heap.objs.size+1),H',I3,rfl,q3⟩⟩
   | next=>exact False.elim hq'
   | brk=>exact False.elim hq'
   | cont=>exact False.elim hq'
theorem zje(M:Mk X.K C f)(F:FnOk X.prog X.w X.K X.mg X.base CX k f fd ps sp)(hr:Vl (k+1) X.A)(hg:Gl X x)(hm:X.mg x=#[b,.ref,C])(hb:Rx X.K fd ps ds)(hd:Vals dvs ds)(hx:Vh CX X E)
  (ha:PA X (e :: es) t) (hdb:(x == ("__debug__":Str))=false:=by decide) (he:starEach (e :: es) X.env=(false,#[B,e]) :: starEach es X.env:=by rfl) (hpl:#[ak]=false:=by rfl) :
  PE X (.Call (.Name x p) (e :: es) [] pos) (zdx C sp dvs E t):=by
 intro pins s σ H Q I h;refine wpAny_Call_Name_kw (O5 I hg hm ?_ hdb);refine PySem.W.callWith_K (h₀:=X.base) I.ok.mod.kin M.kp (thn (ha pos pins s σ H _ I h) fun us s1 ⟨vs,H1,I1,r,q⟩=>⟨I1.kIn,?_⟩) he hpl;exact zai M F hr hb hd hx I1 r q
theorem zg8(M:Mk X.K C f)(F:FnOk X.prog X.w X.K X.mg X.base CX k f fd ps sp)(hr:Vl (k+1) X.A)(hg:Gl X x)(hm:X.mg x=#[b,.ref,C])(hb:Rx X.K fd ps ds)(hd:Vals dvs ds)(hx:Vh CX X E)
  (hdb:(x == ("__debug__":Str))=false:=by decide):PE X (.Call (.Name x p) [] [] pos) (zdx C sp dvs E Iu):=by
 intro pins s σ H Q I h;refine wpAny_Call_Name_kw (O5 I hg hm ?_ hdb);exact PySem.W.callWith_K0 I.kIn M.kp (zai (us:=[]) M F hr hb hd hx I .nil h)
end
section
variable{X:Cx}{CX:CXT}{k:Nat}{f C:Addr}{fd:FuncData}{ps ks:List Str}{sp:Sp}{E:XK}{x m:Str}{p pos apos kpos:Pos}{e o:Expr}{es:List Expr}{kws:List Keyword}{te ta:TE}{t tk:TA}{nm:Option Str}
structure znx(K:Frag)(fd:FuncData)(ps ks:List Str)(g:List Value->List Value->List Value)(gV:#[a]->#[a]->#[a]):Prop where
 to:∀ (s:Shared) (us ws:List Value),K.In s.heap->(g us ws).length=ps.length->BindsTo s fd ⟨us,ks.zip ws⟩ (ps.zip (g us ws))
 rel:∀ {vs:List V} {us:List Value} {zs:List V} {ws:List Value},Vals vs us->Vals zs ws->Vals (gV vs zs) (g us ws)
variable{g:List Value->List Value->List Value}{gV:#[a]->#[a]->#[a]}
end
structure Zn(N P:List Str)(sc:Scope):Prop where
 kind:sc.kind=.function
 co:sc.isCoroutine=false
 gen:sc.isGenerator=false
 nd:N.Nodup
 pre:N.take P.length=P
 par:∀ x∈P,sc.names.lookup x=some .local\/sc.names.lookup x=some .cell
 nofree:∀ y∈sc.names,y.2≠.free
theorem Cy{kindOf:Str->Option NameKind}{x:Str}:∀ {binds:List (Str×Value)} {m:Str->Option Value},(∀ v,(x,v)∉binds)->bindL kindOf binds m x=m x
 | [],_,_=>rfl
 | (n,v) :: r,m,h=>by
   unfold bindL;rw[Cy fun w hw=>h w (zym _ hw)];split
   ·have:x≠n:=by rintro rfl;exact h v zyy
    simp[this]
   ·rfl
theorem Cz{kindOf:Str->Option NameKind}{x:Str}:∀ {binds:List (Str×Value)} {m:Str->Option Value},(∀ v,(x,v)∉binds)->bindC kindOf binds m x=m x
 | [],_,_=>rfl
 | (n,v) :: r,m,h=>by
   unfold bindC;rw[Cz fun w hw=>h w (zym _ hw)];split
   ·rfl
   ·have:x≠n:=by rintro rfl;exact h v zyy
    simp[this]
theorem C0{kindOf:Str->Option NameKind}{x:Str}{v:Value}:∀ {P:List Str} {vs:List Value} {i:Nat} {m:#[M]},P.Nodup->P[i]?=some x->vs[i]?=some v->kindOf x=some .local ->
  bindL kindOf (P.zip vs) m x=some v
 | [],_,_,_,_,h,_,_=>by simp at h
 | _ :: _,[],_,_,_,_,h,_=>by simp at h
 | p :: P,w :: vs,0,m,nd,h1,h2,hk=>by
   simp at h1 h2;subst h1;subst h2;show bindL kindOf ((p,w) :: P.zip vs) m p=_;unfold bindL;rw[Cy fun v hv=>(zys.mp nd).1 (List.of_mem_zip hv).1,if_pos hk];simp
 | p :: P,w :: vs,i+1,m,nd,h1,h2,hk=>by
   show bindL kindOf ((p,w) :: P.zip vs) m x=_;unfold bindL;exact C0 (i:=i) (zys.mp nd).2 (by simpa using h1) (by simpa using h2) hk
theorem C2{kindOf:Str->Option NameKind}{x:Str}{v:Value}:∀ {P:List Str} {vs:List Value} {i:Nat} {m:#[M]},P.Nodup->P[i]?=some x->vs[i]?=some v->kindOf x≠some .local ->
  bindC kindOf (P.zip vs) m x=some v
 | [],_,_,_,_,h,_,_=>by simp at h
 | _ :: _,[],_,_,_,_,h,_=>by simp at h
 | p :: P,w :: vs,0,m,nd,h1,h2,hk=>by
   simp at h1 h2;subst h1;subst h2;show bindC kindOf ((p,w) :: P.zip vs) m p=_;unfold bindC;rw[Cz fun v hv=>(zys.mp nd).1 (List.of_mem_zip hv).1,if_neg hk];simp
 | p :: P,w :: vs,i+1,m,nd,h1,h2,hk=>by
   show bindC kindOf ((p,w) :: P.zip vs) m x=_;unfold bindC;exact C2 (i:=i) (zys.mp nd).2 (by simpa using h1) (by simpa using h2) hk
def Jz(N:List Str)(vs:#[a]):St:=vs.map some++List.replicate (N.length-vs.length) none
def cxOf(CX:CXT)(P:Program)(w:World)(K:Frag)(mg:#[M])(base:Heap)(N:List Str)(qual:Str)(scope:Scope)(f:Addr)(cd:Value)(A:Around)(outer:List Env)(s:Shared)(H:Hp)(E:XK):Cx where
 prog:=P
 w:=w
 K:=K
 mg:=mg
 base:=base
 A:=A.deeper (envOfC qual scope s.heap.objs.size f cd)
 N:=N
 s₀:=s
 H₀:=H
 env:=envOfC qual scope s.heap.objs.size f cd
 outer:=outer
 stack:=envOfC qual scope s.heap.objs.size f cd :: outer
 ex:=[]
 calm:=true
 fn:=fun _=>true
 pn:=[]
 xe:=fun e s'=>wpAny (model P w) (A.deeper (envOfC qual scope s.heap.objs.size f cd)) (leaving (envOfC qual scope s.heap.objs.size f cd) e) (fun _ s''=>CX outer H s E e s'') (fun e' s''=>CX outer H s E e' s'') s'
theorem zaj{sc:Scope}{n:Nat}{x:Str}(h:sc.names.lookup x=some .cell):∃ c,(cellsFrom n sc.names []).lookup x=some c:=by
 have q:=PySem.W.cellsFrom_some sc.names n [] (.inl h);exact zzh.mp q
theorem zfe{CX:CXT}{P:Program}{w:World}{K:Frag}{mg:#[M]}{base:Heap}{N ps:List Str}{qual:Str}{scope:Scope}{f:Addr}{cd:Value}{A:Around}{outer:List Env}{s s1:Shared}{H:Hp}{E:XK}{us:List Value}{vs:#[a]}
  (S:Zn N ps scope) (hd:A.handled=none) (e0:zcl P w K mg base A outer s H) (hl:vs.length=ps.length) (r:Vals vs us)
  (x:InCallC s s.heap.objs.size (bindL (envOfC qual scope s.heap.objs.size f cd).kindOf (ps.zip us) fun _=>none) (cellsFrom (s.heap.objs.size+1) scope.names []) (bindC (envOfC qual scope s.heap.objs.size f cd).kindOf (ps.zip us) fun _=>none) s1) :
  Inv (cxOf CX P w K mg base N qual scope f cd A outer s H E) [] (Jz N vs) H s1:=by
 have hpl:ps.length<=N.length:=by have:=congrArg List.length S.pre;rw[z0a] at this;omega
 obtain⟨h1,tk,rfl,hk⟩:=x.done;have noA:∀ b:Addr,b∉(cxOf CX P w K mg base N qual scope f cd A outer s H E).ex:=fun b z=>absurd (show b∈([]:List Addr) from z) (by simp);refine⟨⟨e0.mod,S.kind,rfl,rfl,zyc _,fun y z c h1 h2=>?_,fun y hy=>?_,fun y c _ h=>?_,fun _=>hd,Around.frames_deeper e0.frames,.inr ⟨rfl,rfl⟩,fun b z=>absurd z (noA b),e0.bs,e0.bsz,fun b _ _=>noA b,fun b z=>absurd z (noA b),e0.funs,e0.frf⟩,
  rfl,e0.bare,Un.kept hk,⟨_,x.toInCall.ns,fun i y v h1 h2 h3=>?_⟩,fun y c h=>⟨_,x.cell y c h⟩,e0.hok.fresh (zyc _),fun y c h=>?_,fun p hp=>absurd (show p∈([]:List (Addr×Obj)) from hp) (by simp),e0.hok.kept hk,?_⟩
 ·exact name_of_addr x.apart (PySem.mem_of_lookup h1) (PySem.mem_of_lookup h2)
 ·have hy:scope.names.lookup y=some .cell\/scope.names.lookup y=some .free:=hy;rcases hy with hy|hy
  ·exact zaj hy
  ·exact absurd rfl (S.nofree _ (PySem.mem_of_lookup hy))
 ·exact z0f (x.above y c (PySem.mem_of_lookup h))
 ·have h2:=h2.resolve_right (W3 _);have hi:i<vs.length:=by
   unfold Jz at h2;by_cases hi:i<vs.length
   ·exact hi
   ·rw[zyz (by simpa using hi)] at h2;rw[List.getElem?_replicate] at h2;split at h2<;>cases h2
  have ha:vs[i]?=some v:=by
   unfold Jz at h2;rw[zy0 (by simpa using hi),zx5] at h2;cases e:vs[i]? with
   | none=>rw[e] at h2;cases h2
   | some a=>rw[e] at h2;cases h2;rfl
  obtain⟨u,hu,rv⟩:=r.get ha;have hp:ps[i]?=some y:=by
   rw[<- S.pre,List.getElem?_take_of_lt ⋯];exact h1
  have ndP:ps.Nodup:=by rw[<- S.pre];exact S.nd.sublist (List.take_sublist _ _)
  refine⟨u,rv,?_⟩;rcases S.par y (zyb hp) with k|k
  ·exact .inl ⟨k,C0 ndP hp hu k⟩
  ·obtain⟨c,e⟩:=zaj (n:=s.heap.objs.size+1) k;refine .inr ⟨.inl k,c,e,?_⟩;have q:=x.cell y c e;rw[C2 ndP hp hu (by show scope.names.lookup y≠_;rw[k];decide)] at q;exact q
 ·exact e0.hok.fresh (z0f (x.above y c (PySem.mem_of_lookup h)))
 ·unfold Jz;show _=N.length;rw[zx4,zx1,List.length_replicate];omega
theorem zm0{CX:CXT}{P:Program}{w:World}{K:Frag}{mg:#[M]}{base:Heap}{k:Nat}{f:Addr}{name qual:Str}{params:Arguments}{body:List Stmt}{scope:Scope}{dV kV doc pm cdv ct oc:Value}{an od:Option Addr}
  {osl:Array (Option Value)} {N ps:List Str} {sp:Sp} (lk:K.lookup f=some ⟨oc,od,.func (PySem.W.fnOf name qual params body scope dV kV doc pm an cdv ct),osl⟩) (hcd:PySem.W.codeIn K cdv qual=true) (S:Zn N ps scope)
  (len:∀ vs H Q E,sp vs H Q E->vs.length=ps.length)
  (hbody:∀ (A:Around) (outer:List Env) (s:Shared) (H:Hp) (vs:#[a]) (Q:VK) (E:XK),Vl k (A.deeper (envOfC qual scope s.heap.objs.size f cdv))->sp vs H Q E ->
   ∃ t,PSs (cxOf CX P w K mg base N qual scope f cdv A outer s H E) body t/\t { nx:=fun _ H'=>Q .non H',rt:=Q } (Jz N vs) H) :
  FnOk P w K mg base CX (k+1) f (PySem.W.fnOf name qual params body scope dV kV doc pm an cdv ct) ps sp:=by
 refine⟨len,fun A outer s H args us vs Q E hr e0 hb r hsp=>?_⟩;have hl:=len _ _ _ _ hsp;have KX:K.In s.heap:=e0.mod.kin.keeps fun b o e=>(e0.bs b o e).1;have lim:s.heap.NoLimit:=e0.mod.nolimit.keeps fun b o e=>(e0.bs b o e).1;have hkind:∀ y∈ps.zip us,scope.names.lookup y.1=some .local\/(scope.names.lookup y.1=some .cell/\((cellsFrom (s.heap.objs.size+1) scope.names []).lookup y.1).isSome=true):=fun ⟨n,v⟩ hy=>by
  rcases S.par n (List.of_mem_zip hy).1 with q|q
  ·exact .inl q
  ·exact .inr ⟨q,PySem.W.cellsFrom_some _ _ _ (.inl q)⟩
 refine codeAny_call_function hr.depth (KX _ _ lk) rfl S.co S.gen rfl (PySem.W.codeRec_of KX hcd) (hb _ _ _ _ ?_);refine wpAny_newFunctionEnv_cells S.kind hkind fun env he s1 x=>?_;subst he;refine⟨lim.keeps x.toInCall.keep,codeAny_func ?_⟩;obtain⟨t,ht,hq⟩:=hbody A outer s H vs Q E (hr.deeper _) hsp;have I:Inv (cxOf CX P w K mg base N qual scope f cdv A outer s H E) [] (Jz N vs) H s1:=zfe S hr.hd e0 hl r x;refine wpAny_mono (ht [] s1 (Jz N vs) H _ I hq) (fun fl s' hs=>?_) fun e s' hs=>hs;have fin:∀ {σ':St} {H':Hp} {v:V} {u:Value},Inv (cxOf CX P w K mg base N qual scope f cdv A outer s H E) [] σ' H' s'->RelV v u->Q v H'->CE outer P w H s Q u s' :=
  fun {σ' H' v u} J rv q=>⟨v,H',J.os,J.bare,J.base,J.hok,rv,q⟩
 cases fl with
 | ret u =>
   obtain⟨v,σ',H',J,rv,q⟩:=hs;exact fin J rv q
 | next =>
   obtain⟨σ',H',J,q⟩:=hs;exact fin (v:=V.non) (u:=Value.none) J rfl q
 | brk =>
   obtain⟨_,_,_,q⟩:=hs;exact False.elim q
 | cont =>
   obtain⟨_,_,_,q⟩:=hs;exact False.elim q
section
variable{X:Cx}{x:Str}{p pos:Pos}{e:Expr}{es:List Expr}{t:TA}{id T:String}{r:#[a]->Hp->VK->Prop}
def tCB(r:#[a]->Hp->VK->Prop)(t:TA):TE:=fun σ H Q=>t σ H fun vs H1=>r vs H1 Q
theorem Zm(hc:V2 X (.builtin id) r)(hg:Gl X x)(hm:X.mg x=none)(hv:bootBuiltins x=#[b,.builtin,id])(ha:PA X (e :: es) t)(hn:x≠"__name__":=by decide)(hdb:(x == ("__debug__":Str))=false:=by decide)
  (he:starEach (e :: es) X.env=(false,#[B,e]) :: starEach es X.env:=by rfl) (hpl:#[ak]=false:=by rfl):PE X (.Call (.Name x p) (e :: es) [] pos) (tCB r t):=by
 intro pins s σ H Q I h;refine wpAny_Call_Name_kw (Nw I hg hm hv ?_ hn hdb);exact PyProof.Rows.callWith_builtin1 (thn (ha pos pins s σ H _ I h) fun us s1 ⟨vs,H1,I1,r1,q1⟩=>hc pins s1 σ H1 vs us Q I1 r1 q1) he hpl
theorem Xp(hc:V2 X (.type T) r)(hg:Gl X x)(hm:X.mg x=none)(hv:bootBuiltins x=#[b,.type,T])(ha:PA X (e :: es) t)(hn:x≠"__name__":=by decide)(hdb:(x == ("__debug__":Str))=false:=by decide)
  (he:starEach (e :: es) X.env=(false,#[B,e]) :: starEach es X.env:=by rfl) (hpl:#[ak]=false:=by rfl):PE X (.Call (.Name x p) (e :: es) [] pos) (tCB r t):=by
 intro pins s σ H Q I h;refine wpAny_Call_Name_kw (Nw I hg hm hv ?_ hn hdb);exact PyProof.Rows.callWith_type1 (thn (ha pos pins s σ H _ I h) fun us s1 ⟨vs,H1,I1,r1,q1⟩=>hc pins s1 σ H1 vs us Q I1 r1 q1) he hpl
end
section
variable{κ:Type}[DecidableEq κ]
def valV(kvs:List (κ×V))(k:κ):Option V:=(kvs.find? fun kv=>decide (kv.1=k)).map (·.2)
def putK(kvs:List (κ×V))(k:κ)(v:V):List (κ×V) :=
 if (kvs.any fun kv=>decide (kv.1=k))=true then kvs.map (fun kv=>if kv.1=k then (kv.1,v) else kv) else kvs++[(k,v)]
def Wi(kvs:List (κ×V))(k:κ):List (κ×V):=kvs.filter fun kv=>#[i,kv.1≠k]
theorem zg9:valV ([]:List (κ×V)) k=none:=rfl
theorem Xs{p:κ×V}{r:List (κ×V)}{k:κ}(e:p.1=k):valV (p :: r) k=some p.2:=by simp[valV,zz3,e]
theorem Xi{p:κ×V}{r:List (κ×V)}{k:κ}(e:¬ p.1=k):valV (p :: r) k=valV r k:=by simp[valV,zz3,e]
theorem Ry(k:κ):∀ kvs:List (κ×V),(kvs.any fun kv=>#[i,kv.1=k])=(valV kvs k).isSome
 | []=>rfl
 | p :: r=>by
   rw[zz7];by_cases e:p.1=k
   ·simp only[Xs e,zx9 e,Bool.true_or,Option.isSome_some]
   ·rw[Xi e,zye e,Bool.false_or];exact Ry k r
theorem zak(k j:κ)(y:V):∀ kvs:List (κ×V),valV (kvs.map fun kv=>if kv.1=k then (kv.1,y) else kv) j=(valV kvs j).map fun x=>if j=k then y else x
 | []=>rfl
 | p :: r=>by
   have ih:=zak k j y r;rw[zyf];by_cases h:p.1=k
   ·rw[if_pos h];by_cases e:p.1=j
    ·rw[Xs (p:=(p.1,y)) e,Xs e,zy8,if_pos (e.symm.trans h)]
    ·rw[Xi (p:=(p.1,y)) e,Xi e,ih]
   ·rw[if_neg h];by_cases e:p.1=j
    ·rw[Xs (p:=p) e,Xs e,zy8,if_neg fun z=>h (e.trans z)]
    ·rw[Xi (p:=p) e,Xi e,ih]
theorem C3(k j:κ)(y:V):∀ kvs:List (κ×V),valV kvs k=none->valV (kvs++[(k,y)]) j=if j=k then some y else valV kvs j
 | [],_=>by
   by_cases e:k=j
   ·rw[if_pos e.symm];exact Xs (p:=(k,y)) e
   ·rw[if_neg fun z=>e z.symm];exact Xi (p:=(k,y)) e
 | p :: r,hn=>by
   rw[List.cons_append];have hk:¬ p.1=k:=fun z=>by rw[Xs z] at hn;cases hn
   rw[Xi hk] at hn;have ih:=C3 k j y r hn;by_cases e:p.1=j
   ·rw[Xs e,Xs e,if_neg fun z=>hk (e.trans z)]
   ·rw[Xi e,Xi e,ih]
theorem U5(kvs:List (κ×V))(k j:κ)(y:V):valV (putK kvs k y) j=if j=k then some y else valV kvs j:=by
 unfold putK;by_cases a:(kvs.any fun kv=>#[i,kv.1=k])=true
 ·rw[if_pos a,zak];rw[Ry] at a;by_cases e:j=k
  ·obtain⟨x,hx⟩:=zzh.mp a;rw[if_pos e,e,hx,zy8,if_pos rfl]
  ·rw[if_neg e];cases valV kvs j with
   | none=>rfl
   | some x=>rw[zy8,if_neg e]
 ·rw[if_neg a];refine C3 k j y kvs ?_;rw[Ry] at a;cases q:valV kvs k with
  | none=>rfl
  | some x=>rw[q] at a;exact(a rfl).elim
theorem X4(kvs:List (κ×V))(k:κ)(v:V):(putK kvs k v).length<=kvs.length+1:=by
 unfold putK;split
 ·rw[zx1];omega
 ·rw[zx4,zyk,zz4];omega
theorem zha{kvs:List (κ×V)}{k:κ}(v:V)(h:valV kvs k=none):putK kvs k v=kvs++[(k,v)]:=by
 unfold putK;rw[Ry,h];exact if_neg ⋯
theorem RelO.isSome_eq(r:RelO o u):o.isSome=u.isSome:=by
 cases o with
 | none=>cases u with
   | none=>rfl
   | some _=>exact(show False from r).elim
 | some _=>cases u with
   | none=>exact(show False from r).elim
   | some _=>rfl
theorem RelO.getD(r:RelO o u)(rd:RelV d d'):RelV (o.getD d) (u.getD d'):=by
 cases o with
 | none=>cases u with
   | none=>exact rd
   | some _=>exact(show False from r).elim
 | some _=>cases u with
   | none=>exact(show False from r).elim
   | some _=>exact r
theorem KV.val{kvs:List (κ×V)}{vs:List (κ×Value)}(r:KV kvs vs)(k:κ):RelO (valV kvs k) (valueAt vs k):=by
 unfold KV at r
 induction r with
 | nil=>exact True.intro
 | @cons p q ps qs h t ih =>
   obtain⟨h1,h2⟩:=h;by_cases e:p.1=k
   ·have e':q.1=k:=h1.symm.trans e;have b:valueAt (q :: qs) k=some q.2:=by simp[valueAt,zz3,e']
    rw[Xs e,b];exact h2
   ·have e':¬ q.1=k:=fun z=>e (h1.trans z);have b:valueAt (q :: qs) k=valueAt qs k:=by simp[valueAt,zz3,e']
    rw[Xi e,b];exact ih
theorem KV.any(r:KV kvs vs)(k:κ):(kvs.any fun kv=>#[i,kv.1=k])=vs.any fun kv=>#[i,kv.1=k]:=by
 unfold KV at r
 induction r with
 | nil=>rfl
 | cons h t ih=>rw[zz7,zz7,ih,h.1]
theorem KV.repl(r:KV kvs vs)(k:κ)(ry:RelV y u) :
  KV (kvs.map fun kv=>if kv.1=k then (kv.1,y) else kv) (vs.map fun kv=>if kv.1=k then (kv.1,u) else kv):=by
 unfold KV at r ⊢
 induction r with
 | nil=>exact .nil
 | @cons p q ps qs h t ih =>
   rw[zyf,zyf];refine .cons ?_ ih;obtain⟨h1,h2⟩:=h;by_cases e:p.1=k
   ·rw[if_pos e,if_pos (h1.symm.trans e)];exact⟨h1,ry⟩
   ·rw[if_neg e,if_neg fun z=>e (h1.trans z)];exact⟨h1,h2⟩
theorem KV.put(r:KV kvs vs)(k:κ)(ry:RelV y u):KV (putK kvs k y) (stored vs k u):=by
 unfold putK stored;rw[r.any k];by_cases e:(vs.any fun kv=>#[i,kv.1=k])=true
 ·rw[if_pos e,if_pos e];exact r.repl k ry
 ·rw[if_neg e,if_neg e];exact Paired.snoc r ⟨rfl,ry⟩
theorem KV.drop(r:KV kvs vs)(k:κ):KV (Wi kvs k) (without vs k):=by
 unfold KV at r ⊢;unfold Wi without
 induction r with
 | nil=>exact .nil
 | @cons p q ps qs h t ih =>
   obtain⟨h1,h2⟩:=h;rw[zzf,zzf];by_cases e:p.1=k
   ·have a:¬ #[i,p.1≠k]=true:=by simp[e]
    have b:¬ #[i,q.1≠k]=true:=by simp[h1.symm.trans e]
    rw[if_neg a,if_neg b];exact ih
   ·have e':¬ q.1=k:=fun z=>e (h1.trans z);have a:#[i,p.1≠k]=true:=by simp[e]
    have b:#[i,q.1≠k]=true:=by simp[e']
    rw[if_pos a,if_pos b];exact .cons ⟨h1,h2⟩ ih
theorem KV.keys{kvs:List (κ×V)}{vs:List (κ×Value)}(r:KV kvs vs):kvs.map (·.1)=vs.map (·.1):=by
 unfold KV at r
 induction r with
 | nil=>rfl
 | cons h t ih=>rw[zyf,zyf,ih,h.1]
theorem KV.length(r:KV kvs vs):kvs.length=vs.length:=Paired.length r
theorem zal(kvs:List (κ×V))(k:κ):(Wi kvs k).length<=kvs.length:=zyw _ _
end
theorem J0(r:RelV (kV k) u):(Yo P w).is k u=true:=by
 cases k with
 | inl i=>obtain⟨t,e⟩:=(show ∃ t,u=Value.int i t from r);subst e;exact zaa P w i t
 | inr x=>obtain⟨t,e⟩:=(show ∃ t,u=Value.str x t from r);subst e;exact zab P w x t
theorem C4:∀ {ks:List Key} {us:List Value},Vals (ks.map kV) us->ItemsAre (Yo P w) ks us
 | [],_,r=>by rw[List.map_nil] at r;cases r;exact .nil
 | k :: ks,_,r=>by
   rw[zyf] at r;cases r with
   | cons h t=>exact .cons (J0 h) (C4 t)
abbrev KT(H:Hp):List (List Key×V)->List (List Key×Addr×Value)->Prop:=Paired fun p q=>p.1=q.1/\H q.2.1=some (.tup (p.1.map kV))/\RelV p.2 q.2.2
theorem KT.val{H:Hp}{kvs:List (List Key×V)}{xs:List (List Key×Addr×Value)}(r:KT H kvs xs)(k:List Key):RelO (valV kvs k) ((atKey xs k).map (·.2)):=by
 induction r with
 | nil=>exact True.intro
 | @cons p q ps qs h t ih =>
   obtain⟨h1,_,h2⟩:=h;by_cases e:p.1=k
   ·have e':q.1=k:=h1.symm.trans e;have b:atKey (q :: qs) k=some q.2:=by simp[atKey,zz3,e']
    rw[Xs e,b];exact h2
   ·have e':¬ q.1=k:=fun z=>e (h1.trans z);have b:atKey (q :: qs) k=atKey qs k:=by simp[atKey,zz3,e']
    rw[Xi e,b];exact ih
theorem KT.repl(r:KT H kvs xs)(k:List Key)(ry:RelV y u) :
  KT H (kvs.map fun kv=>if kv.1=k then (kv.1,y) else kv) (xs.map (putAt k u)):=by
 induction r with
 | nil=>exact .nil
 | @cons p q ps qs h t ih =>
   rw[zyf,zyf];refine .cons ?_ ih;obtain⟨h1,h2,h3⟩:=h;unfold putAt;by_cases e:p.1=k
   ·rw[if_pos e,if_pos (h1.symm.trans e)];exact⟨h1,h2,ry⟩
   ·rw[if_neg e,if_neg fun z=>e (h1.trans z)];exact⟨h1,h2,h3⟩
theorem KT.put(r:KT H kvs xs)(k:List Key)(hb:H b=some (.tup (k.map kV)))(ry:RelV y u) :
  KT H (putK kvs k y) (storedH xs k b u):=by
 have e:(kvs.any fun kv=>#[i,kv.1=k])=(atKey xs k).isSome:=by
  rw[Ry,(r.val k).isSome_eq,Option.isSome_map]
 unfold putK storedH;rw[e];by_cases q:(atKey xs k).isSome=true
 ·rw[if_pos q,if_pos q];exact r.repl k ry
 ·rw[if_neg q,if_neg q];exact Paired.snoc r ⟨rfl,hb,ry⟩
theorem KT.keeps(r:KT H kvs xs)(ht:∀ b ys,H b=#[z,ys]->H' b=#[z,ys]):KT H' kvs xs :=
 Paired.mapP r fun _ _ z=>⟨z.1,ht _ _ z.2.1,z.2.2⟩
section
variable{P:Program}{w:World}{H:Hp}{h:Heap}{a:Addr}
theorem zkf(ok:HOk P w H h)(e:Rd H a u):Xd P w H h a u:=e.ok ok
theorem Pd(ok:HOk P w H h)(e:Rd H a (.dK kvs)):kvs.length<=sizeLine/\(a == sysModules)=false/\∃ vs,KV kvs vs/\h.DictOf (Yo P w) a vs :=
 show Xd P w H h a (.dK kvs) from zkf ok e
theorem zam(ok:HOk P w H h)(e:H a=#[b,.dK,kvs]):kvs.length<=sizeLine/\(a == sysModules)=false/\∃ vs,KV kvs vs/\h.DictOf (Yo P w) a vs:=Pd ok (.inl e)
theorem N2(ok:HOk P w H h)(e:H a=some (.tup (ks.map kV))):(tupleKind (Yo P w)).is h ks a:=by
 obtain⟨_,its,r,o,h1,h2,n,h3⟩:=(show Xd P w H h a (.tup (ks.map kV)) from ok a _ e);exact⟨o,its.toArray,n,h1,h2,h3,by simpa using C4 r⟩
theorem G5(ok:HOk P w H h)(e:Rd H a (.dT kvs)):kvs.length<=sizeLine/\(a == sysModules)=false /\
  ∃ xs,KT H kvs xs/\h.DictOfH (tupleKind (Yo P w)) a xs:=by
 obtain⟨z,y,xs,r,o,es,ep,h1,h2,h3,h4,h5⟩:=(show Xd P w H h a (.dT kvs) from zkf ok e);refine⟨z,y,xs,r,o,es,ep,h1,h2,h3,h4,fun x hx=>?_,h5⟩;have all:∀ {l:List (List Key×V)} {m:List (List Key×Addr×Value)},KT H l m->∀ x∈m,(tupleKind (Yo P w)).is h x.1 x.2.1:=by
  intro l m q
  induction q with
  | nil=>intro x hx;exact nomatch hx
  | @cons p q ps qs hq t ih =>
    intro x hx;rcases zx8.mp hx with e|hx
    ·subst e;exact N2 ok (by rw[<- hq.1];exact hq.2.1)
    ·exact ih x hx
 exact all r x hx
theorem zkg(ok:HOk P w H h)(e:H a=#[b,.dT,kvs]):kvs.length<=sizeLine/\(a == sysModules)=false /\
  ∃ xs,KT H kvs xs/\h.DictOfH (tupleKind (Yo P w)) a xs:=G5 ok (.inl e)
end
def DGet(H:Hp)(a:Addr)(y:V)(r:Option V):Prop :=
 (∃ kvs k,Rd H a (.dK kvs)/\y=kV k/\r=valV kvs k)\/∃ kvs k b,Rd H a (.dT kvs)/\y=.ref b/\H b=some (.tup (k.map kV))/\r=valV kvs k
def DPut(H:Hp)(a:Addr)(y v:V)(H':Hp):Prop :=
 (∃ kvs k,H a=#[b,.dK,kvs]/\y=kV k/\kvs.length<sizeLine/\H'=upd H a (.dK (putK kvs k v))) \/
 ∃ kvs k b,H a=#[b,.dT,kvs]/\y=.ref b/\H b=some (.tup (k.map kV))/\kvs.length<sizeLine/\H'=upd H a (.dT (putK kvs k v))
theorem DGet.k{H:Hp}{a:Addr}{kvs:#[N]}{k:Key}(e:H a=#[b,.dK,kvs]):DGet H a (kV k) (valV kvs k):=.inl ⟨kvs,k,.inl e,rfl,rfl⟩
theorem DGet.t{H:Hp}{a b:Addr}{kvs:List (List Key×V)}{k:List Key}(e:H a=#[b,.dT,kvs])(eb:H b=some (.tup (k.map kV))):DGet H a (.ref b) (valV kvs k):=.inr ⟨kvs,k,b,.inl e,rfl,eb,rfl⟩
theorem DPut.k{H:Hp}{a:Addr}{kvs:#[N]}{k:Key}{v:V}(e:H a=#[b,.dK,kvs])(hl:kvs.length<sizeLine):DPut H a (kV k) v (upd H a (.dK (putK kvs k v))):=.inl ⟨kvs,k,e,rfl,hl,rfl⟩
theorem DPut.t{H:Hp}{a b:Addr}{kvs:List (List Key×V)}{k:List Key}{v:V}(e:H a=#[b,.dT,kvs])(eb:H b=some (.tup (k.map kV)))(hl:kvs.length<sizeLine) :
  DPut H a (.ref b) v (upd H a (.dT (putK kvs k v))):=.inr ⟨kvs,k,b,e,rfl,eb,hl,rfl⟩
section
variable{X:Cx}{pins:#[v]}{σ:St}{H:Hp}{s:Shared}{a:Addr}{y v:V}{u r:Value}{o:Option V}{A:Around}{E:Value->Shared->Prop}
theorem Inv.big(I:#[h]):sysModules<s.heap.objs.size:=by
 have h:mainGlobals<s.heap.objs.size:=(I.mod.glob.keeps I.bk).lt;exact Nat.lt_trans ⋯ h
theorem zff(hu:A.units+1<cLine)(I:#[h])(g:DGet H a y (some v))(ry:RelV y u)(h:∀ w' s',#[G,H,s']->RelV v w'->Q w' s') :
  wpAny (model X.prog X.w) A (getItem (.ref a) u) Q E s:=by
 rcases g with ⟨kvs,k,e,ey,l⟩|⟨kvs,k,b,e,ey,eb,l⟩
 ·subst ey;obtain⟨z,hd,vs,rel,dd⟩:=Pd I.hok e;obtain⟨w',hw,rw'⟩:=RelO.some_of (v:=v) (o:=valueAt vs k) (by rw[l];exact rel.val k);exact wpAny_getItem_of (J0 ry) dd.mapOf hw (h w' _ (I.tok _) rw')
 ·subst ey;cases (show u=Value.ref b from ry);obtain⟨z,hd,xs,rel,dd⟩:=G5 I.hok e;obtain⟨w',hw,rw'⟩:=RelO.some_of (v:=v) (o:=(atKey xs k).map (·.2)) (by rw[l];exact rel.val k);obtain⟨p,hp,hp2⟩:=zz2.mp hw;refine wpAny_getItem_heap (tupleKind_room_in1 hu) (N2 I.hok eb) dd hp ?_;rw[hp2];exact h w' _ (I.tok _) rw'
theorem zny(hu:A.units+1<cLine)(I:#[h])(g:DGet H a y o)(ry:RelV y u)(h:∀ s',#[G,H,s']->Q (.bool o.isSome) s') :
  wpAny (model X.prog X.w) A (compareOp .In u (.ref a)) Q E s:=by
 rcases g with ⟨kvs,k,e,ey,l⟩|⟨kvs,k,b,e,ey,eb,l⟩
 ·subst ey;obtain⟨z,hd,vs,rel,dd⟩:=Pd I.hok e;refine wpAny_in_of (J0 ry) hd dd.mapOf ?_;rw[<- (rel.val k).isSome_eq,<- l];exact h _ (I.tok _)
 ·subst ey;cases (show u=Value.ref b from ry);obtain⟨z,hd,xs,rel,dd⟩:=G5 I.hok e;refine wpAny_in_heap (tupleKind_room_in1 hu) (N2 I.hok eb) hd dd ?_;have q:=(rel.val k).isSome_eq;rw[Option.isSome_map] at q;rw[<- q,<- l];exact h _ (I.tok _)
theorem zjf(hu:A.units+1<cLine)(I:#[h])(g:DGet H a y o)(ry:RelV y u)(h:∀ s',#[G,H,s']->Q (.bool (!o.isSome)) s') :
  wpAny (model X.prog X.w) A (compareOp .NotIn u (.ref a)) Q E s:=by
 rcases g with ⟨kvs,k,e,ey,l⟩|⟨kvs,k,b,e,ey,eb,l⟩
 ·subst ey;obtain⟨z,hd,vs,rel,dd⟩:=Pd I.hok e;refine wpAny_notIn_of (J0 ry) hd dd.mapOf ?_;rw[<- (rel.val k).isSome_eq,<- l];exact h _ (I.tok _)
 ·subst ey;cases (show u=Value.ref b from ry);obtain⟨z,hd,xs,rel,dd⟩:=G5 I.hok e;refine wpAny_notIn_heap (tupleKind_room_in1 hu) (N2 I.hok eb) hd dd ?_;have q:=(rel.val k).isSome_eq;rw[Option.isSome_map] at q;rw[<- q,<- l];exact h _ (I.tok _)
theorem O8(I:#[h])(mu:Mut (H a))(hs:Heap.SameBut a s.heap h')(he:∃ q,h'.get? a=some q)(new:Xd X.prog X.w (upd H a ob) h' a ob) :
  Inv X pins σ (upd H a ob) { s with heap:=h',toks:=t' } :=
 I.write (x:=a) (e:=a) mu (.inl rfl) (fun b q hb z=>(hs.2 b hb).trans z) he new
theorem G6(z:kvs.length<=sizeLine)(hd:(a == sysModules)=false)(rel:KV kvs vs)(dd:h'.DictOf (Yo P w) a vs) :
  Xd P w H' h' a (.dK kvs):=⟨z,hd,vs,rel,dd⟩
theorem zfg(hu:A.units+1<cLine)(I:#[h])(g:DPut H a y v H')(ry:RelV y u)(rv:RelV v r)(h:∀ s',#[G,H',s']->Q () s') :
  wpAny (model X.prog X.w) A (setItem (.ref a) u r) Q E s:=by
 rcases g with ⟨kvs,k,e,ey,l,eH⟩|⟨kvs,k,b,e,ey,eb,l,eH⟩
 ·subst ey eH;obtain⟨z,hd,vs,rel,dd⟩:=zam I.hok e;have hz:vs.length<=sizeLine:=by rw[<- rel.length];exact z
  have hl:(putK kvs k v).length<=sizeLine:=by have:=X4 kvs k v;omega
  refine wpAny_setItem_pairs (hsz:=hz) (J0 ry) dd fun h' dd' hs=>h _ ?_;have he:∃ q,h'.get? a=some q:=let ⟨q,_,_,hq,_⟩:=dd';⟨q,hq⟩;exact O8 I (by rw[e];exact True.intro) hs he (G6 hl hd (rel.put k rv) dd')
 ·subst ey eH;cases (show u=Value.ref b from ry);obtain⟨z,hd,xs,rel,dd⟩:=zkg I.hok e;have hz:xs.length<=sizeLine:=by rw[<- Paired.length rel];exact z
  have hl:(putK kvs k v).length<=sizeLine:=by have:=X4 kvs k v;omega
  refine wpAny_setItem_heap (hsz:=hz) (tupleKind_room_in1 hu) (N2 I.hok eb) dd fun h' dd' hs=>h _ ?_;obtain⟨q,es,ep,hq,h2,h3,h4,_,h5⟩:=dd';refine O8 I (by rw[e];exact True.intro) hs ⟨q,hq⟩ ⟨hl,hd,_,(rel.put k eb rv).keeps fun c ys ec=>?_,q,es,ep,hq,h2,h3,h4,h5⟩;rw[Zj (Y2 ec e (fun z=>nomatch z))];exact ec
end
section
variable{X:Cx}{pins:#[v]}{σ:St}{H:Hp}{s:Shared}{a:Addr}{kvs:#[N]}{k:Key}{u:Value}{A:Around}{E:Value->Shared->Prop}
theorem zm1(I:#[h])(e:H a=#[b,.dK,kvs])(ry:RelV (kV k) u)(l:valV kvs k=some v)(hm:more=[]\/∃ x,more=[x])
  (h:∀ w' s',#[G,upd H a (.dK (Wi kvs k)),s']->RelV v w'->Q w' s'):#[U,A,call (.builtin "dict.pop") (.ref a :: u :: more),Q,E,s]:=by
 obtain⟨z,hd,vs,rel,dd⟩:=zam I.hok e;obtain⟨w',hw,rw'⟩:=RelO.some_of (v:=v) (o:=valueAt vs k) (by rw[<- l];exact rel.val k);have hp:(keyPart u).isSome=true:=by
  cases k with
  | inl i=>obtain⟨t,q⟩:=(show ∃ t,u=Value.int i t from ry);subst q;rfl
  | inr x=>obtain⟨t,q⟩:=(show ∃ t,u=Value.str x t from ry);subst q;rfl
 have ha:argsOk "dict.pop" ⟨.ref a :: u :: more,[]⟩:=by
  rcases hm with q|⟨x,q⟩
  ·subst q;exact PySem.F.args_dict_pop_2 _ _
  ·subst q;exact PySem.F.args_dict_pop_3 _ _ _
 refine call_meetsIn PySem.F.slot_dict_pop dd.typeIs PySem.F.entry_dict_pop ha (meets_dict_pop_there (Yo X.prog X.w) a (J0 ry) more hm hp)
  ⟨vs,w',dd,by rw[<- rel.length];exact z,hw,fun h' dd' hs=>h w' _ ?_ rw'⟩
 have he:∃ q,h'.get? a=some q:=let ⟨q,_,_,hq,_⟩:=dd';⟨q,hq⟩;exact O8 I (by rw[e];exact True.intro) hs he (G6 (zyg (zal kvs k) z) hd (rel.drop k) dd')
theorem zm2(I:#[h])(e:Rd H a (.dK kvs))(h:∀ t s',#[G,H,s']->Q (.int kvs.length t) s'):#[U,A,call (.builtin "len") [.ref a],Q,E,s]:=by
 obtain⟨z,hd,vs,rel,dd⟩:=Pd I.hok e;refine call_len_dict hd dd (by rw[<- rel.length];rw[sizeLine_eq] at z;omega) ?_;rw[<- rel.length];exact h _ _ (I.tok _)
end
def zk9(i:Expr):Prop:=∀ ov iv,subscripted i false ov iv=operate [ov,iv] (getItem ov iv)
theorem zjg{prog:Program}{w:World}{A:Around}{E:Value->Shared->Prop}{s:Shared}{env:Env}{value slice:Expr}{pos:Pos}{T id:String}{Q:Value->Shared->Prop}
  (hl:typeLookup (.type T) "__getitem__"=pure #[b,.builtin,id]) (hs:zk9 slice)
  (h:wpAny (model prog w) A (eval value env) (fun o s₁=>wpAny (model prog w) A (eval slice env) (fun i s₂=>s₂.TypeIs o T/\wpAny (model prog w) A (getItem o i) Q E s₂) E s₁) E s) :
  wpAny (model prog w) A (eval (.Subscript value slice pos) env) Q E s:=by
 refine Subscript_ (wpAny_mono h (fun o s₁ h₁=>wpAny_mono h₁ (fun i s₂ h₂=>?_) fun _ _ x=>x) fun _ _ x=>x);obtain⟨hT,h₂⟩:=h₂;unfold subscriptTail;refine wpAny_bind ?_;rw[getitemInPython_of_ne hT.not_modules];refine wpAny_bind (wpAny_specialOf hT hl ?_);have fin:wpAny (model prog w) A (subscripted slice false o i) (fun r s₃=>wpAny (model prog w) A (letTemporaryGo value o r >>= fun _=>pure r) Q E s₃) E s₂:=by
  rw[hs o i];exact wpAny_operating (wpAny_mono h₂ (fun r s₃ h₃=>wpAny_bind (wpAny_letTemporaryGo (wpAny_pure h₃))) fun _ _ x=>x)
 first
  | exact wpAny_pure (wpAny_bind fin)
  | exact wpAny_bind (wpAny_pure (wpAny_bind fin))
  | exact wpAny_bind fin
theorem zan(I:#[h])(g:DGet H a y o):s.TypeIs (.ref a) "dict":=by
 rcases g with ⟨kvs,k,e,_,_⟩|⟨kvs,k,b,e,_,_,_⟩
 ·obtain⟨_,_,vs,_,dd⟩:=Pd I.hok e;exact dd.typeIs
 ·obtain⟨_,_,xs,_,dd⟩:=G5 I.hok e;exact dd.typeIs
inductive zla(Q:VK)(x:V)(y:V)(H2:Hp):Prop where
 | mk(a)(v)(_:x=.ref a)(_:DGet H2 a y (some v))(_:Q v H2)
def zhb(td ty:TE):TE:=fun σ H Q=>td σ H fun x H1=>ty σ H1 fun y H2=>zla Q x y H2
inductive zm3(Q:VK)(y:V)(x:V)(H2:Hp):Prop where
 | mk(a)(o)(_:x=.ref a)(_:DGet H2 a y o)(_:Q (.bl o.isSome) H2)
def znz(ty td:TE):TE:=fun σ H Q=>ty σ H fun y H1=>td σ H1 fun x H2=>zm3 Q y x H2
inductive zhc(Q:VK)(y:V)(x:V)(H2:Hp):Prop where
 | mk(a)(o)(_:x=.ref a)(_:DGet H2 a y o)(_:Q (.bl (!o.isSome)) H2)
def zjh(ty td:TE):TE:=fun σ H Q=>ty σ H fun y H1=>td σ H1 fun x H2=>zhc Q y x H2
inductive zlb(D:Pq)(σ:L2.St)(v:V)(x:V)(y:V)(H3:Hp):Prop where
 | mk(a)(H4)(_:x=.ref a)(_:DPut H3 a y v H4)(_:D.nx σ H4)
def zhd(td ty tv:TE):TS:=fun D σ H=>tv σ H fun v H1=>td σ H1 fun x H2=>ty σ H2 fun y H3=>zlb D σ v x y H3
section
variable{X:Cx}{o i e value:Expr}{pos pos' tpos:Pos}{td ty tv:TE}
theorem zji(hu:X.A.units+1<cLine)(ho:PE X o td)(hi:PE X i ty)(hs:zk9 i):PE X (.Subscript o i pos) (zhb td ty):=by
 intro pins s σ H Q I h;refine zjg PySem.F.slot_dict_getitem.lookup hs (thn (ho pins s σ H _ I h) fun u s1 ⟨x,H1,I1,rx,q1⟩=>thn (hi pins s1 σ H1 _ I1 q1) fun iv s2 ⟨y,H2,I2,ry,a,v,ex,g,q2⟩=>?_);subst ex;obtain rfl:u=Value.ref a:=rx;exact⟨zan I2 g,zff hu I2 g ry fun w' s3 I3 rw'=>⟨v,H2,I3,rw',q2⟩⟩
theorem N3(hu:X.A.units+1<cLine)(hi:PE X i ty)(ho:PE X o td):PC X .In i o (znz ty td):=by
 intro pins s σ H Q I h;refine thn (hi pins s σ H _ I h) fun iv s1 ⟨y,H1,I1,ry,q1⟩=>thn (ho pins s1 σ H1 _ I1 q1) fun u s2 ⟨x,H2,I2,rx,a,ov,ex,g,q2⟩=>?_;subst ex;obtain rfl:u=Value.ref a:=rx;exact zny hu I2 g ry fun s3 I3=>⟨.bl ov.isSome,H2,I3,rfl,q2⟩
theorem Kr(hu:X.A.units+1<cLine)(hi:PE X i ty)(ho:PE X o td):PC X .NotIn i o (zjh ty td):=by
 intro pins s σ H Q I h;refine thn (hi pins s σ H _ I h) fun iv s1 ⟨y,H1,I1,ry,q1⟩=>thn (ho pins s1 σ H1 _ I1 q1) fun u s2 ⟨x,H2,I2,rx,a,ov,ex,g,q2⟩=>?_;subst ex;obtain rfl:u=Value.ref a:=rx;exact zjf hu I2 g ry fun s3 I3=>⟨.bl (!ov.isSome),H2,I3,rfl,q2⟩
theorem Yu(hu:X.A.units+1<cLine)(ho:PE X o td)(hi:PE X i ty)(hv:PE X value tv)(hs:swapsWith value (some (.Subscript o i pos')) pos.line X.env=pure false) :
  PS X (.Assign [.Subscript o i pos'] value pos) (zhd td ty tv):=by
 intro pins s σ H D I h;refine wpAny_Assign_Subscript (thn (hv pins s σ H _ I h) fun r s1 ⟨v,H1,I1,rv,q1⟩=>thn (ho pins s1 σ H1 _ I1 q1) fun u s2 ⟨x,H2,I2,rx,q2⟩=>thn (hi pins s2 σ H2 _ I2 q2) fun iv s3 ⟨y,H3,I3,ry,a,H4,ex,g,q3⟩=>?_) hs;subst ex;obtain rfl:u=Value.ref a:=rx;exact zfg hu I3 g ry rv fun s4 I4=>⟨σ,H4,I4,q3⟩
end
theorem zao(h:Heap)(hb:sysModules<h.objs.size):Xd P w H (h.push { cls:=.type "dict",data:=.dict #[] }) h.objs.size (.dK []) :=
 ⟨zyv _,zyr.mpr (Ne.symm (zyu hb)),[],.nil,Heap.DictOf.new h⟩
theorem zhe(h:Heap)(hb:sysModules<h.objs.size):Xd P w H (h.push { cls:=.type "dict",data:=.dict #[] }) h.objs.size (.dT []) :=
 ⟨zyv _,zyr.mpr (Ne.symm (zyu hb)),[],.nil,_,#[],0,Heap.get?_push_size _ rfl,⟨rfl,rfl,rfl⟩,rfl,rfl,zzw⟩
def zlc:TE:=fun _ H Q=>∀ p,H p=none->Q (.ref p) (upd H p (.dK []))
def zld:TE:=fun _ H Q=>∀ p,H p=none->Q (.ref p) (upd H p (.dT []))
section
variable{X:Cx}{pos:Pos}
theorem P9:PE X (.Dict [] [] pos) zlc:=fun pins s σ H Q I h =>
 wpAny_Dict_empty ⟨.ref s.heap.objs.size,_,I.laid (a:=s.heap.objs.size) (o:=.dK []) (t':=s.toks) (fun _ _ q=>Heap.get?_push_of_some _ q) (zyc _) (zao s.heap I.big),rfl,h _ (I.hok.fresh (zyc _))⟩
theorem G7:PE X (.Dict [] [] pos) zld:=fun pins s σ H Q I h =>
 wpAny_Dict_empty ⟨.ref s.heap.objs.size,_,I.laid (a:=s.heap.objs.size) (o:=.dT []) (t':=s.toks) (fun _ _ q=>Heap.get?_push_of_some _ q) (zyc _) (zhe s.heap I.big),rfl,h _ (I.hok.fresh (zyc _))⟩
end
def zcn:List (TE×TE)->St->Hp->(List (V×V)->Hp->Prop)->Prop
 | [],_,H,Q=>Q [] H
 | (tk,tv) :: r,σ,H,Q=>tk σ H fun x H1=>tv σ H1 fun y H2=>zcn r σ H2 fun ps H3=>Q ((x,y) :: ps) H3
abbrev VV:List (V×V)->List (Value×Value)->Prop:=Paired fun p q=>RelV p.1 q.1/\RelV p.2 q.2
def PPs(X:Cx)(pos:Pos)(keys:List (Option Expr))(values:List Expr)(trs:List (TE×TE)):Prop :=
 ∀ (pins:#[v]) (s:Shared) (σ:St) (H:Hp) (Q:List (V×V)->Hp->Prop),#[h]->zcn trs σ H Q ->
   wpAny (model X.prog X.w) X.A (evalPairs (pairTrees keys values X.env pos)) (fun vs s'=>∃ ps H',#[G,H',s']/\VV ps vs/\Q ps H') X.xe s
theorem zdy:PPs X pos [] [] []:=fun pins s σ H Q I h=>pairTrees_nil_walk ⟨[],H,I,.nil,h⟩
theorem Tv(hk:PE X k tk)(hv:PE X v tv)(hr:PPs X pos ks vs trs) :
  PPs X pos (some k :: ks) (v :: vs) ((tk,tv) :: trs):=fun pins s σ H Q I h =>
 pairTrees_cons_walk (thn (hk pins s σ H _ I h) fun u s1 ⟨x,H1,I1,rx,q1⟩=>thn (hv pins s1 σ H1 _ I1 q1) fun w2 s2 ⟨y,H2,I2,ry,q2⟩ =>
  thn (hr pins s2 σ H2 _ I2 q2) fun ws s3 ⟨ps,H3,I3,rel,q3⟩=>⟨(x,y) :: ps,H3,I3,.cons ⟨rx,ry⟩ rel,q3⟩)
def Uo(kvs more:#[N]):#[N]:=more.foldl (fun acc kv=>putK acc kv.1 kv.2) kvs
theorem KV.merge:∀ {more:List (Key×V)} {rs:List (Key×Value)} {kvs:List (Key×V)} {vs:List (Key×Value)},KV more rs->KV kvs vs->KV (Uo kvs more) (merged vs rs):=by
 intro more rs kvs vs r;unfold KV at r
 induction r generalizing kvs vs with
 | nil=>intro q;exact q
 | @cons p q ps qs h t ih =>
   intro r0;have e:KV (putK kvs p.1 p.2) (stored vs q.1 q.2):=by
    have:=r0.put p.1 h.2;rw[<- h.1];exact this
   exact ih e
theorem Rg:∀ (more kvs:List (Key×V)),(Uo kvs more).length<=kvs.length+more.length
 | [],kvs=>by show kvs.length<=kvs.length+0;omega
 | p :: r,kvs=>by
   have h1:=Rg r (putK kvs p.1 p.2);have h2:=X4 kvs p.1 p.2;show (Uo (putK kvs p.1 p.2) r).length<=_;rw[zyk];omega
theorem G8:∀ {kvs:List (Key×V)} {ws:List (Value×Value)},VV (kvs.map fun kv=>(kV kv.1,kv.2)) ws->∃ rs,Carries (Yo P w) ws rs/\KV kvs rs
 | [],_,r=>by rw[List.map_nil] at r;cases r;exact⟨[],True.intro,.nil⟩
 | p :: kvs,_,r=>by
   rw[zyf] at r;cases r with
   | @cons a b as bs h t =>
     obtain⟨rs,c,q⟩:=G8 (P:=P) (w:=w) t;obtain⟨b1,b2⟩:=b;exact⟨(p.1,b2) :: rs,#[q,J0 h.1,c],.cons ⟨rfl,h.2⟩ q⟩
def zm4(trs:List (TE×TE)):TE:=fun σ H Q=>∀ p,H p=none->zcn trs σ (upd H p (.dK [])) fun ps H2=>H2 p=#[b,.dK,[]]/\∃ kvs:#[N],ps=kvs.map (fun kv=>(kV kv.1,kv.2))/\kvs.length<=15/\Q (.ref p) (upd H2 p (.dK (Uo [] kvs)))
theorem zdz(h:PPs X pos keys values trs)(hall:keys.all (·.isSome)=true)(hl:keys.length=values.length)(h0:keys≠[])
  (h15:keys.length<=15):PE X (.Dict keys values pos) (zm4 trs):=by
 intro pins s σ H Q I q;have hn:=I.hok.fresh (zyc s.heap.objs.size);have I1:=I.laid (a:=s.heap.objs.size) (o:=.dK []) (h':=s.heap.push { cls:=.type "dict",data:=.dict #[] }) (t':=s.toks) (fun _ _ q=>#[W,_,q]) (zyc _) (zao s.heap I.big);refine wpAny_Dict_walk (knd:=Yo X.prog X.w) hall hl h0 h15 (thn (h pins _ σ _ _ I1 (q _ hn)) fun ws s2 ⟨ps,H2,I2,rel,e,kvs,ep,lk,q2⟩=>?_);subst ep;obtain⟨rs,c,rk⟩:=G8 (P:=X.prog) (w:=X.w) rel;obtain⟨z,hd,vs0,r0,dd⟩:=zam I2.hok e;cases r0;refine⟨rs,c,dd,fun h' dd' hs=>⟨.ref s.heap.objs.size,_,?_,rfl,q2⟩⟩;have hz:(Uo [] kvs).length<=sizeLine:=by
  have h1:=Rg kvs [];rw[zz4] at h1;rw[sizeLine_eq];omega
 have he:∃ q,h'.get? s.heap.objs.size=some q:=let ⟨q,_,_,hq,_⟩:=dd';⟨q,hq⟩;exact O8 I2 (by rw[e];exact True.intro) hs he (G6 hz hd (rk.merge .nil) dd')
structure M1(X:Cx)(o:Expr)(m:Str)(apos:Pos)(e:Expr)(cpos:Pos):Prop where
 base:attributeBase o m X.env #[B,o]=#[B,o]
 few:((backTo cpos (starEach [e] X.env)).all (fun x=>!x.1)&&(backToKw cpos (keywordEach [] X.env)).all (fun x=>x.1.isSome)
  && decide (([e]:List Expr).length+([]:List Keyword).length+(if ([]:List Keyword).isEmpty then 0 else 1)<30))=true
 line:(apos.endLine == cpos.line)=true
 trees:backTo cpos (starEach [e] X.env)=[(false,eval e X.env)]
structure M2(X:Cx)(o:Expr)(m:Str)(apos:Pos)(e f:Expr)(cpos:Pos):Prop where
 base:attributeBase o m X.env #[B,o]=#[B,o]
 few:((backTo cpos (starEach [e,f] X.env)).all (fun x=>!x.1)&&(backToKw cpos (keywordEach [] X.env)).all (fun x=>x.1.isSome)
  && decide (([e,f]:List Expr).length+([]:List Keyword).length+(if ([]:List Keyword).isEmpty then 0 else 1)<30))=true
 line:(apos.endLine == cpos.line)=true
 trees:backTo cpos (starEach [e,f] X.env)=[(false,#[B,e]),(false,#[B,f])]
def IsD(H:Hp)(a:Addr):Prop:=(∃ kvs,Rd H a (.dK kvs))\/∃ kvs,Rd H a (.dT kvs)
theorem zco(I:#[h])(d:IsD H a) :
  s.TypeIs (.ref a) "dict"/\(∀ b,Value.ref a=.ref b->∃ ob,#[J,b]=some ob/\ob.dict=none)/\(a == sysModules)=false:=by
 rcases d with ⟨kvs,e⟩|⟨kvs,e⟩
 ·obtain⟨_,hd,vs,_,dd⟩:=Pd I.hok e;refine⟨dd.typeIs,fun b q=>?_,hd⟩;cases q;obtain⟨ob,_,_,h1,h2,_⟩:=dd;exact⟨ob,h1,h2.2.1⟩
 ·obtain⟨_,hd,xs,_,dd⟩:=G5 I.hok e;refine⟨dd.typeIs,fun b q=>?_,hd⟩;cases q;obtain⟨ob,_,_,h1,h2,_⟩:=dd;exact⟨ob,h1,h2.2.1⟩
section
variable{X:Cx}{pins:#[v]}{σ:St}{H:Hp}{s:Shared}{a:Addr}{y d:V}{u r:Value}{o:Option V}{A:Around}{E:Value->Shared->Prop}
theorem zle(hu:A.units+1<cLine)(I:#[h])(g:DGet H a y o)(ry:RelV y u)(rd:RelV d r)(h:∀ w' s',#[G,H,s']->RelV (o.getD d) w'->Q w' s') :
  wpAny (model X.prog X.w) A (call (.builtin "dict.get") [.ref a,u,r]) Q E s:=by
 rcases g with ⟨kvs,k,e,ey,l⟩|⟨kvs,k,b,e,ey,eb,l⟩
 ·subst ey;obtain⟨z,hd,vs,rel,dd⟩:=Pd I.hok e;refine call_meetsIn PySem.F.slot_dict_get dd.typeIs PySem.F.entry_dict_get (PySem.F.args_dict_get_3 _ _ _) (meets_dict_get_default (Yo X.prog X.w) a (J0 ry) hd r) ⟨_,dd.mapOf,h _ _ (I.tok _) ?_⟩;rw[l];exact(rel.val k).getD rd
 ·subst ey;cases (show u=Value.ref b from ry);obtain⟨z,hd,xs,rel,dd⟩:=G5 I.hok e;refine call_meetsIn PySem.F.slot_dict_get dd.typeIs PySem.F.entry_dict_get (PySem.F.args_dict_get_3 _ _ _) (meetsH_dict_get_default (tupleKind (Yo X.prog X.w)) a b hd r) ⟨tupleKind_room_in1 hu,k,xs,N2 I.hok eb,dd,h _ _ (I.tok _) ?_⟩;rw[l];exact(rel.val k).getD rd
end
inductive zjj(ty:TE)(tx:TE)(σ:L2.St)(Q:VK)(x:V)(H1:Hp):Prop where
 | mk(a)(_:x=.ref a)(_:IsD H1 a)(_:ty σ H1 fun y H2=>tx σ H2 fun z H3=>∃ o,DGet H3 a y o/\Q (o.getD z) H3)
def zlf(td ty tx:TE):TE:=fun σ H Q=>td σ H fun x H1=>zjj ty tx σ Q x H1
inductive zjk(ty:TE)(σ:L2.St)(Q:VK)(x:V)(H1:Hp):Prop where
 | mk(a)(_:x=.ref a)(_:IsD H1 a)(_:ty σ H1 fun y H2=>∃ kvs k v,H2 a=#[b,.dK,kvs]/\y=kV k/\valV kvs k=some v/\Q v (upd H2 a (.dK (Wi kvs k))))
def zlg(td ty:TE):TE:=fun σ H Q=>td σ H fun x H1=>zjk ty σ Q x H1
section
variable{X:Cx}{o e f:Expr}{apos cpos:Pos}{td ty tx:TE}
theorem zhf(hu:X.A.units+1<cLine)(ho:PE X o td)(he:PE X e ty)(hf:PE X f tx)(m:M2 X o "get" apos e f cpos):PE X (.Call (.Attribute o "get" apos) [e,f] [] cpos) (zlf td ty tx):=by
 intro pins s σ H Q I h;refine wpAny_Call_method m.base m.few m.line PySem.F.plainAttrs_dict PySem.F.slot_dict_get PySem.F.type_dict_get (thn (ho pins s σ H _ I h) fun u s1 ⟨x,H1,I1,rx,a,ex,d,q1⟩=>?_);subst ex;obtain rfl:u=Value.ref a:=rx;obtain⟨t1,t2,_⟩:=zco I1 d;refine⟨t1,t2,?_⟩;rw[m.trees];refine Calls.callWith_builtin rfl (Calls.evalArgs_plain (Calls.spliced_cons (thn (he pins s1 σ H1 _ I1 q1) fun iv s2 ⟨y,H2,I2,ry,q2⟩ =>
  Calls.spliced_cons (thn (hf pins s2 σ H2 _ I2 q2) fun fv s3 ⟨z,H3,I3,rz,ov,g,q3⟩=>Calls.spliced_nil ?_))))
 exact zle hu I3 g ry rz fun w' s4 I4 rw'=>⟨_,H3,I4,rw',q3⟩
theorem zhg(ho:PE X o td)(he:PE X e ty)(m:M1 X o "pop" apos e cpos):PE X (.Call (.Attribute o "pop" apos) [e] [] cpos) (zlg td ty):=by
 intro pins s σ H Q I h;refine wpAny_Call_method m.base m.few m.line PySem.F.plainAttrs_dict PySem.F.slot_dict_pop PySem.F.type_dict_pop (thn (ho pins s σ H _ I h) fun u s1 ⟨x,H1,I1,rx,a,ex,d,q1⟩=>?_);subst ex;obtain rfl:u=Value.ref a:=rx;obtain⟨t1,t2,_⟩:=zco I1 d;refine⟨t1,t2,?_⟩;rw[m.trees];refine Calls.callWith_builtin rfl (Calls.evalArgs_plain (Calls.spliced_cons (thn (he pins s1 σ H1 _ I1 q1) fun iv s2 ⟨y,H2,I2,ry,kvs,k,v,ea,ey,l,q2⟩=>Calls.spliced_nil ?_)));subst ey;exact zm1 I2 ea ry l (.inl rfl) fun w' s3 I3 rw'=>⟨v,_,I3,rw',q2⟩
end
section
variable{X:Cx}{pins:#[v]}{σ:St}{H:Hp}{s:Shared}{a:Addr}{kvs:#[N]}{A:Around}{E:Value->Shared->Prop}
theorem zhh(I:#[h])(e:Rd H a (.dK kvs))(h:∀ p s',H p=none->#[G,upd H p (.dK kvs),s']->Q (.ref p) s'):#[U,A,call (.type "dict") [.ref a],Q,E,s]:=by
 obtain⟨z,hd,vs,rel,dd⟩:=Pd I.hok e;refine kt_call_dict hd dd (by rw[<- rel.length];exact z) fun h' dd' hs=>?_;refine h _ _ (I.hok.fresh (zyc _)) (I.laid (a:=s.heap.objs.size) (o:=.dK kvs) (t':=s.toks) (fun b q hq=>?_) (zyc _) (G6 z (zyr.mpr (Ne.symm (zyu I.big))) rel dd'));exact(hs.2 b (zyu (Heap.lt_size hq))).trans (Heap.get?_push_of_some _ hq)
end
end L2
namespace HT
open PySem PyProof.Rows
section
open PySem.SeqAt
open PySem.AutoSeq1 (wpAny_loadPart')
open PySem.MeetsSeq PySem.MeetsSeq2 PySem.MeetsSeq3
end
section
variable{prog:Program}{w:World}{A:Around}{E:Value->Shared->Prop}{s:Shared}
theorem cat_tup(ht:IsTup s.heap t vs.toArray)(hb:IsTup s.heap b ws.toArray)(hv:vs≠[])
  (h1:ws=[]->Q (.ref t) s) (h2:ws≠[]->Q (.ref s.heap.objs.size) { s with heap:=s.heap.push { cls:=.type "tuple",data:=.seq (vs++ws).toArray } })
  (hsz:vs.length+ws.length<=sizeLine):wpAny (model prog w) A (binaryOp .Add (.ref t) (.ref b)) Q E s:=by
 obtain⟨⟨cls,dd,data,sl⟩,ho,hc,n,hd⟩:=id ht;obtain⟨⟨cls2,dd2,data2,sl2⟩,ho2,hc2,n2,hd2⟩:=id hb;simp only at hc hd hc2 hd2;subst hc hd hc2 hd2;have e:vs.toArray++ws.toArray=(vs++ws).toArray:=by simp
 by_cases hw:ws=[]
 ·exact concat_meets ⟨_,ho,rfl⟩ ⟨_,ho2,rfl⟩ noFill_tuple_add seq_tuple_add PySem.F.slot_tuple_add PySem.F.entry_tuple_add (PySem.F.args_tuple_add_2 _ _)
   (tuple_addW1 t b vs.toArray ws.toArray n n2 dd dd2 sl sl2 (by simpa using hv) (by simp[hw])) ⟨ho,ho2,h1 hw⟩
 ·refine concat_meets ⟨_,ho,rfl⟩ ⟨_,ho2,rfl⟩ noFill_tuple_add seq_tuple_add PySem.F.slot_tuple_add PySem.F.entry_tuple_add (PySem.F.args_tuple_add_2 _ _)
   (tuple_addW2 t b vs.toArray ws.toArray n n2 dd dd2 sl sl2 (by simpa using hv) (by simpa using hw) (by rw[zyj,zyj];exact hsz)) ⟨ho,ho2,?_⟩
  rw[e];exact h2 hw
def sIx(n d:Nat):#[C]->Nat
 | none=>d
 | some v=>if v<0 then (v+(n:Int)).toNat else min v.toNat n
theorem sIx_none(n d:Nat):sIx n d none=d:=rfl
theorem sIx_nat(n d k:Nat):sIx n d (some (k:Int))=min k n:=by
 show (if (k:Int)<0 then ((k:Int)+(n:Int)).toNat else min (k:Int).toNat n)=min k n;rw[if_neg ⋯,zyh]
end
end HT
namespace L2
open PySem PySem.Spec PyProof.Rows
abbrev TO:=St->Hp->(#[C]->Hp->Prop)->Prop
def PO(X:Cx)(e:Option Expr)(t:TO):Prop :=
 ∀ (pins:#[v]) (s:Shared) (σ:St) (H:Hp) (Q:#[C]->Hp->Prop),#[h]->t σ H Q ->
   wpAny (model X.prog X.w) X.A (evalPart e X.env) (fun u s'=>∃ o H',#[G,H',s']/\IsPart u o/\Q o H') X.xe s
def zd0:TO:=fun _ H Q=>Q none H
inductive zlh(Q:#[C]->Hp->Prop)(x:V)(H1:Hp):Prop where
 | mk(i)(_:x=.int i)(_:Q (some i) H1)
def zkh(t:TE):TO:=fun σ H Q=>t σ H fun x H1=>zlh Q x H1
section
variable{X:Cx}{e:Expr}{te:TE}{lo hi:Option Expr}{tl th:TO}{pos p2:Pos}
theorem Gu:PO X none zd0:=by
 intro pins s σ H Q I h;rw[evalPart_none];exact wpAny_pure ⟨none,H,I,.none,h⟩
theorem Gv(h:PE X e te):PO X (some e) (zkh te):=by
 intro pins s σ H Q I hw;rw[evalPart_some];refine thn (h pins s σ H _ I hw) fun u s1 ⟨x,H1,I1,r1,q1⟩=>?_;obtain⟨i,rfl,q⟩:=q1;obtain⟨t,rfl⟩:=r1;exact⟨some i,H1,I1,.int i t,q⟩
def SlR(X:Cx)(r:V->#[C]->#[C]->Hp->VK->Prop):Prop :=
 ∀ (pins:#[v]) (s:Shared) (σ:St) (H:Hp) (x:V) (v vl vu:Value) (lo hi:#[C]) (sl:Addr) (Q:VK),#[h]->RelV x v->s.heap.IsSliceOf sl vl vu .none->IsPart vl lo->IsPart vu hi->r x lo hi H Q ->
   ∃ T id,typeLookup (.type T) "__getitem__"=pure #[b,.builtin,id]/\s.TypeIs v T/\#[U,X.A,getItem v (.ref sl),EP X pins σ Q,X.xe,s]
def tSl(r:V->#[C]->#[C]->Hp->VK->Prop)(te:TE)(tl th:TO):TE:=fun σ H Q=>te σ H fun x H1=>tl σ H1 fun l H2=>th σ H2 fun u H3=>r x l u H3 Q
theorem M9(hr:SlR X r)(he:PE X e te)(hl:PO X lo tl)(hu:PO X hi th):PE X (.Subscript e (.Slice lo hi none p2) pos) (tSl r te tl th):=by
 intro pins s σ H Q I h;refine Subscript_ (thn (he pins s σ H _ I h) fun v s1 ⟨x,H1,I1,r1,q1⟩=>?_);refine wpAny_Slice (thn (hl pins s1 σ H1 _ I1 q1) fun vl s2 ⟨l,H2,I2,pl,q2⟩=>thn (hu pins s2 σ H2 _ I2 q2) fun vu s3 ⟨u,H3,I3,pu,q3⟩=>?_);rw[evalPart_none];refine wpAny_pure ?_;have I4:#[G,H3,{ s3 with heap:=s3.heap.push { cls:=.type "slice",data:=.fields #[vl,vu,.none] } }]:=I3.kept (t':=s3.toks) fun b ob q=>#[W,_,q];obtain⟨T,id,hT,ht,hg⟩:=hr pins { s3 with heap:=s3.heap.push { cls:=.type "slice",data:=.fields #[vl,vu,.none] } } σ H3 x v vl vu l u s3.heap.objs.size Q I4 r1 (Heap.IsSliceOf.new ..) pl pu q3;show #[U,X.A,subscriptTail e (.Slice lo hi none p2) v (.ref s3.heap.objs.size),EP X pins σ Q,X.xe,{ s3 with heap:=s3.heap.push { cls:=.type "slice",data:=.fields #[vl,vu,.none] } }];exact tail_any (ops:=[.ref s3.heap.objs.size,v]) ht hT hg (by with_unfolding_all rfl)
def Ks(xs:#[a])(lo hi:#[C]):#[a]:=(xs.drop (HT.sIx xs.length 0 lo)).take (HT.sIx xs.length xs.length hi-HT.sIx xs.length 0 lo)
theorem zap(xs:#[a])(lo hi:#[C]):(Ks xs lo hi).length<=xs.length:=by
 unfold Ks;rw[z0a,z0b];omega
inductive zki(K:Frag)(x:V)(y:V)(H:Hp)(Q:VK):Prop where
 | mk(a)(b)(xs)(ys)(_:x=.ref a)(_:y=.ref b)(_:SqT K H a xs)(_:SqT K H b ys)(_:xs≠[])(_:xs.length+ys.length<=sizeLine)(_:(ys=[]->Q (.ref a) H))(_:(ys≠[]->∀ p,H p=none->Q (.ref p) (upd H p (.tup (xs++ys)))))
theorem Vals.nil_iff(r:Vals xs us):us=[]↔xs=[]:=by
 cases r with
 | nil=>simp
 | cons _ _=>simp
theorem zjl:OpR X (binaryOp .Add) (zki X.K):=by
 intro pins s σ H x y v u Q I rx ry h;obtain⟨a,b,xs,ys,rfl,rfl,ha,hb,hx,hz,q1,q2⟩:=h;cases rx;cases ry;obtain⟨its,r1,p1,_⟩:=I.tuple ha;obtain⟨its2,r2,p2,_⟩:=I.tuple hb;refine HT.cat_tup p1 p2 (fun z=>hx (r1.nil_iff.mp z)) (fun z=>⟨.ref a,H,I,rfl,q1 (r2.nil_iff.mp z)⟩) (fun z=>?_) (by rw[<- r1.length,<- r2.length];exact hz);refine⟨.ref s.heap.objs.size,_,I.laid (t':=s.toks) (o:=.tup (xs++ys)) (fun b ob q=>#[W,_,q]) (zyc _) ?_,rfl,q2 (fun w=>z (r2.nil_iff.mpr w)) _ (I.hok.fresh (zyc _))⟩;exact⟨by rw[zx4];exact hz,_,r1.append r2,IsTup.new _ _⟩
end
def ixN(n:Nat)(i:Int):Option Nat:=if 0<=i then (if i<n then some i.toNat else none) else if -(n:Int)<=i then some (i+n).toNat else none
def atI{α:Type}(xs:List α)(i:Int):Option α:=(ixN xs.length i).bind fun j=>xs[j]?
theorem zd1(h:ixN n i=some j):seqIndex? i n=some j/\j<n/\-(n:Int)<=i/\i<n:=by
 unfold ixN at h;by_cases h0:0<=i
 ·rw[if_pos h0] at h;by_cases h1:i<n
  ·rw[if_pos h1] at h;have e:i.toNat=j:=Option.some.inj h;exact⟨by rw[seqIndex_of h0 h1,e],by omega,by omega,h1⟩
  ·rw[if_neg h1] at h;cases h
 ·rw[if_neg h0] at h;by_cases h1:-(n:Int)<=i
  ·rw[if_pos h1] at h;have e:(i+n).toNat=j:=Option.some.inj h;exact⟨by rw[seqIndex_neg ⋯ h1,e],by omega,h1,by omega⟩
  ·rw[if_neg h1] at h;cases h
theorem zd2(h:atI xs i=some v):∃ j,seqIndex? i xs.length=some j/\xs[j]?=some v/\j<xs.length/\-(xs.length:Int)<=i/\i<xs.length:=by
 unfold atI at h;cases e:ixN xs.length i with
 | none=>rw[e] at h;cases h
 | some j =>
   rw[e] at h;obtain⟨h1,h2,h3,h4⟩:=zd1 e;exact⟨j,h1,h,h2,h3,h4⟩
theorem Z4{α:Type}{xs:List α}{j:Nat}{v:α}(h:xs[j]?=some v):atI xs (j:Int)=some v:=by
 have hj:j<xs.length:=(zx3.mp h).1;have e:ixN xs.length (j:Int)=some j:=by
  unfold ixN;rw[if_pos ⋯,if_pos ⋯];simp
 unfold atI;rw[e];exact h
theorem atI_last(xs:List α)(v:α):atI (xs++[v]) (-1)=some v:=by
 have hl:(xs++[v]).length=xs.length+1:=by simp
 have e:ixN (xs++[v]).length (-1)=some xs.length:=by
  unfold ixN;rw[hl,if_neg ⋯,if_pos ⋯]
  congr 1
  omega
 unfold atI;rw[e];show (xs++[v])[xs.length]?=some v;simp
def zd3(b:Expr):Prop:=∀ o i,subscripted b false o i=operate [o,i] (getItem o i)
def IxR(X:Cx)(r:R2):Prop :=
 ∀ (value slice:Expr) (pins:#[v]) (s:Shared) (σ:St) (H:Hp) (x y:V) (v u:Value) (Q:VK),#[h]->RelV x v->RelV y u->r x y H Q ->
   subscripted slice false v u=operate [v,u] (getItem v u)->wpAny (model X.prog X.w) X.A (subscriptTail value slice v u) (EP X pins σ Q) X.xe s
def MtR(X:Cx)(id:String)(r:V->#[a]->Hp->VK->Prop):Prop :=
 ∀ (pins:#[v]) (s:Shared) (σ:St) (H:Hp) (x:V) (xs:#[a]) (v:Value) (us:List Value) (Q:VK),#[h]->RelV x v->Vals xs us->r x xs H Q ->
   wpAny (model X.prog X.w) X.A (call (.builtin id) (v :: us)) (EP X pins σ Q) X.xe s
section
variable{X:Cx}{a b:Expr}{ta tb:TE}{pos:Pos}
theorem zm5(hr:IxR X r)(ha:PE X a ta)(hb:PE X b tb)(hs:zd3 b):PE X (.Subscript a b pos) (tOp r ta tb):=by
 intro pins s σ H Q I h;exact Subscript_ (binT ha hb I h fun v u s2 x y H2 I2 rx ry q=>hr a b pins s2 σ H2 x y v u Q I2 rx ry q (hs _ _))
inductive Bw(K:Frag)(x:V)(y:V)(H:Hp)(Q:VK):Prop where
 | mk(p)(xs)(i)(v)(_:x=.ref p)(_:y=.int i)(_:SqL K H p xs)(_:atI xs i=some v)(_:Q v H)
inductive zfh(K:Frag)(x:V)(y:V)(H:Hp)(Q:VK):Prop where
 | mk(p)(xs)(i)(v)(_:x=.ref p)(_:y=.int i)(_:SqT K H p xs)(_:atI xs i=some v)(_:Q v H)
theorem zjm:IxR X (Bw X.K):=by
 intro value slice pins s σ H x y v u Q I rx ry h hs;obtain⟨p,xs,i,z,rfl,rfl,hq,he,q⟩:=h;cases rx;obtain⟨t,rfl⟩:=ry;obtain⟨its,r,pl,hz⟩:=I.list hq;obtain⟨j,h1,h2,h3,h4,h5⟩:=zd2 he;obtain⟨w,ew,rw'⟩:=r.get h2;have hl:=r.length;have hn:=N1;have fin:EP X pins σ Q w s:=⟨z,H,I,rw',q⟩;by_cases h0:0<=i
 ·have hj:i.toNat=j:=by
   rw[seqIndex_of h0 h5] at h1;exact Option.some.inj h1
  exact item_listR pl.isList h0 ⋯ (by rw[hj];simpa using ew) fin hs
 ·have hj:(i+(its.toArray.size:Int)).toNat=j:=by
   rw[seqIndex_neg ⋯ h4] at h1;rw[zyj,<- hl];exact Option.some.inj h1
  exact subscriptTail_builtinR (x:=w) pl.isList.typeIs slot_list_getitem.lookup
   (wpAny_getItem_list_neg (Q:=fun r s'=>r=w/\EP X pins σ Q r s') pl.isList ⋯ (by rw[zyj]<;>omega) ⋯ (by rw[hj];simpa using ew) ⟨rfl,fin⟩) hs
theorem zli:IxR X (zfh X.K):=by
 intro value slice pins s σ H x y v u Q I rx ry h hs;obtain⟨p,xs,i,z,rfl,rfl,hq,he,q⟩:=h;cases rx;obtain⟨t,rfl⟩:=ry;obtain⟨its,r,pl,hz⟩:=I.tuple hq;obtain⟨j,h1,h2,h3,h4,h5⟩:=zd2 he;obtain⟨w,ew,rw'⟩:=r.get h2;have hl:=r.length;have hn:=N1;have fin:EP X pins σ Q w s:=⟨z,H,I,rw',q⟩;exact subscriptTail_builtinR (x:=w) pl.typeIs slot_tuple_getitem.lookup
  (getItem_tuple (j:=j) (Q:=fun r s'=>r=w/\EP X pins σ Q r s') pl ⋯ ⋯ (by rw[zyj,<- hl];exact h1) (by simpa using ew) ⟨rfl,fin⟩) hs
theorem zcp(its:List Value)(n j:Nat)(u:Value):Obj.mapSeq (·.setIfInBounds j u) { cls:=.type "list",data:=.seq its.toArray n }={ cls:=.type "list",data:=.seq (its.set j u).toArray n }:=by
 simp[Obj.mapSeq]
theorem Inv.lst(I:#[h])(h:#[w,H,p,xs]) :
  ∃ (its:List Value) (n:Nat),Vals xs its/\#[J,p]=some { cls:=.type "list",data:=.seq its.toArray n }/\xs.length<=sizeLine:=by
 obtain⟨z,its,n,r,e⟩:=I.hok p _ h;exact⟨its,n,r,e,z⟩
theorem Inv.lstUpd{pins:#[v]}{σ:St}{H:Hp}{s:Shared}{p:Addr}{xs ys:#[a]}{its its':List Value}{n n':Nat}{f:Obj->Obj}(I:#[h])(h:#[w,H,p,xs])
  (ho:s.heap.get? p=some { cls:=.type "list",data:=.seq its.toArray n }) (hf:f { cls:=.type "list",data:=.seq its.toArray n }={ cls:=.type "list",data:=.seq its'.toArray n' }) (r:Vals ys its') (hz:ys.length<=sizeLine) (t:Nat) :
  Inv X pins σ (upd H p (.lst ys)) { s with heap:=s.heap.update p f,toks:=t }:=by
 have e:(s.heap.update p f).get? p=some { cls:=.type "list",data:=.seq its'.toArray n' }:=by
  rw[Heap.get?_update_self f ho (by rw[hf]<;>rfl),hf]
 refine I.write (x:=p) (e:=p) (by rw[h];trivial) (.inl rfl) (fun b u hb q=>(Heap.get?_update_other _ _ (Ne.symm hb)).trans q) ⟨_,e⟩ ?_;exact⟨hz,its',n',r,e⟩
def zm6:V->V->V->Hp->(Hp->Prop)->Prop:=fun o i v H Q=>∃ p xs k j,o=.ref p/\i=.int k/\H p=#[r,xs]/\ixN xs.length k=some j/\Q (upd H p (.lst (xs.set j v)))
theorem zhi:zmn X zm6:=by
 intro pins s σ H o i v ov iv u Q I ro ri rv h;obtain⟨p,xs,k,j,rfl,rfl,hp,hj,q⟩:=h;cases ro;obtain⟨t,rfl⟩:=ri;obtain⟨its,n,r,ho,hz⟩:=I.lst hp;obtain⟨h1,h2,h3,h4⟩:=zd1 hj;have hl:=r.length;have hn:=N1;have I':#[G,upd H p (.lst (xs.set j v)),{ s with heap:=s.heap.update p (Obj.mapSeq (·.setIfInBounds j u)) }] :=
  I.lstUpd hp ho (zcp its n j u) (r.set rv j) (by rw[zzr];exact hz) s.toks
 by_cases h0:0<=k
 ·have hk:k.toNat=j:=by
   rw[seqIndex_of h0 h4] at h1;exact Option.some.inj h1
  exact PySem.W.ki_setAt ho h0 ⋯ (by rw[zyj,<- hl];exact h4) (by rw[hk];exact⟨_,I',q⟩)
 ·have hk:(k+(its.toArray.size:Int)).toNat=j:=by
   rw[seqIndex_neg ⋯ h3] at h1;rw[zyj,<- hl];exact Option.some.inj h1
  exact PySem.W.ki_setBack ho ⋯ (by rw[zyj,<- hl];exact h3) ⋯ (by rw[hk];exact⟨_,I',q⟩)
theorem Bx(lo hi:#[C])(n:Nat):(sliceBounds lo hi none n).1=((HT.sIx n 0 lo:Nat):Int)/\(sliceBounds lo hi none n).2.1=((HT.sIx n n hi:Nat):Int)/\(sliceBounds lo hi none n).2.2=1:=by
 refine⟨?_,?_,rfl⟩
 ·cases lo with
  | none=>simp[sliceBounds,HT.sIx]
  | some i =>
    simp only[sliceBounds,HT.sIx,Option.getD_none,show (1:Int)>0 by decide,if_true];by_cases h:i<0
    ·simp only[h,if_true]<;>omega
    ·simp only[h,if_false]<;>omega
 ·cases hi with
  | none=>simp[sliceBounds,HT.sIx]
  | some i =>
    simp only[sliceBounds,HT.sIx,Option.getD_none,show (1:Int)>0 by decide,if_true];by_cases h:i<0
    ·simp only[h,if_true]<;>omega
    ·simp only[h,if_false]<;>omega
theorem Dq(its:List Value)(lo hi:#[C]):slicePick its.toArray lo hi none=((its.drop (HT.sIx its.length 0 lo)).take (HT.sIx its.length its.length hi-HT.sIx its.length 0 lo)).toArray:=by
 obtain⟨h1,h2,h3⟩:=Bx lo hi its.toArray.size;unfold slicePick;rw[h1,h2,h3];simp only[sliceRange_one,pick_run,zyj]<;>rfl
def zlj(K:Frag):V->#[C]->#[C]->Hp->VK->Prop:=fun x lo hi H Q=>∃ a xs,x=.ref a/\SqL K H a xs/\∀ p,H p=none->Q (.ref p) (upd H p (.lst (Ks xs lo hi)))
theorem zjn:SlR X (zlj X.K):=by
 intro pins s σ H x v vl vu lo hi sl Q I rx hs pl pu h;obtain⟨a,xs,rfl,hx,q⟩:=h;cases rx;obtain⟨its,r,ht,hz⟩:=I.list hx;have hlen:=r.length;refine⟨"list",_,slot_list_getitem.lookup,ht.isList.typeIs,?_⟩;refine wpAny_getItem_list_slice ht.isList hs pl pu .none (by simp) ?_ (by rw[zyj]<;>omega);rw[Dq,<- hlen];refine⟨.ref s.heap.objs.size,_,I.laid (t':=s.toks) (o:=.lst (Ks xs lo hi)) (fun b ob q=>#[W,_,q]) (zyc _) ?_,rfl,q _ (I.hok.fresh (zyc _))⟩;exact⟨zyg (zap xs lo hi) hz,_,0,(r.drop (HT.sIx xs.length 0 lo)).take (HT.sIx xs.length xs.length hi-HT.sIx xs.length 0 lo),Heap.get?_push_size _ rfl⟩
def Pf:V->Bool
 | .non=>true
 | .bl _=>true
 | .int _=>true
 | .str _=>true
 | _=>false
def eqV:V->V->Bool
 | .non,.non=>true
 | .bl a,.bl b=>a == b
 | .bl a,.int b=>(if a then 1 else 0) == b
 | .int a,.bl b=>a == (if b then 1 else 0)
 | .int a,.int b=>a == b
 | .str a,.str b=>a == b
 | _,_=>false
theorem zlk(ry:RelV y u)(rx:RelV x v)(fy:Pf y=true)(fx:Pf x=true):SeqAt.EqAt A s u v (eqV y x):=by
 cases y with
 | non =>
   cases ry;cases x with
   | non=>cases rx;exact SeqAt.EqAt.same _
   | bl b=>cases rx;exact SeqAt.EqAt.none_bool b
   | int b=>obtain⟨t,rfl⟩:=rx;exact SeqAt.EqAt.none_int b t
   | str b=>obtain⟨t,rfl⟩:=rx;exact SeqAt.EqAt.none_str b t
   | _=>exact absurd (show false=true from fx) zyo
 | bl a =>
   cases ry;cases x with
   | non=>cases rx;exact SeqAt.EqAt.bool_none a
   | bl b=>cases rx;exact SeqAt.EqAt.bool_bool a b
   | int b=>obtain⟨t,rfl⟩:=rx;exact SeqAt.EqAt.bool_int a b t
   | str b=>obtain⟨t,rfl⟩:=rx;exact SeqAt.EqAt.bool_str a b t
   | _=>exact absurd (show false=true from fx) zyo
 | int a =>
   obtain⟨t',rfl⟩:=ry;cases x with
   | non=>cases rx;exact SeqAt.EqAt.int_none a t'
   | bl b=>cases rx;exact SeqAt.EqAt.int_bool a t' b
   | int b=>obtain⟨t,rfl⟩:=rx;exact SeqAt.EqAt.int_int a t' b t
   | str b=>obtain⟨t,rfl⟩:=rx;exact SeqAt.EqAt.int_str a t' b t
   | _=>exact absurd (show false=true from fx) zyo
 | str a =>
   obtain⟨t',rfl⟩:=ry;cases x with
   | non=>cases rx;exact SeqAt.EqAt.str_none a t'
   | bl b=>cases rx;exact SeqAt.EqAt.str_bool a t' b
   | int b=>obtain⟨t,rfl⟩:=rx;exact SeqAt.EqAt.str_int a t' b t
   | str b=>obtain⟨t,rfl⟩:=rx;exact SeqAt.EqAt.str_str a t' b t
   | _=>exact absurd (show false=true from fx) zyo
 | _=>exact absurd (show false=true from fy) zyo
def eqU(x:V)(u:Value):Bool:=match u with
 | .none=>eqV .non x
 | .bool b=>eqV (.bl b) x
 | .int i _=>eqV (.int i) x
 | .str z _=>eqV (.str z) x
 | _=>false
theorem zcq(r:RelV y u)(f:Pf y=true):eqU x u=eqV y x:=by
 cases y with
 | non=>cases r;rfl
 | bl b=>cases r;rfl
 | int i=>obtain⟨t,rfl⟩:=r;rfl
 | str z=>obtain⟨t,rfl⟩:=r;rfl
 | _=>exact absurd (show false=true from f) zyo
theorem Lb:∀ {xs:List V} {us:List Value},Vals xs us->xs.all Pf=true->us.any (eqU x)=xs.any fun y=>eqV y x
 | _,_,.nil,_=>rfl
 | y :: xs,u :: us,.cons r t,f=>by
   rw[List.all_cons,zzn] at f;rw[zz7,zz7,zcq r f.1,Lb t f.2]
theorem Rz(rx:RelV x v)(fx:Pf x=true):∀ {xs:List V} {us:List Value},Vals xs us->xs.all Pf=true->∀ u∈us,SeqAt.EqAt A s u v (eqU x u)
 | _,_,.nil,_=>fun u hu=>by cases hu
 | y :: xs,u :: us,.cons r t,f=>fun u' hu=>by
   rw[List.all_cons,zzn] at f;rcases zx8.mp hu with rfl|hu
   ·rw[zcq r f.1];exact zlk r rx f.1 fx
   ·exact Rz rx fx t f.2 u' hu
def inV(x:V)(xs:#[a]):Bool:=xs.any fun y=>eqV y x
inductive rIn(K:Frag)(neg:Bool)(x:V)(y:V)(H:Hp)(Q:VK):Prop where
 | mk(p)(xs)(_:y=.ref p)(_:(SqL K H p xs\/SqT K H p xs))(_:Pf x=true)(_:xs.all Pf=true)(_:Q (.bl (if neg then !inV x xs else inV x xs)) H)
theorem zfi:OpR X (compareOp .In) (rIn X.K false):=by
 intro pins s σ H x y v u Q I rx ry h;obtain⟨p,xs,rfl,hq,fx,fs,q⟩:=h;cases ry;rcases hq with hq|hq
 ·obtain⟨its,r,pl,hz⟩:=I.list hq;refine SeqAt.in_listAt (eqU x) pl.isList (fun w hw=>Rz rx fx r fs w (by simpa using hw)) ⟨.bl _,H,I,rfl,?_⟩;rw[show its.toArray.any (eqU x)=its.any (eqU x) by simp,Lb r fs];exact q
 ·obtain⟨its,r,pl,hz⟩:=I.tuple hq;refine SeqAt.in_tupleAt (eqU x) pl (fun w hw=>Rz rx fx r fs w (by simpa using hw)) ⟨.bl _,H,I,rfl,?_⟩;rw[show its.toArray.any (eqU x)=its.any (eqU x) by simp,Lb r fs];exact q
theorem By:OpR X (compareOp .NotIn) (rIn X.K true):=by
 intro pins s σ H x y v u Q I rx ry h;obtain⟨p,xs,rfl,hq,fx,fs,q⟩:=h;cases ry;rcases hq with hq|hq
 ·obtain⟨its,r,pl,hz⟩:=I.list hq;refine SeqAt.notIn_listAt (eqU x) pl.isList (fun w hw=>Rz rx fx r fs w (by simpa using hw)) ⟨.bl _,H,I,rfl,?_⟩;rw[show its.toArray.any (eqU x)=its.any (eqU x) by simp,Lb r fs];exact q
 ·obtain⟨its,r,pl,hz⟩:=I.tuple hq;refine SeqAt.notIn_tupleAt (eqU x) pl (fun w hw=>Rz rx fx r fs w (by simpa using hw)) ⟨.bl _,H,I,rfl,?_⟩;rw[show its.toArray.any (eqU x)=its.any (eqU x) by simp,Lb r fs];exact q
theorem Bz:V2 X (.builtin "len") (fun xs H Q=>∃ p ys,xs=[.ref p]/\(SqL X.K H p ys\/SqT X.K H p ys)/\Q (.int ys.length) H):=by
 intro pins s σ H xs us Q I r h;obtain⟨p,ys,rfl,hq,q⟩:=h;obtain⟨u,rfl,rx⟩:=Pc r;cases rx;have hn:=N1;rcases hq with hq|hq
 ·obtain⟨its,r',pl,hz⟩:=I.list hq;have hlen:=r'.length;exact Calls.call_len_list pl.isList (by simp only[zyj]<;>omega) ⟨.int ys.length,H,I.tok _,⟨s.toks+1,by rw[zyj,hlen]⟩,q⟩
 ·obtain⟨its,r',pl,hz⟩:=I.tuple hq;have hlen:=r'.length;exact len_tuple pl (by simp only[zyj]<;>omega) ⟨.int ys.length,H,I.tok _,⟨s.toks+1,by rw[zyj,hlen]⟩,q⟩
theorem B0:V2 X (.type "list") (fun xs H Q=>∃ p ys,xs=[.ref p]/\(SqL X.K H p ys\/SqT X.K H p ys)/\∀ l,H l=none->Q (.ref l) (upd H l (.lst ys))):=by
 intro pins s σ H xs us Q I r h;obtain⟨p,ys,rfl,hq,q⟩:=h;obtain⟨u,rfl,rx⟩:=Pc r;cases rx;have fin:∀ (its:List Value),Vals ys its->ys.length<=sizeLine->∀ (h':Heap) (c':Nat),(∀ b o',#[J,b]=some o'->h'.get? b=some o') ->
   h'.get? s.heap.objs.size=some { cls:=.type "list",dict:=none,data:=.seq its.toArray c',slots:=#[] }->EP X pins σ Q (.ref s.heap.objs.size) { s with heap:=h' }:=fun its r' hz h' c' kp e =>
  ⟨.ref s.heap.objs.size,_,I.laid (t':=s.toks) kp (zyc _) (show Xd X.prog X.w _ h' _ (.lst ys) from⟨hz,its,c',r',e⟩),rfl,q _ (I.hok.fresh (zyc _))⟩
 rcases hq with hq|hq
 ·obtain⟨its,r',pl,hz⟩:=I.list hq;have hlen:=r'.length;obtain⟨o,ho,hc,n,hd⟩:=pl.isList;exact call_list_seq p (.inl rfl) ho hc hd (fun h' c' kp e=>fin its r' hz h' c' kp e) (by simp only[zyj]<;>omega)
 ·obtain⟨its,r',pl,hz⟩:=I.tuple hq;have hlen:=r'.length;obtain⟨o,ho,hc,n,hd⟩:=pl;exact call_list_seq p (.inr rfl) ho hc hd (fun h' c' kp e=>fin its r' hz h' c' kp e) (by simp only[zyj]<;>omega)
theorem Dr:V2 X (.type "tuple") (fun xs H Q=>∃ p ys,xs=[.ref p]/\((SqL X.K H p ys/\∀ l,H l=none->Q (.ref l) (upd H l (.tup ys)))\/(SqT X.K H p ys/\Q (.ref p) H))):=by
 intro pins s σ H xs us Q I r h;obtain⟨p,ys,rfl,h⟩:=h;obtain⟨u,rfl,rx⟩:=Pc r;cases rx;rcases h with ⟨hq,q⟩|⟨hq,q⟩
 ·obtain⟨its,r',pl,hz⟩:=I.list hq;have hlen:=r'.length;refine call_tuple_list pl.isList (fun h' kp=>?_) (by simp only[zyj]<;>omega);have I1:#[G,H,{ s with heap:=h' }]:=I.kept (t':=s.toks) kp;have I2:#[G,upd H h'.objs.size (.tup ys),{ s with heap:=h'.push { cls:=.type "tuple",data:=.seq its.toArray } }] :=
   I1.laid (t':=s.toks) (fun b o e=>#[W,_,e]) (zyc _) (show Xd X.prog X.w _ _ _ (.tup ys) from⟨hz,its,r',IsTup.new _ _⟩)
  exact⟨.ref h'.objs.size,_,I2,rfl,q _ (I1.hok.fresh (zyc _))⟩
 ·obtain⟨its,r',pl,hz⟩:=I.tuple hq;exact call_tuple_same pl ⟨.ref p,H,I,rfl,q⟩
def tyV(K:Frag)(T:String)(x:V)(H:Hp):Prop:=match x with
 | .str _=>T="str"
 | .int _=>T="int"
 | .ref p=>(T="list"/\∃ xs,SqL K H p xs)\/(T="tuple"/\∃ o,K.lookup p=#[c]/\o.cls=.type "tuple"/\o.dict=none) \/
   (T="dict"/\((∃ kvs,H p=#[b,.dK,kvs])\/∃ kvs,H p=#[b,.dT,kvs]))\/(T="set"/\∃ S n,H p=some (.set S n))
 | _=>False
theorem zcr(I:#[h])(r:RelV x v)(ty:tyV X.K T x H) :
  s.TypeIs v T/\∀ a,v=.ref a->∃ ob,#[J,a]=some ob/\ob.dict=none:=by
 cases x with
 | str z =>
   obtain⟨t,rfl⟩:=r;cases (show T="str" from ty);exact⟨typeIs_str s z t,fun _ e=>nomatch e⟩
 | int i =>
   obtain⟨t,rfl⟩:=r;cases (show T="int" from ty);exact⟨typeIs_int s i t,fun _ e=>nomatch e⟩
 | ref p =>
   cases r;rcases ty with ⟨rfl,xs,hq⟩|⟨rfl,o,hk,hc,hd⟩|⟨rfl,hk⟩|⟨rfl,S,n,hk⟩
   ·obtain⟨its,_,pl,_⟩:=I.list hq;refine⟨pl.isList.typeIs,fun a e=>?_⟩;cases e;obtain⟨o,n,e,c,hd,_⟩:=pl;exact⟨o,e,hd⟩
   ·refine⟨⟨o,I.kIn p o hk,hc⟩,fun a e=>?_⟩;cases e;exact⟨o,I.kIn _ o hk,hd⟩
   ·have z:∃ o,#[J,p]=#[c]/\o.ExactDict:=by
     rcases hk with ⟨kvs,hk⟩|⟨kvs,hk⟩
     ·obtain⟨_,_,_,_,o,_,_,e,ex,_⟩:=I.hok p _ hk;exact⟨o,e,ex⟩
     ·obtain⟨_,_,_,_,o,_,_,e,ex,_⟩:=I.hok p _ hk;exact⟨o,e,ex⟩
    obtain⟨o,e,ex⟩:=z;refine⟨⟨o,e,ex.1⟩,fun a e2=>?_⟩;cases e2;exact⟨o,e,ex.2.1⟩
   ·obtain⟨o,_,_,_,e,ex,_⟩:=I.hok p _ hk;refine⟨⟨o,e,ex.1⟩,fun a e2=>?_⟩;cases e2;exact⟨o,e,ex.2.1⟩
 | _=>exact False.elim ty
inductive zm7(K:Frag)(T:String)(r:V->#[a]->Hp->VK->Prop)(Q:VK)(x:V)(H1:Hp):Prop where
 | mk(_:tyV K T x H1)(_:r x [] H1 Q)
def zn0(K:Frag)(T:String)(r:V->#[a]->Hp->VK->Prop)(to:TE):TE:=fun σ H Q=>to σ H fun x H1=>zm7 K T r Q x H1
inductive zn1(K:Frag)(T:String)(r:V->#[a]->Hp->VK->Prop)(t:TA)(σ:L2.St)(Q:VK)(x:V)(H1:Hp):Prop where
 | mk(_:tyV K T x H1)(_:t σ H1 fun xs H2=>r x xs H2 Q)
def tBM(K:Frag)(T:String)(r:V->#[a]->Hp->VK->Prop)(to:TE)(t:TA):TE:=fun σ H Q=>to σ H fun x H1=>zn1 K T r t σ Q x H1
variable{o e:Expr}{es:List Expr}{to:TE}{t:TA}{name:Str}{apos cpos:Pos}{T id:String}{r:V->#[a]->Hp->VK->Prop}
theorem zhj(pa:PlainAttrs T)(slot:Slot T name id)(hty:typeOf (.builtin id)=pure (.type "method_descriptor"))(hm:MtR X id r)(ho:PE X o to)
  (hbase:attributeBase o name X.env #[B,o]=eval o X.env:=by rfl) (hline:(apos.endLine == cpos.line)=true:=by rfl):PE X (.Call (.Attribute o name apos) [] [] cpos) (zn0 X.K T r to):=by
 intro pins s σ H Q I h;refine wpAny_Call_method0_late hbase hline (thn (ho pins s σ H _ I h) fun v s1 ⟨x,H1,I1,r1,ty,q1⟩=>?_);obtain⟨h1,h2⟩:=zcr I1 r1 ty;exact⟨T,id,pa,slot,hty,h1,h2,Calls.callWith_builtin rfl (PySem.evalArgs_none (hm pins s1 σ H1 x [] v [] Q I1 r1 .nil q1))⟩
theorem zkj(pa:PlainAttrs T)(slot:Slot T name id)(hty:typeOf (.builtin id)=pure (.type "method_descriptor"))(hm:MtR X id r)(ho:PE X o to)(ha:PA X (e :: es) t)
  (hbase:attributeBase o name X.env #[B,o]=eval o X.env:=by rfl)
  (hfew:((backTo cpos (starEach (e :: es) X.env)).all (fun x=>!x.1)&&(backToKw cpos (keywordEach [] X.env)).all (fun x=>x.1.isSome)
   && decide ((e :: es).length+([]:List Keyword).length+(if ([]:List Keyword).isEmpty then 0 else 1)<30))=true:=by rfl)
  (hline:(apos.endLine == cpos.line)=true:=by rfl) (hs:starEach (e :: es) X.env=(false,#[B,e]) :: starEach es X.env:=by rfl) (hplain:(backTo cpos (starEach es X.env)).any (·.1)=false:=by rfl) :
  PE X (.Call (.Attribute o name apos) (e :: es) [] cpos) (tBM X.K T r to t):=by
 intro pins s σ H Q I h;refine wpAny_Call_method_late hbase hfew hline rfl (thn (ho pins s σ H _ I h) fun v s1 ⟨x,H1,I1,r1,ty,q1⟩=>?_);obtain⟨h1,h2⟩:=zcr I1 r1 ty;refine⟨T,id,pa,slot,hty,h1,h2,?_⟩;have hA:=ha cpos pins s1 σ H1 _ I1 q1;rw[hs] at hA ⊢;refine Calls.callWith_builtin (by show (false||(backTo cpos (starEach es X.env)).any (·.1))=false;rw[hplain]<;>rfl) (Calls.evalArgs_plain ?_);exact thn hA fun us s2 ⟨vs,H2,I2,r2,q2⟩=>hm pins s2 σ H2 x vs v us Q I2 r1 r2 q2
end
def MtM(X:Cx)(id:String)(r:V->#[a]->Hp->VK->Prop):Prop :=
 ∀ (pins:#[v]) (s:Shared) (σ:St) (H:Hp) (x:V) (xs:#[a]) (v:Value) (us:List Value) (Q:VK),#[h]->RelV x v->Vals xs us->r x xs H Q ->
   wpAny (model X.prog X.w) X.A (call (.builtin id) (v :: us)) (EP X pins σ Q) X.xe s
theorem Vals.one:∀ {x:V} {us:List Value},Vals [x] us->∃ u,us=[u]/\RelV x u
 | _,_,.cons r .nil=>#[q,_,r]
theorem Vals.zero:∀ {us:List Value},Vals [] us->us=[]
 | _,.nil=>rfl
theorem Vals.dropLast(h:Vals xs us):Vals xs.dropLast us.dropLast:=by
 induction h with
 | nil=>exact .nil
 | cons r t ih =>
   cases t with
   | nil=>exact .nil
   | cons q t'=>exact .cons r ih
theorem Vals.reverse(h:Vals xs us):Vals xs.reverse us.reverse:=by
 induction h with
 | nil=>exact .nil
 | cons r t ih=>rw[zz8,zz8];exact Vals.append ih (.cons r .nil)
theorem zcs(l:List α):l.eraseIdx (l.length-1)=l.dropLast:=by
 induction l with
 | nil=>rfl
 | cons a r ih =>
   cases r with
   | nil=>rfl
   | cons b r =>
     have e:(a :: b :: r).length-1=((b :: r).length-1)+1:=by
      have h1:(a :: b :: r).length=r.length+2:=rfl;have h2:(b :: r).length=r.length+1:=rfl;omega
     rw[e,List.eraseIdx_cons_succ,ih]
     all_goals rfl
section
variable{X:Cx}{pins:#[v]}{σ:St}{H:Hp}{s:Shared}{l b:Addr}{xs ys zs:#[a]}
theorem Inv.lset{its its':List Value}{n:Nat}{f:Array Value->Array Value}{t':Nat}(I:#[h])(hH:#[w,H,l,xs])
  (e:s.heap.get? l=some { cls:=.type "list",data:=.seq its.toArray n }) (hf:f its.toArray=its'.toArray) (hv:Vals ys its') (hz:ys.length<=sizeLine) :
  Inv X pins σ (upd H l (.lst ys)) { s with heap:=s.heap.update l (Obj.mapSeq f),toks:=t' }:=by
 have q:=PySem.IsL.update e f;rw[hf] at q;refine I.write (x:=l) (e:=l) (by rw[hH];exact trivial) (.inl rfl) (fun b' u hb hu=>(Heap.get?_update_other s.heap (Obj.mapSeq f) (Ne.symm hb)).trans hu) ⟨_,q⟩ ?_;exact⟨hz,its',_,hv,q⟩
theorem Inv.lnew(I:#[h])(hv:Vals ys its)(hz:ys.length<=sizeLine) :
  Inv X pins σ (upd H s.heap.objs.size (.lst ys)) { s with heap:=s.heap.push { cls:=.type "list",data:=.seq its.toArray },toks:=t' } :=
 I.laid (fun _ _ q=>#[W,_,q]) (zyc _) ⟨hz,its,0,hv,Heap.get?_push_size _ rfl⟩
theorem Inv.fresh(I:#[h]):H s.heap.objs.size=none:=I.hok.fresh (zyc _)
theorem Inv.lstM(I:#[h])(hH:#[w,H,l,xs]):xs.length<=sizeLine/\∃ (its:List Value) (n:Nat),Vals xs its/\xs.length=its.length/\#[J,l]=some { cls:=.type "list",data:=.seq its.toArray n }:=by
 obtain⟨z,its,n,r,e⟩:=I.hok l _ hH;exact⟨z,its,n,r,r.length,e⟩
end
section
variable{X:Cx}
inductive zjo(x:V)(vs:#[a])(H:Hp)(Q:VK):Prop where
 | mk(l)(xs)(y)(_:x=.ref l)(_:vs=[y])(_:#[w,H,l,xs])(_:xs.length<sizeLine)(_:Q .non (upd H l (.lst (xs++[y]))))
theorem zfj:MtM X "list.append" zjo:=by
 intro pins s σ H x vs v us Q I rx rv h;obtain⟨l,xs,y,rfl,rfl,hH,hz,q⟩:=h;cases rx;obtain⟨u,rfl,ru⟩:=rv.one;obtain⟨z,its,n,r,hl,e⟩:=I.lstM hH;refine call_meets F.slot_list_append ⟨_,e,rfl⟩ F.entry_list_append (F.args_list_append_2 _ _) (PySem.list_append l its.toArray n u (by rw[zyj];omega)) ⟨e,?_⟩;refine⟨.non,_,I.lset (its':=its++[u]) hH e (by simp) (r.append (.cons ru .nil)) ?_,rfl,q⟩;rw[zx4,List.length_singleton];omega
inductive zn2(x:V)(vs:#[a])(H:Hp)(Q:VK):Prop where
 | mk(l)(xs)(y)(_:x=.ref l)(_:vs=[])(_:#[w,H,l,xs])(_:xs[xs.length-1]?=some y)(_:Q y (upd H l (.lst xs.dropLast)))
theorem zll:MtM X "list.pop" zn2:=by
 intro pins s σ H x vs v us Q I rx rv h;obtain⟨l,xs,y,rfl,rfl,hH,hy,q⟩:=h;cases rx;have hus:=rv.zero;subst hus;obtain⟨z,its,n,r,hl,e⟩:=I.lstM hH;obtain⟨u,hu,ru⟩:=r.get hy;have hy':its.toArray[its.toArray.size-1]?=some u:=by
  show its.toArray[its.length-1]?=some u;rw[<- Array.getElem?_toList,<- hl];exact hu
 refine call_meets F.slot_list_pop ⟨_,e,rfl⟩ F.entry_list_pop (F.args_list_pop_1 _) (MeetsSeq.list_pop_last l its.toArray n u hy' (by rw[zyj];omega)) ⟨e,?_⟩;refine⟨y,_,I.lset (its':=its.dropLast) hH e ?_ r.dropLast ?_,ru,q⟩
 ·show its.toArray.eraseIdxIfInBounds (its.toArray.size-1)=its.dropLast.toArray;rw[zyj,List.eraseIdxIfInBounds_toArray,zcs]
 ·rw[List.length_dropLast];omega
inductive zhk(x:V)(vs:#[a])(H:Hp)(Q:VK):Prop where
 | mk(l)(xs)(_:x=.ref l)(_:vs=[])(_:#[w,H,l,xs])(_:Q .non (upd H l (.lst xs.reverse)))
theorem zct:MtM X "list.reverse" zhk:=by
 intro pins s σ H x vs v us Q I rx rv h;obtain⟨l,xs,rfl,rfl,hH,q⟩:=h;cases rx;have hus:=rv.zero;subst hus;obtain⟨z,its,n,r,hl,e⟩:=I.lstM hH;refine call_meets F.slot_list_reverse ⟨_,e,rfl⟩ F.entry_list_reverse (F.args_list_reverse_1 _) (AutoSeq1.list_reverse_list_0 l its.toArray n (by rw[zyj];omega)) ⟨e,?_⟩;refine⟨.non,_,I.lset (its':=its.reverse) hH e (by simp) r.reverse ?_,rfl,q⟩;rw[List.length_reverse];omega
inductive zn3(x:V)(y:V)(H:Hp)(Q:VK):Prop where
 | mk(l)(b)(xs)(zs)(_:x=.ref l)(_:y=.ref b)(_:#[w,H,l,xs])(_:#[w,H,b,zs])(_:xs.length+zs.length<=sizeLine)(_:∀ p,H p=none->Q (.ref p) (upd H p (.lst (xs++zs))))
theorem Kt:OpR X (binaryOp .Add) zn3:=by
 intro pins s σ H x y v u Q I rx ry h;obtain⟨l,b,xs,zs,rfl,rfl,hH,hB,hz,q⟩:=h;cases rx;cases ry;obtain⟨z,its,n,r,hl,e⟩:=I.lstM hH;obtain⟨z2,its2,n2,r2,hl2,e2⟩:=I.lstM hB;refine PySem.P.add_list e e2 ?_ (by rw[zyj,zyj];omega);have ea:its.toArray++its2.toArray=(its++its2).toArray:=by simp
 rw[ea];exact⟨.ref _,_,I.lnew (t':=s.toks) (r.append r2) (by rw[zx4];omega),rfl,q _ I.fresh⟩
end
end L2
namespace Att
open PySem PySem.W PySem.Calls PyProof.Rows
theorem Iv:∀ (ns:List Int) (vs:List Value),WellAll P h vs (ns.map WData.int)->IntsAre vs ns:=by
 intro ns
 induction ns with
 | nil =>
   intro vs w;rw[List.map_nil] at w;cases w;exact .nil
 | cons n ns ih =>
   intro vs w;rw[zyf] at w;cases w with
   | cons a b =>
     cases a;exact .cons _ _ (ih _ b)
theorem zfk{l:OpenLaw}{n:Nat}(hn:l.most=some n){P:Params}{h:Heap}{args:List WData}{vals:List Value}
  (hpre:l.row.toRowW.claim.pre args=true) (hwl:WellAll P h vals args) :
  ∃ a vs ns,vals=[Value.ref a]/\args=[WData.list (ns.map WData.int)]/\h.get? a=some { cls:=.type "list",data:=.seq vs.toArray }/\IntsAre vs ns/\ns.length<=n:=by
 have hsh:WShape.hasAll [] args [.list .int]=true:=(pre_splitW hpre).1;have hc:l.pre.holds [] { args:=args }=true:=(pre_splitW hpre).2;obtain⟨d,r,rfl,h1,h2⟩:=hasAllW_cons hsh;obtain rfl:=hasAllW_nil h2;obtain⟨xs,rfl,h3⟩:=hasW_list h1;obtain⟨ns,rfl⟩:=items_int h3;have hlen:ns.length<=n:=by
  unfold OpenLaw.pre at hc;have h4:(WTm.not (.lt (.lit (.int (n:Int))) (.len (.arg 0)))).holds [] { args:=[.list (ns.map .int)] }=true:=by
   have h4:=(holds_andW hc).1;rw[hn] at h4;exact h4
  have h5:=condW_of h4 (w_not (w_lt w_lit (w_len_list (w_arg rfl))));rw[zx1] at h5;refine Nat.le_of_not_lt fun q=>?_;have q':(n:Int)<((ns.length:Nat):Int):=by omega
  first
   | (rw[zx9 q'] at h5;exact absurd h5 ⋯)
   | (simp at h5;omega)
 cases hwl with
 | cons w1 w2 =>
   cases w2;cases w1 with
   | list ho hall=>exact⟨_,_,ns,rfl,rfl,ho,Iv ns _ hall,hlen⟩
theorem zfl(l:OpenLaw)(args:List WData):l.row.toRowW.claim.post args (.bool true) args=true :=
 postW_of (r:=l.row.toRowW) (X:=(true == true))
  (show WShape.has [] (.bool true) .bool=true by first|rfl|decide|simp[WShape.has,WShape.arms,WShape.armsAll])
  (show (WTm.eq .res (.lit (.bool true))).value [] { args:=args,res:=#[b,.bool,true],after:=args }=#[b,.bool,true == true] from w_eq_bool (w_res rfl) w_lit) rfl
theorem attach_call{l:OpenLaw}{n:Nat}{q:Program}{loose:List Str}{XP:#[M]->Heap->Prop}{YP:World->Heap->Prop}{d:DefRec}
  (hn:l.most=some n) (hdf:d.params.defaults=[])
  (call:∀ (w:World) (s₀ s₁:Shared) (mg mb:#[M]) (fa:Addr) (o:Obj) (pm cd doc:Value) (a:Addr) (vs:List Value) (ns:#[o]),
   Ground q loose [] XP w s₀ mg mb s₁.heap->YP w s₁.heap ->
   s₁.heap.get? fa=some o->o.data=.func (docDef d.name d.params d.body d.scope pm cd doc)->s₁.heap.CodeRec cd d.name->mg d.name=some (.ref fa) ->
   s₁.heap.get? a=some { cls:=.type "list",data:=.seq vs.toArray }->IntsAre vs ns->ns.length<=n->s₁.gens=#[] ->
   codeAny (model l.prog w) callerA (.call (.ref fa) ⟨[.ref a],[]⟩) (fun r s'=>r=.ok (.ret (.bool true))/\OldK s₁.heap s'.heap/\s'.os=s₁.os/\AllBare s'.gens) s₁) :
  WalkO q loose XP YP l.row.toRowW d [] (fun f vs=>PySem.call f vs):=by
 intro w s₀ s₁ mg mb G Y fa o pm cd doc dV kV ho hd hcd hD hmg hg args vals as hpre hlay hrd hwl hlo;obtain rfl:dV=.none:=Dflts.none hD hdf;obtain rfl:kV=.none:=Dflts.noKw hD;obtain⟨a,vs,ns,rfl,rfl,hobj,hints,hlen⟩:=zfk hn hpre hwl;refine enter_call (codeAny_mono (call w s₀ s₁ mg mb fa o pm cd doc a vs ns G Y ho (fd_plain hd) hcd hmg hobj hints hlen hg) fun r s' hq=>?_);obtain⟨rfl,h2,h3,h4⟩:=hq;exact⟨.inl ⟨.bool true,.bool true,[],rfl,fun _=>rfl,.bool true,zfl l _,fun _=>⟨List.Pairwise.nil,fun _ hm=>(nomatch hm)⟩⟩,h2,h3,h4⟩
section
variable{prog:Program}{w:World}{A:Around}{E:Value->Shared->Prop}{s:Shared}{K:Frag}
def noObjs(h:Heap):Heap:={ h with objs:=#[] }
theorem noObjs_get(h:Heap)(b:Addr):(noObjs h).get? b=none:=by
 cases e:(noObjs h).get? b with
 | none=>rfl
 | some o=>exact absurd (Heap.lt_size e) (zz5 _)
end
end Att
namespace L2
open PySem PySem.Spec PyProof.Rows
theorem Ku:∀ {vs:List Value} {ns:List Int},IntsAre vs ns->Vals (ns.map V.int) vs
 | _,_,.nil=>.nil
 | _,_,.cons n t h=>.cons #[y,t] (Ku h)
def zlm(H:Hp):Prop:=∀ b,H b=none\/∃ o xs,H b=some (.frz o (.lst xs))
theorem zhl{P:Program}{w:World}{K:Frag}{mg mb:#[M]}{CX:CXT}{k:Nat}{fa a:Addr}{fd:FuncData}{x:Str}{sp:Sp}{s₁:Shared}{vs:List Value}{ns:#[o]}
  (KX:K.In s₁.heap) (hns:s₁.heap.Ns mainGlobals mg) (hb:s₁.heap.Ns builtinsNs mb) (hbb:∀ x:Str,x≠"__name__"->mb x=bootBuiltins x) (hlim:s₁.heap.NoLimit) (hg:s₁.gens=#[])
  (ha:s₁.heap.get? a=some { cls:=.type "list",data:=.seq vs.toArray }) (hi:IntsAre vs ns) (hl:ns.length<=sizeLine) (hr:Vl k callerA)
  (F:∀ base:Heap,K.In base->base.Ns mainGlobals mg->FnOk P w K mg base CX k fa fd [x] sp) (hbind:∀ (s:Shared) (u:Value),BindsTo s fd ⟨[u],[]⟩ [(x,u)])
  (hsp:∀ H:Hp,zlm H->SqL K H a (ns.map V.int)->sp [.ref a] H (fun v _=>v=.bl true) fun _ _ _=>False)
  (hCX:∀ H e s',CX [] H s₁ (fun _ _ _=>False) e s'->False) :
  codeAny (model P w) callerA (.call (.ref fa) ⟨[.ref a],[]⟩) (fun r s'=>r=.ok (.ret (.bool true))/\OldK s₁.heap s'.heap/\s'.os=s₁.os/\AllBare s'.gens) s₁:=by
 have rv:=Ku hi;have lenV:=hi.length;have core:∀ H:Hp,zlm H->SqL K H a (ns.map V.int)->HOk P w H s₁.heap->(∀ b,H b≠none->b=a)->(H a≠none->K.lookup a=none) ->
   codeAny (model P w) callerA (.call (.ref fa) ⟨[.ref a],[]⟩) (fun r s'=>r=.ok (.ret (.bool true))/\OldK s₁.heap s'.heap/\s'.os=s₁.os/\AllBare s'.gens) s₁:=by
  intro H hO hS hok hA hK;have base_of:∀ {b:Addr} {o:Obj},s₁.heap.get? b=#[c]->H b=none->(Bv s₁.heap H).get? b=#[c]:=fun e n=>zgw e n;have noA:∀ {b:Addr} {o:Obj} {es:Array DictEntry} {ep:Nat},s₁.heap.get? b=#[c]->o.data=.dict es ep->H b=none:=fun {b o es ep} e d=>by
   cases q:H b with
   | none=>rfl
   | some u =>
     have e':b=a:=hA b (by rw[q];simp);subst e';rw[ha] at e;cases e;have d':Data.seq vs.toArray _=Data.dict es ep:=d;cases d'
  have nsK:∀ {b:Addr} {m:Str->Option Value},s₁.heap.Ns b m->(Bv s₁.heap H).Ns b m:=fun {b m} ⟨o,es,ep,e,d,r⟩=>⟨o,es,ep,base_of e (noA e d),d,r⟩
  have hKb:K.In (Bv s₁.heap H):=fun b o e=>base_of (KX b o e) (by
   cases q:H b with
   | none=>rfl
   | some u =>
     have e':b=a:=hA b (by rw[q];simp);subst e';rw[hK (by rw[q];simp)] at e;cases e)
  have hM:Mod K mg (Bv s₁.heap H):=⟨hKb,nsK hns,⟨mb,nsK hb,hbb⟩,let ⟨mc,h1,h2⟩:=hlim;⟨mc,nsK h1,h2⟩⟩;have e0:zcl P w K mg (Bv s₁.heap H) callerA [] s₁ H:=⟨rfl,hM,fun b o e=>zi5 e,Nat.le_of_eq (ze5 _ _),trivial,fun b hb=>absurd (show b∈([]:List Addr) from hb) (by simp),hok,.of_eq hg⟩;refine codeAny_mono ((F _ hKb (nsK hns)).run callerA [] s₁ H ⟨[.ref a],[]⟩ [.ref a] [.ref a] _ _ hr e0 (hbind s₁ (.ref a)) (.cons rfl .nil) (hsp H hO hS)) fun r s' h=>?_;cases r with
  | error e=>exact(hCX H e s' h).elim
  | ok fl =>
    cases fl with
    | next=>exact False.elim h
    | brk=>exact False.elim h
    | cont=>exact False.elim h
    | ret u =>
      obtain⟨v,H',os,bare,un,hok',r',q⟩:=h;have q':v=.bl true:=q;subst q';obtain rfl:u=Value.bool true:=r';refine⟨rfl,OldK.of_keep fun b o e=>?_,os,bare⟩;cases q:H b with
      | none=>exact un.keep b o e q (by intro z;exact absurd (show b∈([]:List Addr) from z) (by simp)) (by simp)
      | some u =>
        rcases hO b with z|⟨ob,xs,z⟩
        ·rw[q] at z;cases z
        ·have z2:=un.frzs b ob _ z;obtain⟨e1,_⟩:=hok b _ z;obtain⟨e2,_⟩:=hok' b _ z2;rw[e] at e1;cases e1;exact e2
 cases hk:K.lookup a with
 | some o =>
   have e:=KX a o hk;rw[ha] at e;cases e;refine core (fun _=>none) (fun _=>.inl rfl) (.inr ⟨_,vs.toArray,_,hk,rfl,rfl,rfl,by rw[zyj,lenV];exact hl,by simpa using rv⟩) (fun b u z=>by have z':(none:Option HO)=some u:=z;cases z') (fun b z=>absurd rfl z) fun z=>absurd rfl z
 | none =>
   refine core (fun b=>if b=a then some (.frz { cls:=.type "list",data:=.seq vs.toArray } (.lst (ns.map V.int))) else none) (fun b=>?_) (.inl (.inr ⟨{ cls:=.type "list",data:=.seq vs.toArray },if_pos rfl⟩)) (fun b u z=>?_) (fun b z=>?_) fun _=>hk
   ·by_cases hb:b=a
    ·exact .inr ⟨_,_,if_pos hb⟩
    ·exact .inl (if_neg hb)
   ·by_cases hb:b=a
    ·have z':=(if_pos hb).symm.trans z;cases z';subst hb;exact⟨ha,by rw[zx1];exact hl,vs,_,rv,ha⟩
    ·have z':=(if_neg hb).symm.trans z;cases z'
   ·by_cases hb:b=a
    ·exact hb
    ·exact absurd (if_neg hb) z
theorem zjp{l:PySem.W.OpenLaw}{n k:Nat}{q:Program}{loose:List Str}{XP:#[M]->Heap->Prop}{YP:World->Heap->Prop}{d:DefRec}{K:Params->Frag}{CX:World->CXT}{sp:World->Sp}{x:Str}
  (hn:l.most=some n) (hn2:n<=sizeLine) (hdf:d.params.defaults=[]) (hr:Vl k callerA)
  (hY:∀ (w:World) (h:Heap),YP w h->(K w.params).In h)
  (F:∀ (w:World) (mg:#[M]) (fa:Addr) (h:Heap),(K w.params).In h->h.Ns mainGlobals mg->mg d.name=#[d,fa] ->
   ∃ fd:FuncData,(∀ (s:Shared) (u:Value),BindsTo s fd ⟨[u],[]⟩ [(x,u)]) /\
     ∀ base:Heap,(K w.params).In base->base.Ns mainGlobals mg->FnOk l.prog w (K w.params) mg base (CX w) k fa fd [x] (sp w))
  (hsp:∀ (w:World) (H:Hp) (a:Addr) (ns:#[o]),ns.length<=n->zlm H->SqL (K w.params) H a (ns.map V.int)->sp w [.ref a] H (fun v _=>v=.bl true) fun _ _ _=>False)
  (hCX:∀ (w:World) (H:Hp) (s:Shared) (e:Value) (s':Shared),CX w [] H s (fun _ _ _=>False) e s'->False) :
  PySem.W.WalkO q loose XP YP l.row.toRowW d [] (fun f vs=>PySem.call f vs):=by
 refine Att.attach_call hn hdf fun w s₀ s₁ mg mb fa o pm cd doc a vs ns G Y ho hd hcd hmg hobj hints hlen hg=>?_;have KX:=hY w _ Y;obtain⟨fd,hb,hF⟩:=F w mg fa _ KX G.T.g hmg;exact zhl KX G.T.g G.T.b G.T.builtins G.T.nolimit hg hobj hints (zyg hlen hn2) hr hF hb (fun H hO hS=>hsp w H a ns hlen hO hS) fun H e s'=>hCX w H s₁ e s'
def Z1(s:Stmt)(j:Nat):Stmt:=match s with
 | .ClassDef _ _ _ body _ _ _ _ _ _ _=>body.getD j (.Pass ⟨0,0,0,0⟩)
 | _=>.Pass ⟨0,0,0,0⟩
def Sy(s:Stmt):Arguments:=match s with
 | .FunctionDef _ a _ _ _ _ _ _ _ _=>a
 | _=>{ posonlyargs:=[],args:=[],vararg:=none,kwonlyargs:=[],kw_defaults:=[],kwarg:=none,defaults:=[] }
def Zw(s:Stmt):List Stmt:=match s with
 | .FunctionDef _ _ b _ _ _ _ _ _ _=>b
 | _=>[]
def Zg(s:Stmt):Scope:=match s with
 | .FunctionDef _ _ _ _ _ _ sc _ _ _=>sc
 | _=>{ kind:=.function,names:=[],isGenerator:=false,isCoroutine:=false }
abbrev E0:XK:=fun _ _ _=>False
structure Fun(K:Frag)(x qual:Str)(st:Stmt)(f:Addr)(fd:FuncData):Prop where
 ex:∃ (oc:Value) (od:Option Addr) (kV doc pm:Value) (an:Option Addr) (cdv ct:Value) (osl:Array (Option Value)),
  fd=PySem.W.fnOf x qual (Sy st) (Zw st) (Zg st) .none kV doc pm an cdv ct/\K.lookup f=some ⟨oc,od,.func fd,osl⟩/\PySem.W.codeIn K cdv qual=true
 kp:PySem.W.keepIn K (.ref f)=true
section
variable{P:Program}{w:World}{K:Frag}{mg:#[M]}{base:Heap}
theorem Fun.binds{x qual:Str}{st:Stmt}{f:Addr}{fd:FuncData}{ps:List Str}(F:#[g,x,qual,st])
  (h:∀ (kV doc pm:Value) (an:Option Addr) (cdv ct:Value) (us:List Value),us.length=ps.length->bindArgs (PySem.W.fnOf x qual (Sy st) (Zw st) (Zg st) .none kV doc pm an cdv ct) ⟨us,[]⟩=pure (ps.zip us)):Rx K fd ps []:=by
 obtain⟨oc,od,kV,doc,pm,an,cdv,ct,osl,rfl,lk,hcd⟩:=F.ex;exact .all (h kV doc pm an cdv ct)
theorem Qi{x qual:Str}{st:Stmt}{f:Addr}{oc:Value}{od an:Option Addr}{osl:Array (Option Value)}{kV doc pm cdv ct:Value}(l:K.lookup f=some ⟨oc,od,.func (PySem.W.fnOf x qual (Sy st) (Zw st) (Zg st) .none kV doc pm an cdv ct),osl⟩)
  (c:PySem.W.codeIn K cdv qual=true) (k:PySem.W.keepIn K (.ref f)=true):Fun K x qual st f (PySem.W.fnOf x qual (Sy st) (Zw st) (Zg st) .none kV doc pm an cdv ct):=⟨⟨oc,od,kV,doc,pm,an,cdv,ct,osl,rfl,l,c⟩,k⟩
end
theorem We(hr:Vl k A):A.units+1<cLine:=zzq (Nat.add_le_add_left (by decide:1<=64) _) hr.units
theorem Up(h:n<=1000):n<sizeLine:=zzq h ⋯
section
variable{X:Cx}
theorem pv(i:Nat)(hN:X.N[i]?=some x:=by rfl)(hv:Vis X.env.scope x:=by first|exact Or.inl rfl|exact Or.inr (Or.inl rfl)|exact Or.inr (Or.inr rfl))(hd:(x == ("__debug__":Str))=false:=by decide)
  (hcd:(x == ("__classdict__":Str))=false:=by decide):PE X (.Name x pos) (Nh i):=zkt hN hv hd hcd
theorem zfm:V2 X (.builtin "len") (fun xs H Q=>∃ a kvs,xs=[V.ref a]/\H a=#[b,.dK,kvs]/\Q (.int kvs.length) H):=by
 intro pins s σ H xs us Q I r h;obtain⟨a,kvs,rfl,ha,q⟩:=h;obtain⟨u,rfl,ru⟩:=Pc r;cases ru;exact zm2 I (.inl ha) fun t s' I'=>⟨.int kvs.length,H,I',#[y,t],q⟩
end
theorem iteF{A B:Prop}(h:B):if false=true then A else B:=by
 rw[if_neg zyo];exact h
theorem iteT{A B:Prop}(h:A):if true=true then A else B:=by
 rw[if_pos rfl];exact h
theorem Du{c A B:Prop}[Decidable c](h1:c->A)(h2:¬ c->B):if c then A else B:=by
 by_cases h:c
 ·rw[if_pos h];exact h1 h
 ·rw[if_neg h];exact h2 h
def Same(H H':Hp):Prop:=∀ b o,H b=#[c]->H' b=#[c]
theorem Same.refl(H:Hp):Same H H:=fun _ _ h=>h
theorem Same.trans(a:Same H H1)(b:Same H1 H2):Same H H2:=fun c o h=>b c o (a c o h)
theorem Same.free(e:#[p])(h:H' l=Option.none):H l=Option.none:=by
 cases q:H l with
 | none=>rfl
 | some o =>
   rw[e l o q] at h;cases h
theorem Same.seq{K:Frag}{H H':Hp}{a:Addr}{xs:#[a]}(e:#[p])(h:SqL K H a xs):SqL K H' a xs:=by
 rcases h with (h|⟨o,h⟩)|h
 ·exact .inl (.inl (e _ _ h))
 ·exact .inl (.inr ⟨o,e _ _ h⟩)
 ·exact .inr h
section
variable{κ:Type}[DecidableEq κ]
theorem B1:∀ {l:List κ} {k:κ},l.Nodup->¬ k∈l->(l++[k]).Nodup
 | [],k,_,_=>by simp
 | a :: r,k,h,hk=>by
   obtain⟨h1,h2⟩:=zys.mp h;show (a :: (r++[k])).Nodup;refine zys.mpr ⟨fun m=>?_,B1 h2 fun m=>hk (zx8.mpr (Or.inr m))⟩;rcases zyd.mp m with q|q
   ·exact h1 q
   ·exact hk (zx8.mpr (Or.inl (zx6.mp q).symm))
theorem zfn{p:κ×V}{r:List (κ×V)}{k:κ}(e:p.1=k):Wi (p :: r) k=Wi r k:=by
 unfold Wi;rw[zzf,if_neg (by simp[e])]
theorem zfo{p:κ×V}{r:List (κ×V)}{k:κ}(e:¬ p.1=k):Wi (p :: r) k=p :: Wi r k:=by
 unfold Wi;rw[zzf,if_pos (by simp[e])]
end
section
variable{X:Cx}{pins:#[v]}{σ:List (Option V)}{H H':Hp}{s:Shared}{h':Heap}
theorem Inv.stepN{g':Array GenState}{t':Nat}{d':Drawn}{ch:#[t]}(I:#[h])
  (hch:#[au,b])
  (keep:∀ b o,b≠X.env.locals->b∉X.fs->b∉ch->#[J,b]=#[c]->H b=none->h'.get? b=#[c])
  (slot:∀ b o,b≠X.env.locals->b∈X.fs->b∉ch->#[J,b]=#[c]->H b=none->∃ sl,h'.get? b=some { o with slots:=sl }) (free:∀ b o,b∉ch->#[J,b]=#[c]->H b=none->H' b=none)
  (there:∀ b o,b∉ch->#[J,b]=#[c]->∃ o',h'.get? b=some o')
  (tups:∀ b xs,H b=#[z,xs]->H' b=#[z,xs]) (frzs:∀ b o u,H b=some (.frz o u)->H' b=some (.frz o u)) (tbls:∀ b ps,H b=#[b,.tbl,ps]->∃ more,H' b=#[b,.tbl,ps++more])
  (ns:∀ m,s.heap.Ns X.env.locals m->h'.Ns X.env.locals m) (hok:HOk X.prog X.w H' h') (hg:AllBare g') :
  Inv X pins σ H' { s with heap:=h',gens:=g',drawn:=d',toks:=t' }:=by
 have neL:∀ b o,X.s₀.heap.get? b=#[c]->b≠X.env.locals:=fun b o e=>zyu (zyn (Heap.lt_size e) I.ok.above);have neC:∀ b o,X.s₀.heap.get? b=#[c]->b∉X.ex->b∉ch:=fun b o e hx hb=>by
  rcases(hch b hb).1 with z|z
  ·exact hx z
  ·rw[z] at e;cases e
 have cellK:∀ x c,#[P,x]=some c->∀ v,s.heap.IsCell c v->h'.IsCell c v:=fun x c e v ⟨o,ho,hd⟩=>by
  have nch:c∉ch:=fun z=>(hch c z).2.2.1 x c e rfl;by_cases hc:c∈X.fs
  ·obtain⟨sl,q⟩:=slot c o (I.cne x c e) hc nch ho (I.freeC x c e);exact⟨_,q,hd⟩
  ·exact⟨o,keep c o (I.cne x c e) hc nch ho (I.freeC x c e),hd⟩
 refine⟨I.ok,I.os,hg,⟨fun b o e n hb hx=>?_,fun b o e n hb hx=>?_,fun b o e n hx=>?_,fun b o e hx=>?_,fun b xs e=>tups b xs (I.base.tups b xs e),fun b o xs e=>frzs b o xs (I.base.frzs b o xs e),fun b ps e=>?_⟩,?_,fun x c e=>?_,?_,fun x c e=>?_,fun p hp=>?_,hok,I.len⟩
 ·exact keep b o (neL b o e) hb (neC b o e hx) (I.base.keep b o e n hb hx) (I.base.free b o e n hx)
 ·obtain⟨sl,e1⟩:=I.base.slot b o e n hb hx;obtain⟨sl',e2⟩:=slot b _ (neL b o e) hb (neC b o e hx) e1 (I.base.free b o e n hx);exact⟨sl',e2⟩
 ·obtain⟨o',e1⟩:=I.base.there b o e hx;exact free b o' (neC b o e hx) e1 (I.base.free b o e n hx)
 ·obtain⟨o',e1⟩:=I.base.there b o e hx;exact there b o' (neC b o e hx) e1
 ·obtain⟨m1,e1⟩:=I.base.tbls b ps e;obtain⟨m2,e2⟩:=tbls b _ e1;exact⟨m1++m2,by rw[e2,Array.append_assoc]⟩
 ·obtain⟨m,hn,hl⟩:=I.loc;refine⟨m,ns m hn,fun i x v e1 e2 e3=>?_⟩;obtain⟨u,r,l⟩:=hl i x v e1 e2 e3;refine⟨u,r,?_⟩;rcases l with l|⟨k,c,e,z⟩
  ·exact .inl l
  ·exact .inr ⟨k,c,e,cellK x c e _ z⟩
 ·obtain⟨v,z⟩:=I.cell x c e;exact⟨v,cellK x c e v z⟩
 ·obtain⟨m,⟨o,_,_,ho,_⟩,_⟩:=I.loc;exact free _ o (fun z=>(hch _ z).2.1 rfl) ho I.free
 ·obtain⟨v,o,ho,hd⟩:=I.cell x c e;exact free c o (fun z=>(hch c z).2.2.1 x c e rfl) ho (I.freeC x c e)
 ·obtain⟨e,n,ne,nf,d⟩:=I.pin p hp;have nch:p.1∉ch:=fun z=>(hch p.1 z).2.2.2 p hp rfl;exact⟨keep p.1 p.2 ne nf nch e n,free p.1 p.2 nch e n,ne,nf,d⟩
theorem Inv.callN{g':Array GenState}{t':Nat}{d':Drawn}{ch:#[t]}(I:#[h])(u:Un (frs X.stack) ch H H' s.heap h')(hok:HOk X.prog X.w H' h')(hg:AllBare g')
  (hch:#[au,b]) :
  Inv X pins σ H' { s with heap:=h',gens:=g',drawn:=d',toks:=t' }:=by
 obtain⟨m,⟨o,es,ep,ho,r⟩,_⟩:=id I.loc;obtain⟨sl,hL⟩:=u.any ho I.free fun z=>(hch _ z).2.1 rfl;exact I.stepN (ch:=ch) hch (fun b o hL hb hc e n=>u.keep b o e n (fun z=>(zx8.mp (I.stkSub b z)).elim hL hb) hc) (fun b o _ _ hc e n=>u.any e n hc) (fun b o hc e n=>u.free b o e n hc) (fun b o hc e=>u.there b o e hc) u.tups u.frzs u.tbls (fun m' hm=>by
  obtain⟨o',es',ep',ho',r'⟩:=hm;rw[ho] at ho';cases ho';exact⟨_,es',ep',hL,r'⟩) hok hg
theorem Inv.callN'(I:#[h])(ho:s'.os=s.os)(u:Un (frs X.stack) ch H H' s.heap s'.heap)(hok:HOk X.prog X.w H' s'.heap)(hg:AllBare s'.gens)
  (hch:#[au,b]):#[G,H',s']:=by
 obtain⟨h',g',d',t',o'⟩:=s';have e:o'=s.os:=ho;subst e;exact I.callN (g':=g') (t':=t') (d':=d') u hok hg hch
end
section
variable{P:Program}{w:World}{H H':Hp}{h h' g:Heap}{a:Addr}{o:HO}
theorem Xd.there(x:Xd P w H h a o):∃ ob,h.get? a=some ob:=by
 cases o with
 | lst xs=>obtain⟨_,_,_,_,e⟩:=x;exact⟨_,e⟩
 | tup xs=>obtain⟨_,_,_,ob,e,_⟩:=x;exact⟨_,e⟩
 | dK kvs=>obtain⟨_,_,_,_,o,_,_,e,_⟩:=x;exact⟨_,e⟩
 | dT kvs=>obtain⟨_,_,_,_,o,_,_,e,_⟩:=x;exact⟨_,e⟩
 | set S n=>obtain⟨o,_,_,_,e,_⟩:=x;exact⟨_,e⟩
 | ins C dx fs=>obtain⟨_,_,_,e,_⟩:=x;exact⟨_,e⟩
 | own y=>obtain⟨_,e⟩:=x;exact⟨_,e⟩
 | xd fs=>obtain⟨_,⟨_,_,_,e,_⟩,_⟩:=x;exact⟨_,e⟩
 | rng lo hi=>obtain⟨_,_,_,e⟩:=x;exact⟨_,e⟩
 | frz ob u=>obtain⟨e,_⟩:=x;exact⟨_,e⟩
 | tbl ps=>exact⟨_,show h.get? a=some _ from x⟩
 | met f y=>exact⟨_,show h.get? a=some _ from x⟩
 | ext φ=>obtain⟨_,⟨_,e⟩,_⟩:=x;exact⟨_,e⟩
theorem HOk.none_of(x:HOk P w H h)(e:h.get? a=none):H a=none:=by
 cases q:H a with
 | none=>rfl
 | some u =>
   obtain⟨_,z⟩:=(x a u q).there;rw[e] at z;cases z
theorem zaq(e:(PySem.W.hideAll h as).get? a=none):h.get? a=none\/a∈as:=by
 by_cases m:a∈as
 ·exact .inr m
 ·cases q:h.get? a with
  | none=>exact .inl rfl
  | some o=>rw[PySem.W.hideAll_get as q m] at e;cases e
end
structure Fly(g:Heap)(H:Hp)(h:Heap)(e T:Addr)(cls:Value):Prop where
 ex:∃ oe vs oT ts,h.get? e=some oe/\oe.cls=cls/\oe.data=.fields vs/\vs[1]?=#[d,T]/\T≠e/\h.get? T=some oT/\oT.data=.fields ts/\ts[3]?=some .none
 newE:g.get? e=none
 newT:g.get? T=none
 freeE:H e=none
 freeT:H T=none
def CX1(P:Program)(w:World):CXT:=fun outer H s E e s'=>∃ a T cls H',e=.ref a/\s'.os=s.os/\AllBare s'.gens/\Un (frs outer) [] H H' s.heap s'.heap/\HOk P w H' s'.heap/\Fly s.heap H' s'.heap a T cls/\E cls none H'
section
variable{X:Cx}{pins:#[v]}{σ:St}{H H':Hp}{s s':Shared}{h':Heap}{e T:Addr}{cls:Value}
structure Tw(X:Cx)(ch:#[t])(h h':Heap):Prop where
 keep:∀ b o,h.get? b=#[c]->b∉ch->b∉frs X.stack->h'.get? b=#[c]
 slot:∀ b o,h.get? b=#[c]->b∉ch->b∈frs X.stack->∃ sl,h'.get? b=some { o with slots:=sl }
theorem Tw.of(I:#[h])(st:(PySem.W.hideAll s.heap (as++frs X.stack)).StaysIn h')(up:s.heap.UpToSlots h'):Tw X as s.heap h' where
 keep:=fun b o q n1 n2=>st b o (PySem.W.hideAll_get _ q (by simp[n1,n2]))
 slot:=fun b o q _ m=>by
  obtain⟨_,o',ho,nf⟩:=I.stack.mem m;rw[q] at ho;cases ho;exact up b o q nf
theorem Tw.un(I:#[h])(t:Tw X ch s.heap h')(hch:∀ b∈ch,H b=none):Un (frs X.stack) ch H H s.heap h' where
 keep:=fun b o q n hf hc=>t.keep b o q hc hf
 slot:=fun b o q n hf hc=>t.slot b o q hc hf
 free:=fun _ _ _ n _=>n
 there:=fun b o q hc=>by
  by_cases m:b∈frs X.stack
  ·obtain⟨_,z⟩:=t.slot b o q hc m;exact⟨_,z⟩
  ·exact⟨o,t.keep b o q hc m⟩
 tups:=fun _ _ q=>q
 frzs:=fun _ _ _ q=>q
 tbls:=fun b ps q=>⟨#[],by rw[q];simp⟩
theorem Tw.hok(I:#[h])(t:Tw X ch s.heap h')(hch:∀ b∈ch,H b=none):HOk X.prog X.w H h':=fun b u q=>by
 have tr:∀ c v,H c=some v->c∉ch/\c∉frs X.stack:=fun c v z=>⟨(fun m=>by rw[hch c m] at z;cases z),(fun m=>by rw[I.stkFree c m] at z;cases z)⟩
 refine(I.hok b u q).stay (fun c v hc r=>?_) (fun _ z=>z) fun _ _ z=>z;rcases hc with z|z
 ·subst z;exact t.keep c v r (tr c u q).1 (tr c u q).2
 ·exact t.keep c v r (tr c _ z).1 (tr c _ z).2
theorem Inv.newRec(I:#[h])(hx:X.ex=[])(n:#[J,b]=none):(b∈X.ex\/X.s₀.heap.get? b=none)/\b≠X.env.locals/\(∀ x c,X.env.cells.lookup x=some c->c≠b)/\∀ p∈X.pn++pins,p.1≠b:=by
 refine⟨.inr ?_,?_,?_,?_⟩
 ·cases q:X.s₀.heap.get? b with
  | none=>rfl
  | some o =>
    obtain⟨_,z⟩:=I.base.there b o q (by rw[hx];simp);rw[n] at z;cases z
 ·rintro rfl;obtain⟨m,⟨o,_,_,ho,_⟩,_⟩:=I.loc;rw[n] at ho;cases ho
 ·rintro x c hc rfl;obtain⟨v,o,ho,_⟩:=I.cell x c hc;rw[n] at ho;cases ho
 ·rintro p hp rfl;obtain⟨z,_⟩:=I.pin p hp;rw[n] at z;cases z
theorem Inv.raised(I:#[h])(ho:s'.os=s.os)(hg:AllBare s'.gens)(u:Un (frs X.stack) [] H H' s.heap s'.heap)(hok:HOk X.prog X.w H' s'.heap):#[G,H',s'] :=
 I.call' ho u hok hg (fun _ z=>nomatch z)
theorem Fly.flying(J:#[h])(hl:s.heap.FunFrames X.base l)(hsub:∀ b∈frs l,b∈frs X.stack)(F:Fly g H s.heap e T cls) :
  ∃ a0,Heap.FlyingW (PySem.W.hideAll s.heap ([e,T]++frs X.stack)) l e cls a0 s.heap:=by
 obtain⟨oe,vs,oT,ts,e1,e2,e3,e4,e5,e6,e7,e8⟩:=F.ex;have sz:0<vs.size:=zzq (zyv _) (Array.getElem?_eq_some_iff.mp e4).1;refine⟨vs[0],fun b o q=>PySem.W.of_hideAll _ q,PySem.W.hideAll_none _ (by simp),PySem.W.funFrames_hide hl fun env he a ha=>?_,oe,vs,T,oT,ts,e1,⟨e2,?_⟩,e3,e4,PySem.W.hideAll_none _ (by simp),e5,e6,e7,e8⟩
 ·have:a∈frs l:=zzv.mpr ⟨env,he,ha⟩;simp[hsub a this]
 ·exact Array.getElem?_eq_getElem sz
theorem Fly.again(J:#[h])(F:Fly g H s.heap e T cls)(hg:∀ b,#[J,b]=none->g.get? b=none)
  (up:s.heap.UpToSlots h') (st:(PySem.W.hideAll s.heap ([e,T]++frs X.stack)).StaysIn h') (tr:h'.TracedW (PySem.W.hideAll s.heap ([e,T]++frs X.stack)) e cls a0):∃ T',Fly g H h' e T' cls:=by
 obtain⟨oe,vs,T',oT,ts,f1,⟨f2,_⟩,f3,f4,f5,f6,f7,f8,f9⟩:=tr;refine⟨T',⟨oe,vs,oT,ts,f1,f2,f3,f4,f6,f7,f8,f9⟩,F.newE,?_,F.freeE,?_⟩
 all_goals
  rcases zaq f5 with z|z
  ·first
    | exact hg _ z
    | exact J.hok.none_of z
  ·simp only[zyd,zx8,zy4,or_false] at z;rcases z with (z|z)|z
   ·exact absurd z f6
   ·subst z
    first
     | exact F.newT
     | exact F.freeT
   ·obtain⟨_,o,ho,nf⟩:=J.stack.mem z;obtain⟨sl,q⟩:=up T' o ho nf;rw[f7] at q;cases q;exact absurd f8 (nf _)
end
section
variable{P:Program}{w:World}{K:Frag}{mg:#[M]}{base:Heap}{N:List Str}{qual:Str}{scope:Scope}{f:Addr}{cd:Value}{A:Around}{outer:List Env}{s0:Shared}{H0:Hp}{E:XK}
 {pins:#[v]} {σ:St} {H H':Hp} {s s':Shared} {h':Heap} {e T:Addr} {cls:Value}
theorem zar(hx:X.ex=[])(J:#[h])(hst:X.stack=X.env :: X.outer)(hf:X.env.frame=some X.env.locals)(t:Tw X ch s.heap h')(hch:∀ b∈ch,X.s₀.heap.get? b=none) :
  Un X.fs [] X.H₀ H X.s₀.heap h':=by
 have nb:∀ b o,X.s₀.heap.get? b=#[c]->b∉ch:=fun b o q m=>by rw[hch b m] at q;cases q
 have mem:∀ b,b∈frs X.stack↔b=X.env.locals\/b∈X.fs:=fun b=>by
  unfold Cx.fs frs;rw[hst,zzz,hf];exact zx8
 have neL:∀ b o,X.s₀.heap.get? b=#[c]->b≠X.env.locals:=fun b o q=>zyu (zyn (Heap.lt_size q) J.ok.above);have nx:∀ b:Addr,b∉X.ex:=fun b=>by rw[hx];simp
 refine⟨fun b o q n hb _=>?_,fun b o q n hb _=>?_,fun b o q n _=>J.base.free b o q n (nx b),fun b o q _=>?_,J.base.tups,J.base.frzs,J.base.tbls⟩
 ·refine t.keep b o (J.base.keep b o q n hb (nx b)) (nb b o q) fun m=>?_;exact((mem b).mp m).elim (neL b o q) hb
 ·obtain⟨sl,z⟩:=J.base.slot b o q n hb (nx b);obtain⟨sl',z'⟩:=t.slot b _ z (nb b o q) ((mem b).mpr (.inr hb));exact⟨sl',z'⟩
 ·obtain⟨o',z⟩:=J.base.there b o q (nx b);by_cases m:b∈frs X.stack
  ·obtain⟨_,z'⟩:=t.slot b o' z (nb b o q) m;exact⟨_,z'⟩
  ·exact⟨o',t.keep b o' z (nb b o q) m⟩
theorem Zi:Vh #[f] (cxOf #[f] P w K mg base N qual scope f cd A outer s0 H0 E) E:=by
 intro pins σ H s ev s' I h;obtain⟨a,T,cls,H',q0,ho,hg,u,hok,F,hE⟩:=h;subst q0;have J:=I.raised ho hg u hok;obtain⟨a0,hfl⟩:=F.flying J J.stack fun _ z=>z;refine wpAny_leaves_onW (base:=PySem.W.hideAll s'.heap ([a,T]++frs _)) J.ok.frames rfl hfl fun h2 hfl2 up=>?_;have old:∀ b,#[J,b]=none->s0.heap.get? b=none:=fun b n=>by
  cases q:s0.heap.get? b with
  | none=>rfl
  | some o =>
    obtain⟨_,z⟩:=I.base.there b o q (by show b∉([]:List Addr);simp);rw[n] at z;cases z
 have old2:∀ b,s'.heap.get? b=none->s0.heap.get? b=none:=fun b n=>by
  cases q:s0.heap.get? b with
  | none=>rfl
  | some o =>
    obtain⟨_,z⟩:=J.base.there b o q (by show b∉([]:List Addr);simp);rw[n] at z;cases z
 have t:=Tw.of (as:=[a,T]) J hfl2.1 up;have F0:Fly s0.heap H' s'.heap a T cls:=⟨F.ex,old _ F.newE,old _ F.newT,F.freeE,F.freeT⟩;obtain⟨T',F'⟩:=F0.again J old2 up hfl2.1 hfl2.2.2.2;refine⟨a,T',cls,H',rfl,J.os,J.bare,zar rfl J rfl rfl t ?_,t.hok J ?_,F',hE⟩
 ·intro b hb;rcases zx8.mp hb with rfl|hb
  ·exact F0.newE
  ·rcases zx8.mp hb with rfl|hb
   ·exact F0.newT
   ·cases hb
 ·intro b hb;rcases zx8.mp hb with rfl|hb
  ·exact F.freeE
  ·rcases zx8.mp hb with rfl|hb
   ·exact F.freeT
   ·cases hb
def zkk(X:Cx)(E:XK):Prop:=∀ (pins:List (Addr×Obj)) (σ:St) (H:Hp) (s:Shared) (h':Heap) (e C:Addr) (args:List Value),#[h]->Heap.MadeExcOf s.heap h' e (.ref C) args->#[D,C]->X.xe (.ref e) { s with heap:=h' }
theorem Xj:zkk (cxOf #[f] P w K mg base N qual scope f cd A outer s0 H0 E) E:=by
 intro pins σ H s h1 e C args I hm hE;refine wpAny_leaves_madeW (base:=PySem.W.hideAll s.heap ([]++frs _)) (h:=s.heap) I.ok.frames rfl (fun b o q=>PySem.W.of_hideAll _ q)
  (PySem.W.funFrames_hide I.stack fun env he a ha=>by
   have:a∈frs _:=zzv.mpr ⟨env,he,ha⟩
   simpa using this) hm fun h2 t hfl _ _ up=>?_
 have up2:s.heap.UpToSlots h2:=(Heap.UpToSlots.of_keeps hm.keeps).trans up;have tt:=Tw.of (as:=[]) I hfl.1 up2;have old2:∀ b,#[J,b]=none->s0.heap.get? b=none:=fun b n=>by
  cases q:s0.heap.get? b with
  | none=>rfl
  | some o =>
    obtain⟨_,z⟩:=I.base.there b o q (by show b∉([]:List Addr);simp);rw[n] at z;cases z
 obtain⟨oe,vs,T',oT,ts,f1,⟨f2,_⟩,f3,f4,f5,f6,f7,f8,f9⟩:=hfl.2.2.2;have nT:#[J,T']=none:=by
  rcases zaq f5 with z|z
  ·exact z
  ·have z':T'∈frs (cxOf (CX1 P w) P w K mg base N qual scope f cd A outer s0 H0 E).stack:=(zyd.mp z).resolve_left (by simp);obtain⟨_,o,ho,nf⟩:=I.stack.mem z';obtain⟨sl,q⟩:=up2 T' o ho nf;rw[f7] at q;cases q;exact absurd f8 (nf _)
 refine⟨e,T',.ref C,H,rfl,I.os,I.bare,zar rfl I rfl rfl tt (fun _ z=>nomatch z),tt.hok I (fun _ z=>nomatch z),⟨⟨oe,vs,oT,ts,f1,f2,f3,f4,f6,f7,f8,f9⟩,old2 _ hm.new,old2 _ nT,I.hok.none_of hm.new,I.hok.none_of nT⟩,hE⟩
end
structure Pr(K:Frag)(mg:#[M])(x:Str)(C:Addr):Prop where
 nm:mg x=#[b,.ref,C]
 ex:PySem.W.excIn K C [.type "ValueError",.type "Exception",.type "BaseException",.type "object"] "ValueError.__new__"=true
theorem Pr.own{K:Frag}{mg:#[M]}{x:Str}{C:Addr}{h:Heap}(c:Pr K mg x C)(X:K.In h):OwnCls x C [.type "ValueError",.type "Exception",.type "BaseException",.type "object"] "ValueError.__new__" mg h:=by
 refine⟨c.nm,?_⟩;have q:=c.ex;unfold PySem.W.excIn at q;split at q
 ·rename_i dd cd sl ho;split at q
  ·rename_i C' bm k0 k1 k2 k3 n k5 hm hs;simp only[zzn,beq_iff_eq,Bool.not_eq_true'] at q;obtain⟨⟨⟨⟨⟨rfl,rfl⟩,hdel⟩,ht⟩,hok⟩,hni⟩:=q;obtain⟨nm,bs,mro,ns,qn,hd,sn,sub,ab,col,del⟩:=cd;dsimp only at hm hdel hok hni;subst hm hdel;have hsl:sl=#[k0,k1,k2,k3,#[b,.builtin,"ValueError.__new__"],k5]:=by
    obtain⟨l⟩:=sl;simp only at hs;rw[hs]
   subst hsl;exact⟨bm,ns,nm,qn,bs,hd,sn,sub,ab,col,dd,k0,k1,k2,k3,k5,_,X _ _ ho,.of_isNs (PySem.W.isNs_of_in X hok),PySem.W.nsMap_none_of_in X hok hni,PySem.W.tail_of_in X ht⟩
  ·cases q
 ·cases q
inductive zjq(C:Addr)(E:XK)(vs:#[a])(H1:Hp):Prop where
 | mk(_:vs.length<=sizeLine)(_:E (.ref C) none H1)
def zln(C:Addr)(E:XK)(t:TA):TS:=fun _ σ H=>t σ H fun vs H1=>zjq C E vs H1
theorem Xk{X:Cx}{x:Str}{C:Addr}{E:XK}{e₀:Expr}{rest:List Expr}{t:TA}{np cpos pos:Pos}(hl:zkk X E)(hc:X.calm=true)(c:Pr X.K X.mg x C)(hg:Gl X x)(ha:PA X (e₀ :: rest) t)
  (he:starEach (e₀ :: rest) X.env=(false,#[B,e₀]) :: starEach rest X.env:=by rfl) (hplain:(backTo cpos (starEach rest X.env)).any (·.1)=false:=by rfl) (hd:(x == ("__debug__":Str))=false:=by decide) :
  PS X (.Raise (some (.Call (.Name x np) (e₀ :: rest) [] cpos)) none pos) (zln C E t):=by
 intro pins s σ H D I h;have O:=c.own I.mod.kin;obtain⟨tl,N,nm,q,bs,hdct,sn,sub,ab,col,dd,k0,k1,k2,k3,k5,mN,hC,hN,hni,T⟩:=O.obj;refine wpAny_Raise_call_subT (C:=C) (nm:=nm) (q:=q) (N:=N) (bs:=bs) (bm:=tl) (hdct:=hdct) (sn:=sn) (sub:=sub) (ab:=ab) (col:=col) (dd:=dd) (k0:=k0) (k1:=k1) (k2:=k2) (k3:=k3) (k5:=k5)
  PySem.F.excBase_ValueError (mN:=mN) (T.hasType (by rfl)) (I.ok.hd hc) (by rw[he];show (false||(backTo cpos (starEach rest X.env)).any (·.1))=false;rw[hplain];rfl) hni (O5 I hg c.nm ⟨rfl,?_⟩ hd)
 have hp:=ha cpos pins s σ H _ I h;rw[he] at hp ⊢;refine Calls.evalArgs_plain (wpAny_mono hp (fun us s2 h2=>?_) fun _ _ y=>y);obtain⟨vs,H1,I1,r,hlen,hE⟩:=h2;exact⟨rfl,by rw[<- r.length];exact hlen,I1.bk _ _ hC,hN.keeps I1.bk,T.keeps I1.bk,fun h' e hm=>hl _ _ _ _ _ _ _ _ I1 hm hE⟩
structure zhm(K:Frag)(CB:Addr):Prop where
 ty:PySem.W.typeIn K (.ref CB)=#[b,.type,"type"]
 cl:(PySem.W.clsIn K CB).isSome=true
 bx:PySem.W.mroIn K CB (.type "BaseException")=some true
theorem zas{K:Frag}{M:Model}{A:Around}{E:Value->Shared->Prop}{s:Shared}{e C CB:Addr}{b:Bool}{oe:Obj}{Q:Bool->Shared->Prop}(X:K.In s.heap)(c:zhm K CB)
  (he:s.heap.get? e=some oe) (hcls:oe.cls=.ref C) (hm:PySem.W.mroIn K C (.ref CB)=some b) (h:Q b s):wpAny M A (excMatches (.ref e) (.ref CB)) Q E s:=by
 obtain⟨hp,g,d,tk,os⟩:=s;have L1:=PySem.W.looks_typeIn (M:=M) X c.ty;have L2:=PySem.W.looks_mroIn (M:=M) X c.bx;have L3:=PySem.W.looks_mroIn (M:=M) X hm;have L0:PySem.W.Looks M hp (typeOf (.ref e)) (.ref C):=hcls▸(PySem.W.Looks.ld he).andThen .now;have L4:PySem.W.Looks M hp (isType (.ref CB)) true:=by
  have z:=c.cl;unfold PySem.W.clsIn at z;split at z
  ·rename_i c' d' cd' sl' ho;intro A' Q' E' s' k q;unfold isType loadHead;exact wpAny_bind (wpAny_loadPart (k _ _ (X _ _ ho)) (wpAny_pure q))
  ·cases z
 unfold excMatches isInstance isExcClass;refine wpAny_bind (wpAny_bind (L1.at (wpAny_of_eq tc_notTuple ?_)));simp only[zzj,if_false,List.forIn_cons,List.forIn_nil];refine wpAny_bind (wpAny_pure (wpAny_bind ?_));simp only[List.forIn_cons,List.forIn_nil];refine wpAny_bind (wpAny_bind (wpAny_bind (L4.at ?_)));simp only[if_true];refine L2.at ?_;simp only[Bool.not_true,zzj,if_false];refine wpAny_pure (wpAny_pure (wpAny_bind (L0.at (wpAny_bind (wpAny_bind (wpAny_bind (L3.at ?_)))))));cases b with
 | true=>simp only[if_true];exact wpAny_pure (wpAny_pure (wpAny_pure h))
 | false=>simp only[zzj,if_false];exact wpAny_pure (wpAny_pure (wpAny_pure h))
end L2
namespace L2
open PySem PySem.Spec PyProof.Rows PySem.W PySem.Calls PySem.Builtin PySem.Builtin.ObjectAttr PySem.Builtin.Getset_descriptor
def zm8(a:Addr)(cls:Value):HO:=.ext fun h=>∃ o vs,h.get? a=#[c]/\o.cls=cls/\o.data=.fields vs
structure zfp(K:Frag)(D:Addr):Prop where
 ga:findIn K (.ref D) "__getattribute__"=some #[b,.builtin,"BaseException.__getattribute__"]
 gk:#[ac,K,D,"__getattr__"]
 cl:(clsIn K D).isSome=true
 at_:findIn K (.ref D) "__class__"=some #[b,.builtin,"object.__class__"]
 gt:specialIn K (.builtin "object.__class__") "__get__"=some #[b,.builtin,"getset_descriptor.__get__"]
 tk:takesIn K (.builtin "object.__class__")=some true
 mo:mroIn K D (.type "object")=some true
 mx:mroIn K D (.type "BaseException")=some true
section
variable{prog:Program}{w:World}{A:Around}{E:Value->Shared->Prop}{s:Shared}{K:Frag}{x D:Addr}
theorem zhn(X:K.In h)(c:zfp K D):Looks M h (find (.ref x) (.ref D) "__class__") (.bind (.builtin "getset_descriptor.__get__") (.builtin "object.__class__")):=by
 have L1:=looks_findIn (M:=M) X c.at_;have L2:Looks M h (getOf #[b,.builtin,"object.__class__"]) #[b,.builtin,"getset_descriptor.__get__"]:=looks_specialIn X c.gt;have L3:=looks_takesIn (M:=M) X c.tk;exact L1.andThen (L2.andThen ((show Looks M h (dataDescriptor? (some (.builtin "object.__class__")) (some (.builtin "getset_descriptor.__get__"))) (some (.builtin "getset_descriptor.__get__",.builtin "object.__class__")) from L3.andThen .now).andThen (Looks.tag .now)))
theorem zcu(X:K.In s.heap)(hx:s.heap.get? x=some o)(hc:o.cls=.ref D)(c:zfp K D)(q:R (.ok (.ret (.ref D))) s) :
  codeAny (model prog w) A (.call (.builtin "getset_descriptor.__get__") ⟨[.builtin "object.__class__",.ref x,.ref D],[]⟩) R s:=by
 obtain⟨hh,g,d,t,os⟩:=s;have L0:Looks (model prog w) hh (typeOf (.ref x)) (.ref D):=hc▸(Looks.ld hx).andThen .now;have Lm:=looks_mroIn (M:=model prog w) X c.mo;refine codeAny_call_builtin KF.slot_gs.plain KF.entry_gs (KF.slot_gs.check _ _ _ _ _ _ _ _ KF.type_class (KF.args_gs _ _ _) ?_);unfold Builtin.«getset_descriptor.__get__» descrGet;rw[dga_obj];refine wpAny_bind (wpAny_pure ?_);unfold descrGetter descrCheckInstance descrNameAndClass isInstance;simp only[KF.owner_class]
 repeat lk
 refine⟨Code.quiet_builtin _ ⋯,codeAny_builtin KF.entry_class ?_⟩;unfold Builtin.«object.__class__» shownTypeOf
 repeat lk
 exact q
theorem zlo(X:K.In s.heap)(hx:s.heap.get? x=some o)(hc:o.cls=.ref D)(c:zfp K D)(q:Q (.done (.ret (.ref D))) s) :
  wpAny (model prog w) A (Builtin.«object.__getattribute__» ⟨[.ref x,.str "__class__" tk],[]⟩) Q E s:=by
 have L0:Looks (model prog w) s.heap (typeOf (.ref x)) (.ref D):=hc▸(Looks.ld hx).andThen .now;have Lf:=zhn (x:=x) (M:=model prog w) X c;have e1:slotArgs "__getattribute__" 1 ⟨[.ref x,.str "__class__" tk],[]⟩=pure (.ref x,[.str "__class__" tk]):=rfl;unfold Builtin.«object.__getattribute__»;rw[e1];refine wpAny_bind (wpAny_pure ?_);refine wpAny_bind (show wpAny _ _ (attrName (.str "__class__" tk)) _ _ _ from wpAny_pure ?_);obtain⟨hh,g,d,t,os⟩:=s;refine wpAny_bind (L0.at (wpAny_bind (Lf.at ?_)));show wpAny _ _ (bindTo _ _ _ _) _ _ _;unfold bindTo;dsimp only;refine wpAny_bind (wpAny_holding (wpAny_call (zcu X hx hc c ?_)));exact wpAny_pure q
theorem Dv(X:K.In s.heap)(hx:s.heap.get? x=some o)(hc:o.cls=.ref D)(c:zfp K D)(q:Q #[d,D] { s with toks:=s.toks+1 }) :
  wpAny (model prog w) A (getAttr? (.ref x) "__class__") Q E s:=by
 obtain⟨hh,g,d,t,os⟩:=s;have L0:Looks (model prog w) hh (typeOf (.ref x)) (.ref D):=hc▸(Looks.ld hx).andThen .now;have La:=looks_findIn (M:=model prog w) X c.ga;have Lk:=looks_findIn (M:=model prog w) X c.gk;have Lx:=looks_mroIn (M:=model prog w) X c.mx;have hb:=PySem.F.attr_ValueError.ga.bind (.ref x);have hne0:(Value.builtin "BaseException.__getattribute__" == Value.builtin "object.__getattribute__")=false:=by decide +kernel
 have hne:(onTheHeap (Value.ref D)&&Value.builtin "BaseException.__getattribute__" == Value.builtin "object.__getattribute__")=false:=by rw[hne0];rfl
 unfold getAttr? getAttrBy? getAttrBy;refine wpAny_bind (wpAny_mkText (wpAny_bind (wpAny_attempt (wpAny_holding (wpAny_bind (L0.at (wpAny_bind (La.at ?_))))))));dsimp only;rw[if_neg (by rw[hne];decide)];unfold getAttrByItsOwn;refine wpAny_bind (show wpAny _ _ (typeLookup (.ref D) "__getattr__") _ _ _ from Lk.at ?_);refine wpAny_bind (wpAny_attempt (wpAny_holding ?_));show wpAny _ _ (boundAndCalled _ _ _) _ _ _;unfold boundAndCalled;rw[hb];refine wpAny_bind (wpAny_pure (wpAny_call ?_));refine codeAny_call_builtin PySem.F.attr_ValueError.ga.plain PySem.F.entry_bexc_ga ?_;have hk:builtinKind "BaseException.__getattribute__"=some .slot:=by decide +kernel
 have hsplit:splitId "BaseException.__getattribute__"=some ("BaseException","__getattribute__"):=by decide +kernel
 have ha:=PySem.F.args_bexc_ga (.ref x) (.str "__class__" t);simp only[checkBuiltinCall,hk,hsplit,List.cons_append,List.nil_append];unfold isInstance
 repeat (first|with_reducible refine zlo X hx hc c ?_|lk)
 exact q
theorem zho(c:zfp K D):KitX K (.ref x) (.ref D) (fun h=>∃ o,h.get? x=#[c]/\o.cls=.ref D) where
 ty:=fun M h _ p=>by obtain⟨o,hx,hc⟩:=p;exact hc▸(Looks.ld hx).andThen .now
 it:=fun _ _ X _=>by
  have z:=c.cl;unfold clsIn at z;split at z
  ·rename_i ho;intro A' Q' E' s' k q;unfold isType loadHead;exact wpAny_bind (wpAny_loadPart (k _ _ (X _ _ ho)) (wpAny_pure q))
  ·cases z
 ne:=fun h tp dd its n sl X htp=>by
  refine Bool.eq_false_iff.mpr fun q=>?_;have e:D=tp:=Value.ref.inj (beq_iff_eq.mp q);subst e;have z:=c.cl;unfold clsIn at z;split at z
  ·rename_i ho;have z:=(X _ _ ho).symm.trans htp;cases z
  ·cases z
 ca:=fun X p q=>by obtain⟨o,hx,hc⟩:=p;exact Dv X hx hc c q
end
inductive TyX(K:Frag)(H:Hp)(x:V)(t:Value):Prop where
 | of (h:Kq K H x t):TyX K H x t
 | exc {a D:Addr} (ex:x=.ref a) (et:t=.ref D) (h:H a=some (zm8 a (.ref D))) (c:zfp K D):TyX K H x t
def zm9:V->Value
 | .ty n=>.type n
 | .ref a=>.ref a
 | _=>.none
inductive zna(K:Frag)(xs:#[a])(H:Hp)(Q:VK):Prop where
 | mk(x)(c)(t)(b)(_:xs=[x,c])(_:TyX K H x t)(_:((∃ n,c=.ty n)\/∃ a,c=.ref a))(_:kitOne K t (zm9 c)=some b)(_:Q (.bl b) H)
theorem zhp:V2 X (.builtin "isinstance") (zna X.K):=by
 intro pins s σ H xs us Q I r h;obtain⟨x,c,t,b,rfl,ty,hc,hk,q⟩:=h;obtain⟨u,w',rfl,r1,r2⟩:=zg3 r;have e:w'=zm9 c:=by
  rcases hc with ⟨n,rfl⟩|⟨a,rfl⟩
  ·exact r2
  ·exact r2
 subst e;cases ty with
 | of ty=>exact zfd I r1 ty hk fun tk=>⟨.bl b,H,I.tok tk,rfl,q⟩
 | @exc a D ex et ha cl =>
   subst ex et;cases (show u=Value.ref a from r1);obtain⟨⟨o,vs,ho,hcl,_⟩,_⟩:=(show Xd X.prog X.w H s.heap a (zm8 a (.ref D)) from I.hok a _ ha);exact kia_one (zho cl) I.kIn ⟨o,ho,hcl⟩ hk (fun z=>nomatch z) fun tk=>⟨.bl b,H,I.tok tk,rfl,q⟩
def fgt:List Nat->St->St
 | [],σ=>σ
 | i :: r,σ=>fgt r (σ.set i none)
theorem G9:∀ (as:List Nat) (σ:St),(fgt as σ).length=σ.length
 | [],_=>rfl
 | i :: r,σ=>by rw[fgt,G9 r,zzr]
theorem B2:∀ (as:List Nat) {σ:St} {i:Nat} {v:V},(fgt as σ)[i]?=#[b,some,v]->σ[i]?=#[b,some,v]/\i∉as
 | [],_,_,_,h=>⟨h,by simp⟩
 | j :: r,σ,i,v,h=>by
   obtain⟨h1,h2⟩:=B2 r h;by_cases e:i=j
   ·subst e;rw[List.getElem?_set] at h1;simp at h1
   ·rw[zy3 (Ne.symm e)] at h1;exact⟨h1,by simp[e,h2]⟩
abbrev Cx.tried(X:Cx)(E:Value->Shared->Prop)(lk:St)(pn:#[v]):Cx:={ X with xe:=E,lk:=lk,pn:=pn }
abbrev Cx.hand(X:Cx)(e:Addr):Cx:={ X with A:=X.A.mark #[d,e],calm:=false,xe:=fun _ _=>False }
section
variable{X:Cx}{pins pins':#[v]}{σ σ' lk:St}{H:Hp}{s:Shared}{E:Value->Shared->Prop}{e:Addr}
theorem Cx.Ok.tried(ok:X.Ok)(E:Value->Shared->Prop)(lk:St)(pn:#[v]):(X.tried E lk pn).Ok :=
 ⟨ok.mod,ok.kind,ok.glob,ok.blt,ok.above,ok.inj,ok.has,ok.cab,ok.hd,ok.frames,ok.stk,ok.exf,ok.bs,ok.bsz,ok.noex,ok.exfs,ok.funs,ok.frf⟩
theorem Cx.Ok.untried{pn:#[v]}(ok:(X.tried E lk pn).Ok):X.Ok :=
 ⟨ok.mod,ok.kind,ok.glob,ok.blt,ok.above,ok.inj,ok.has,ok.cab,ok.hd,ok.frames,ok.stk,ok.exf,ok.bs,ok.bsz,ok.noex,ok.exfs,ok.funs,ok.frf⟩
theorem Cx.Ok.hand(ok:X.Ok)(e:Addr):(X.hand e).Ok :=
 ⟨ok.mod,ok.kind,ok.glob,ok.blt,ok.above,ok.inj,ok.has,ok.cab,fun z=>(nomatch z),ok.frames,ok.stk,ok.exf,ok.bs,ok.bsz,ok.noex,ok.exfs,ok.funs,ok.frf⟩
theorem Inv.tried(I:#[h])(E:Value->Shared->Prop)(hlk:∀ (i:Nat) v,lk[i]?=#[b,some,v]->σ[i]?=#[b,some,v]):Inv (X.tried E lk (X.pn++pins)) [] σ H s:=by
 refine⟨I.ok.tried _ _ _,I.os,I.bare,I.base,?_,I.cell,I.free,I.freeC,fun p hp=>I.pin p (by simpa using hp),I.hok,I.len⟩;obtain⟨m,hn,hl⟩:=I.loc;exact⟨m,hn,fun i x v e1 e2 e3=>hl i x v e1 (.inl (e2.elim id (hlk i v))) e3⟩
theorem Inv.untried(I:Inv (X.tried E lk (X.pn++pins)) pins' σ' H s)(hX:X.lk=[])(hl:lk.length=X.N.length):Inv X pins lk H s:=by
 refine⟨I.ok.untried,I.os,I.bare,I.base,?_,I.cell,I.free,I.freeC,fun p hp=>I.pin p (zyp _ hp),I.hok,hl⟩;obtain⟨m,hn,hl⟩:=I.loc;exact⟨m,hn,fun i x v e1 e2 e3=>hl i x v e1 (.inr (e2.elim id fun z=>by rw[hX] at z;simp at z)) e3⟩
theorem Inv.untriedN(I:Inv (X.tried E lk (X.pn++pins)) [] σ' H s)(hX:X.lk=[]):Inv X pins σ' H s:=by
 refine⟨I.ok.untried,I.os,I.bare,I.base,?_,I.cell,I.free,I.freeC,fun p hp=>I.pin p (by simpa using hp),I.hok,I.len⟩;obtain⟨m,hn,hl⟩:=I.loc;exact⟨m,hn,fun i x v e1 e2 e3=>hl i x v e1 (e2.elim .inl fun z=>by rw[hX] at z;simp at z) e3⟩
theorem Inv.hand(I:#[h])(e:Addr):Inv (X.hand e) pins σ H s:=⟨I.ok.hand e,I.os,I.bare,I.base,I.loc,I.cell,I.free,I.freeC,I.pin,I.hok,I.len⟩
theorem Inv.unhand(ok:X.Ok)(I:Inv (X.hand e) pins σ H s):#[h]:=⟨ok,I.os,I.bare,I.base,I.loc,I.cell,I.free,I.freeC,I.pin,I.hok,I.len⟩
theorem SP.unhand(ok:X.Ok)(h:SP (X.hand e) pins D f s'):SP X pins D f s':=by
 cases f with
 | next=>obtain⟨a,b,c,d⟩:=h;exact⟨a,b,c.unhand ok,d⟩
 | brk=>obtain⟨a,b,c,d⟩:=h;exact⟨a,b,c.unhand ok,d⟩
 | cont=>obtain⟨a,b,c,d⟩:=h;exact⟨a,b,c.unhand ok,d⟩
 | ret u=>obtain⟨v,a,b,c,r,d⟩:=h;exact⟨v,a,b,c.unhand ok,r,d⟩
theorem SP.untried(hX:X.lk=[])(h:SP (X.tried E lk (X.pn++pins)) [] D f s'):SP X pins D f s':=by
 cases f with
 | next=>obtain⟨a,b,c,d⟩:=h;exact⟨a,b,c.untriedN hX,d⟩
 | brk=>obtain⟨a,b,c,d⟩:=h;exact⟨a,b,c.untriedN hX,d⟩
 | cont=>obtain⟨a,b,c,d⟩:=h;exact⟨a,b,c.untriedN hX,d⟩
 | ret u=>obtain⟨v,a,b,c,r,d⟩:=h;exact⟨v,a,b,c.untriedN hX,r,d⟩
end
structure zlp(X:Cx):Prop where
 ex:X.ex=[]
 lk:X.lk=[]
 st:X.stack=X.env :: X.outer
 fr:X.env.frame=some X.env.locals
theorem zfq{CX:CXT}{P:Program}{w:World}{K:Frag}{mg:#[M]}{base:Heap}{N:List Str}{qual:Str}{scope:Scope}{f:Addr}{cd:Value}{A:Around}{outer:List Env}{s0:Shared}{H0:Hp}{E:XK} :
  zlp (cxOf CX P w K mg base N qual scope f cd A outer s0 H0 E):=⟨rfl,rfl,rfl,rfl⟩
section
variable{X:Cx}{pins:#[v]}{σ:St}{H:Hp}{s:Shared}{E:Value->Shared->Prop}
theorem zn4(B:zlp X)(hlk:lk.length=X.N.length)
  (I:Inv (X.tried E' lk (X.pn++pins)) pins' σ' H1 s1) (h:CX1 X.prog X.w X.stack H1 s1 EX ev s2)
  (k:∀ a T cls H2 s3,ev=.ref a->EX cls none H2->Inv X pins lk H2 s3->Fly s1.heap H2 s3.heap a T cls->((a∈X.ex\/X.s₀.heap.get? a=none)/\a≠X.env.locals/\(∀ x c,X.env.cells.lookup x=some c->c≠a)/\∀ p∈X.pn++pins,p.1≠a) ->
   ((T∈X.ex\/X.s₀.heap.get? T=none)/\T≠X.env.locals/\(∀ x c,#[P,x]=some c->c≠T)/\∀ p∈X.pn++pins,p.1≠T) ->
   wpAny (model X.prog X.w) X.A (handleBy (.ref a) X.env hs) Q E s3) :
  wpAny (model X.prog X.w) X.A (noteFrame ev X.env) (fun _ s₂=>#[U,X.A,setFlight ev none,fun _ s₃=>#[U,X.A,handleBy ev X.env hs,Q,E,s₃],E,s₂]) E s2:=by
 obtain⟨a,T,cls,H2,q0,ho,hg,u,hok,F,hE⟩:=h;subst q0;have J:=I.raised ho hg u hok;obtain⟨a0,hfl⟩:=F.flying J J.stack fun _ z=>z;have hfl':Heap.FlyingW (PySem.W.hideAll s2.heap ([a,T]++frs X.stack)) (X.env :: X.outer) a cls a0 s2.heap:=by rw[<- B.st];exact hfl
 refine wpAny_looks_onW (base:=PySem.W.hideAll s2.heap ([a,T]++frs X.stack)) (by rw[J.ok.frames];exact congrArg some B.st) B.fr hfl' fun h3 held up1=>?_;refine wpAny_landsW held fun h4 hfl4 up2=>?_;have up:s2.heap.UpToSlots h4:=up1.trans up2;have t:=Tw.of (as:=[a,T]) J hfl4.1 up;have frE:∀ b∈[a,T],H2 b=none:=by
  intro b hb;rcases zx8.mp hb with rfl|hb
  ·exact F.freeE
  ·rcases zx8.mp hb with rfl|hb
   ·exact F.freeT
   ·cases hb
 have rcs:∀ b∈[a,T],(b∈X.ex\/X.s₀.heap.get? b=none)/\b≠X.env.locals/\(∀ x c,X.env.cells.lookup x=some c->c≠b)/\∀ p∈(X.pn++pins)++pins',p.1≠b:=by
  intro b hb;rcases zx8.mp hb with rfl|hb
  ·exact I.newRec B.ex F.newE
  ·rcases zx8.mp hb with rfl|hb
   ·exact I.newRec B.ex F.newT
   ·cases hb
 have J4:Inv (X.tried E' lk (X.pn++pins)) pins' σ' H2 { s2 with heap:=h4 }:=J.callN' (s':={ s2 with heap:=h4 }) (ch:=[a,T]) rfl (t.un J frE) (t.hok J frE) J.bare rcs;have old:∀ b,s2.heap.get? b=none->s1.heap.get? b=none:=fun b n=>by
  cases q:s1.heap.get? b with
  | none=>rfl
  | some o =>
    obtain⟨_,z⟩:=u.there b o q (by simp);rw[n] at z;cases z
 obtain⟨T',F'⟩:=F.again J old up hfl4.1 hfl4.2.2.2;have sub:∀ {b:Addr},((b∈X.ex\/X.s₀.heap.get? b=none)/\b≠X.env.locals/\(∀ x c,X.env.cells.lookup x=some c->c≠b)/\∀ p∈(X.pn++pins)++pins',p.1≠b) ->
   (b∈X.ex\/X.s₀.heap.get? b=none)/\b≠X.env.locals/\(∀ x c,#[P,x]=some c->c≠b)/\∀ p∈X.pn++pins,p.1≠b:=fun z=>⟨z.1,z.2.1,z.2.2.1,fun p hp=>z.2.2.2 p (zyp _ hp)⟩
 exact k a T' cls H2 _ rfl hE (J4.untried B.lk hlk) F' (sub (rcs a (by simp))) (sub (I.newRec B.ex F'.newT))
theorem zhq(I:#[h])(F:Fly g H s.heap a T cls)(hg:∀ b,#[J,b]=none->g.get? b=none)
  (ha:(a∈X.ex\/X.s₀.heap.get? a=none)/\a≠X.env.locals/\(∀ x c,X.env.cells.lookup x=some c->c≠a)/\∀ p∈X.pn++pins,p.1≠a)
  (hT:(T∈X.ex\/X.s₀.heap.get? T=none)/\T≠X.env.locals/\(∀ x c,X.env.cells.lookup x=some c->c≠T)/\∀ p∈X.pn++pins,p.1≠T)
  (k:∀ s',#[G,H,s']->(∃ T',Fly g H s'.heap a T' cls)->Q () s'):#[U,A,setFlight (.ref a) none,Q,E,s]:=by
 obtain⟨a0,hfl⟩:=F.flying I I.stack fun _ z=>z;refine lands_againW hfl fun h4 hfl4 up=>?_;have t:=Tw.of (as:=[a,T]) I hfl4.1 up;have frE:∀ b∈[a,T],H b=none:=by
  intro b hb;rcases zx8.mp hb with rfl|hb
  ·exact F.freeE
  ·rcases zx8.mp hb with rfl|hb
   ·exact F.freeT
   ·cases hb
 have J4:#[G,H,{ s with heap:=h4 }]:=I.callN' (s':={ s with heap:=h4 }) (ch:=[a,T]) rfl (t.un I frE) (t.hok I frE) I.bare fun b hb=>by
  rcases zx8.mp hb with rfl|hb
  ·exact ha
  ·rcases zx8.mp hb with rfl|hb
   ·exact hT
   ·cases hb
 exact k _ J4 (F.again I hg up hfl4.1 hfl4.2.2.2)
end
def xCl(K:Frag)(as:List Nat)(CB:Addr)(th:TS)(D:Pq)(σ:St):XK:=fun cls _ H'=>∃ C,cls=.ref C/\PySem.W.mroIn K C (.ref CB)=some true/\th D (fgt as σ) H'
def zn5(K:Frag)(as:List Nat)(CB:Addr)(tb:XK->TS)(th:TS):TS:=fun D σ H=>tb (xCl K as CB th D σ) D σ H
section
variable{X:Cx}{as:List Nat}{i:Nat}{CB:Addr}{tb:XK->TS}{th:TS}{body suite:List Stmt}{b₀:Stmt}{n cx:Str}{p hpos pos:Pos}
theorem zlq(B:zlp X)(c:zhm X.K CB)(hg:Gl X cx)(hm:X.mg cx=#[b,.ref,CB])
  (hb:∀ (E':Value->Shared->Prop) (lk:St) (pn:List (Addr×Obj)) (EX:XK),(∀ j∈as,∀ v,lk[j]?≠some (some v))->PassesOwn (model X.prog X.w) X.A X.env E'->Vh (CX1 X.prog X.w) (X.tried E' lk pn) EX->PSs (X.tried E' lk pn) body (tb EX))
  (hh:∀ a,PSs (X.hand a) (b₀ :: suite) th) (hd:(cx == ("__debug__":Str))=false:=by decide) :
  PS X (.Try body [.ExceptHandler (some (.Name cx p)) none (b₀ :: suite) hpos] [] [] pos) (zn5 X.K as CB tb th):=by
 intro pins s σ H D I h;refine wpAny_Try_except ?_;have lkl:(fgt as σ).length=X.N.length:=by rw[G9];exact I.len
 have I':=I.tried (lk:=fgt as σ) (fun ev s₁=>#[U,X.A,noteFrame ev X.env,(fun _ s₂=>wpAny (model X.prog X.w) X.A (setFlight ev none)
  (fun _ s₃=>#[U,X.A,handleBy ev X.env [.ExceptHandler (some (.Name cx p)) none (b₀ :: suite) hpos],SP X pins D,X.xe,s₃]) X.xe s₂),X.xe,s₁]) fun i v z=>(B2 as z).1
 refine wpAny_mono (hb _ _ _ (xCl X.K as CB th D σ) (fun j hj v z=>(B2 as z).2 hj) PassesOwn.looking (fun pins' σ' H1 s1 ev s2 J hcx=>?_) [] s σ H D I' h) (fun f s1 h1=>?_) fun _ _ z=>z
 ·refine zn4 B lkl J hcx fun a T cls H2 s3 _ hE J3 F ha hT=>?_;obtain⟨C,rfl,hmro,hth⟩:=hE;obtain⟨oe,vs,oT,ts,e1,e2,e3,_⟩:=F.ex;refine wpAny_handleBy_cons (codeAny_handlers_test (O5 (X:=X.hand a) (J3.hand a) hg hm (zas J3.kIn c e1 e2 hmro ?_) hd)) (by intro q;cases q);refine codeAny_handlers_suite ?_;have F0:Fly (Att.noObjs s3.heap) H2 s3.heap a T (.ref C):=⟨F.ex,Att.noObjs_get _ _,Att.noObjs_get _ _,F.freeE,F.freeT⟩;refine zhq J3 F0 (fun b _=>Att.noObjs_get _ _) ha hT fun s4 J4 _=>?_;refine wpAny_mono (hh a pins s4 _ _ _ (J4.hand a) hth) (fun f s6 h6=>?_) fun _ _ z=>z.elim;exact h6.unhand I.ok
 ·have h2:=SP.untried B.lk h1;cases f with
  | next=>exact wpAny_execs_nil h2
  | brk=>exact h2
  | cont=>exact h2
  | ret u=>exact h2
end
section
variable{P:Program}{w:World}{K:Frag}{mg:#[M]}{base:Heap}
theorem Fun.okX{x qual:Str}{st:Stmt}{f:Addr}{fd:FuncData}{N ps:List Str}{k:Nat}{sp:Sp}(F:#[g,x,qual,st])(S:#[n,N,ps,st])(len:∀ vs H Q E,sp vs H Q E->vs.length=ps.length)
  (hbody:∀ (cdv:Value) (A:Around) (outer:List Env) (s:Shared) (H:Hp) (vs:#[a]) (Q:VK) (E:XK),Vl k (A.deeper (envOfC qual (Zg st) s.heap.objs.size f cdv))->sp vs H Q E ->
   ∃ t,PSs (cxOf #[f] P w K mg base N qual (Zg st) f cdv A outer s H E) (Zw st) t/\t { nx:=fun _ H'=>Q .non H',rt:=Q } (Jz N vs) H):FnOk P w K mg base #[f] (k+1) f fd ps sp:=by
 obtain⟨oc,od,kV,doc,pm,an,cdv,ct,osl,rfl,lk,hcd⟩:=F.ex;exact zm0 lk hcd S len fun A outer s H vs Q E hr hsp=>hbody cdv A outer s H vs Q E hr hsp
end
def Dw{α:Type}(p:α->Prop):List α->Prop
 | []=>True
 | a :: r=>p a/\Dw p r
theorem Dw.get:∀ {l:List α} {a:α},Dw p l->a∈l->p a
 | _ :: _,_,h,.head _=>h.1
 | _ :: _,_,h,.tail _ m=>Dw.get h.2 m
def Y4(X:Cx)(pn:#[v])(Nc:List Str)(scope:Scope)(cl:List (Str×Addr))(s₀:Shared)(H₀:Hp)(fp:#[t])(C:Addr):Cx :=
 { X with N:=Nc,s₀:=s₀,H₀:=H₀,env:=compEnvC scope cl C X.env,outer:=X.stack,stack:=X.stack,ex:=fp,fn:=fun _=>false,pn:=pn,xe:=fun _ _=>False,lk:=[] }
def cs(js:List Nat)(σ:St)(x:V):St:=some x :: js.map fun j=>(σ[j]?).getD none
def PTs(X:Cx)(ifs:List Expr)(t:TT):Prop :=
 ∀ (pins:#[v]) (s:Shared) (σ:St) (H:Hp) (Q:Bool->Hp->Prop),#[h]->t σ H Q ->
   wpAny (model X.prog X.w) X.A (forIn ifs true fun c r=>if r=true then do let ok <- isTrue c X.env #[B,c];pure (ForInStep.yield ok) else pure (ForInStep.yield r)) (TP X pins σ Q) X.xe s
def tYes:TT:=fun _ H Q=>Q true H
theorem Wn:PTs X [] tYes:=fun _ _ _ H _ I h=>wpAny_tests_nil ⟨H,I,h⟩
theorem Sz(h:PT X c t):PTs X [c] t:=fun pins s σ H Q I q=>wpAny_tests_one (h pins s σ H Q I q)
def zat(J:It)(js:List Nat)(tt:TT)(te:TE)(σ:St)(H:Hp)(Q:VK):Prop:=∃ W:Nat->Nat->#[a]->Hp->Prop,(∃ m,W 0 m [] H)/\∀ i m ys H,W i m ys H ->
 (J.stop i H/\ys.length<=sizeLine/\∀ p,H p=none->Q (.ref p) (upd H p (.lst ys))) \/
 (J.go i H/\ys.length<sizeLine/\∃ N:#[a]->Hp->Prop,(∀ ys' H',N ys' H'->∃ m',m' < m/\W (i+1) m' ys' H')/\∀ x H',J.yld i H x H'->tt (cs js σ x) H' fun b H2=>if b=true then te (cs js σ x) H2 fun y H3=>N (ys++[y]) H3 else N ys H2)
def zhr(wi:TI)(js:List Nat)(tt:TT)(te:TE):TE:=fun σ H Q=>wi σ H fun J H1=>zat J js tt te σ H1 Q
section
variable{X:Cx}{elt iter:Expr}{x:Str}{px pos:Pos}{ifs:List Expr}{scope:Scope}{cl:List (Str×Addr)}{ys:List Str}{js:List Nat}
structure zd4(X:Cx)(x:Str)(scope:Scope)(cl:List (Str×Addr))(ys:List Str)(js:List Nat):Prop where
 clos:closureFor scope X.env=pure cl
 kind:scope.kind=.function
 names:∀ y∈scope.names,y.2=.local->scope.names.lookup y.1=some .local
 nocell:∀ y∈scope.names,y.2≠.cell
 own:scope.names.lookup x=some .local
 nd:(x :: ys).Nodup
 at_:js.map (X.N[·]?)=ys.map some
 free:Dw (fun y=>X.env.kindOf y=some .cell/\(relabel scope X.env).names.lookup y=some .cell/\cl.lookup y=#[P,y]) ys
 only:Dw (fun p=>#[P,p.1]=some p.2) cl
 vis:∀ y∈scope.names,y.2=.free->y.1∈ys
theorem Lc{env:Env}:∀ {names:List (Str×NameKind)} {y:Str},(names.map fun (n,k)=>if (k == NameKind.free&&env.scope.kind == .function&&env.kindOf n == some .cell) then (n,NameKind.cell) else (n,k)).lookup y=some .cell \/
  (names.map fun (n,k)=>if (k == NameKind.free&&env.scope.kind == .function&&env.kindOf n == some .cell) then (n,NameKind.cell) else (n,k)).lookup y=some .free->∃ k,(y,k)∈names/\(k=.cell\/k=.free)
 | [],_,h=>by rcases h with h|h<;>simp at h
 | (n,k) :: r,y,h=>by
   by_cases hx:y=n
   ·subst hx;refine⟨k,zyy,?_⟩;rw[zyf] at h;dsimp only at h;by_cases hc:(k == NameKind.free&&env.scope.kind == .function&&env.kindOf y == some .cell)=true
    ·simp only[zzn,beq_iff_eq] at hc;exact .inr hc.1.1
    ·rw[if_neg hc] at h;simp only[zy2,beq_self_eq_true] at h;rcases h with h|h
     ·exact .inl (Option.some.inj h)
     ·exact .inr (Option.some.inj h)
   ·have hb:(y == n)=false:=zyr.mpr hx;have ih:=@Lc env r y;rw[zyf] at h;have key:∀ z:Str×NameKind,z.1=n->List.lookup y (z :: (r.map fun (n,k)=>if (k == NameKind.free&&env.scope.kind == .function&&env.kindOf n == some .cell) then (n,NameKind.cell) else (n,k))) =
      List.lookup y (r.map fun (n,k)=>if (k == NameKind.free&&env.scope.kind == .function&&env.kindOf n == some .cell) then (n,NameKind.cell) else (n,k)):=fun z hz=>by
     obtain⟨z1,z2⟩:=z;cases hz;simp only[zy2,hb]
    rw[key _ (by dsimp only;split<;>rfl)] at h;obtain⟨k',m,q⟩:=ih h;exact⟨k',zym _ m,q⟩
variable{wi:TI}{tt:TT}{te:TE}
end
theorem X0{K:Frag}{js:List Nat}{tt:TT}{te:TE}{a:Addr}{xs:#[a]}{σ:St}{H:Hp}{Q:VK}(Pv:Nat->#[a]->Hp->Prop)(h0:Pv 0 [] H)(hl:∀ i ys H,i<=xs.length->Pv i ys H->SqL K H a xs)(hz:xs.length<=sizeLine)
  (hy:∀ i ys H,Pv i ys H->ys.length<=i)
  (hs:∀ i x ys H,xs[i]?=some x->Pv i ys H->tt (cs js σ x) H fun b H2=>if b=true then te (cs js σ x) H2 fun y H3=>Pv (i+1) (ys++[y]) H3 else Pv (i+1) ys H2)
  (hd:∀ ys H,Pv xs.length ys H->∀ p,H p=none->Q (.ref p) (upd H p (.lst ys))):zat (Itl K a) js tt te σ H Q:=by
 refine⟨fun i m ys H=>m=xs.length-i/\i<=xs.length/\Pv i ys H,⟨xs.length,by simp,zyv _,h0⟩,?_⟩;rintro i m ys H ⟨rfl,hi,p⟩;have q:=hl i ys H hi p;have ly:=hy i ys H p;by_cases hlt:i<xs.length
 ·refine .inr ⟨⟨xs,xs[i],q,by simp[hlt]⟩,by omega,Pv (i+1),fun ys' H' p'=>⟨xs.length-(i+1),by omega,rfl,hlt,p'⟩,fun x H' y=>?_⟩;obtain⟨e,y⟩:=y;subst e;exact hs i x ys _ (y xs q) p
 ·have e:i=xs.length:=by omega
  subst e;exact .inl ⟨⟨xs,q,zyc _⟩,by omega,hd ys H p⟩
theorem Qj{js:List Nat}{tt:TT}{te:TE}{lo:Int}{n:Nat}{σ:St}{H:Hp}{Q:VK}(Pv:Nat->#[a]->Hp->Prop)(h0:Pv 0 [] H)(hz:n<=sizeLine)(hy:∀ i ys H,Pv i ys H->ys.length<=i)
  (hs:∀ i ys H,i<n->Pv i ys H->tt (cs js σ (.int (lo+i))) H fun b H2=>if b=true then te (cs js σ (.int (lo+i))) H2 fun y H3=>Pv (i+1) (ys++[y]) H3 else Pv (i+1) ys H2)
  (hd:∀ ys H,Pv n ys H->∀ p,H p=none->Q (.ref p) (upd H p (.lst ys))):zat (Itr lo n) js tt te σ H Q:=by
 refine⟨fun i m ys H=>m=n-i/\i<=n/\Pv i ys H,⟨n,by simp,zyv _,h0⟩,?_⟩;rintro i m ys H ⟨rfl,hi,p⟩;have ly:=hy i ys H p;by_cases hlt:i<n
 ·refine .inr ⟨hlt,by omega,Pv (i+1),fun ys' H' p'=>⟨n-(i+1),by omega,rfl,hlt,p'⟩,fun x H' y=>?_⟩;obtain⟨e,y⟩:=y;subst e y;exact hs i ys _ hlt p
 ·have e:i=n:=by omega
  subst e;exact .inl ⟨zyc _,by omega,hd ys H p⟩
theorem C5{js:List Nat}{te:TE}{lo:Int}{n:Nat}{σ:St}{H:Hp}{Q:VK}(f:Nat->V)(hz:n<=sizeLine)
  (hs:∀ i (R:VK),i<n->R (f i) H->te (cs js σ (.int (lo+i))) H R) (hd:∀ p,H p=none->Q (.ref p) (upd H p (.lst ((List.range n).map f)))):zat (Itr lo n) js tYes te σ H Q:=by
 refine Qj (fun i ys H'=>H'=H/\ys=(List.range i).map f) #[y,rfl] hz (fun i ys H' ⟨_,e⟩=>by rw[e,zx1,zy6];exact zyc _) (fun i ys H' hi ⟨e1,e2⟩=>?_) fun ys H' ⟨e1,e2⟩ p hp=>?_
 ·subst e1;unfold tYes;dsimp only;rw[if_pos rfl];refine hs i _ hi ⟨rfl,?_⟩;rw[e2,List.range_succ,zx7];rfl
 ·subst e1;rw[e2];exact hd p hp
theorem J1:∀ {xs:List V} {us:List Value},xs.length=us.length->(∀ (j:Nat) x u,xs[j]?=some x->us[j]?=some u->RelV x u)->Vals xs us
 | [],[],_,_=>.nil
 | x :: xs,u :: us,hl,h=>.cons (h 0 x u rfl rfl) (J1 (by simpa using hl) fun j x' u' h1 h2=>h (j+1) x' u' (by simpa using h1) (by simpa using h2))
abbrev TF:=St->Hp->(Hp->Prop)->Prop
def PF(X:Cx)(e:Expr)(t:TF):Prop :=
 ∀ (pins:#[v]) (s:Shared) (σ:St) (H:Hp) (k:Hp->Prop),#[h]->t σ H k ->
   wpAny (model X.prog X.w) X.A (eval e X.env) (fun u s'=>∃ y tk H',u=.str y tk/\y.length<=10000/\#[G,H',s']/\k H') X.xe s
def PFs(X:Cx)(es:List Expr)(t:TF):Prop :=
 ∀ (pins:#[v]) (s:Shared) (σ:St) (H:Hp) (k:Hp->Prop) (acc:Str),#[h]->acc.length+10000*es.length<=sizeLine->t σ H k ->
   Joins (model X.prog X.w) X.A X.xe (evalEach es X.env) acc (fun out s'=>out.length<=sizeLine/\∃ H',#[G,H',s']/\k H') s
def znb:TF:=fun _ H k=>k H
def znc(t u:TF):TF:=fun σ H k=>t σ H fun H1=>u σ H1 k
def okF(v:V):Prop:=(∃ i,v=.int i/\i.natAbs.log2<1920)\/∃ y,v=.str y/\y.length<=10000
def zn6(te:TE):TF:=fun σ H k=>te σ H fun v H1=>okF v/\k H1
def znd(t:TF):TE:=fun σ H Q=>t σ H fun H1=>∀ z,Q (.str z) H1
section
variable{X:Cx}{e:Expr}{es:List Expr}{te:TE}{t u:TF}{pos:Pos}
theorem Xv{j}(h:x.length<=10000):PF X (.Constant (.str x) j pos) znb:=fun _ _ _ H _ I hk=>Calls.Constant_str ⟨x,_,H,rfl,h,I.tok _,hk⟩
theorem W4(he:PE X e te):PF X (.FormattedValue e (-1) none pos) (zn6 te):=by
 intro pins s σ H k I h;refine FormattedValue_plain (thn (he pins s σ H _ I h) fun v s1 ⟨x,H1,I1,r1,ok,hk⟩=>?_);rcases ok with ⟨i,rfl,hi⟩|⟨y,rfl,hy⟩
 ·obtain⟨t,rfl⟩:=r1;refine formatField_int_small hi ⟨_,_,H1,rfl,?_,I1.tok _,hk⟩;have:=int_text_length_le (k:=1920) ⋯ hi;show (Str.ofString (toString i)).length<=10000;rw[PySem.ofString_length];omega
 ·obtain⟨t,rfl⟩:=r1;exact formatField_str (fun t' tk=>⟨y,t',H1,rfl,hy,I1.tok tk,hk⟩) (by rw[sizeLine_eq];omega)
theorem Vd:PFs X [] znb:=fun _ _ _ H _ _ I hz hk=>⟨by simpa using hz,H,I,hk⟩
theorem Z5(h1:PF X e t)(h2:PFs X es u)(hs:evalEach (e :: es) X.env=#[B,e] :: evalEach es X.env:=by rfl):PFs X (e :: es) (znc t u):=by
 intro pins s σ H k acc I hz h;rw[hs];refine thn (h1 pins s σ H _ I h) fun v s1 ⟨y,tk,H1,e1,hy,I1,hk⟩=>⟨y,tk,e1,?_,?_⟩
 ·rw[strLen_append];rw[zyk] at hz;omega
 ·exact h2 pins s1 σ H1 k _ I1 (by rw[strLen_append];rw[zyk] at hz;omega) hk
theorem Ve(h:PFs X (e :: e' :: es) t)(hl:es.length<=100):PE X (.JoinedStr (e :: e' :: es) pos) (znd t):=by
 intro pins s σ H Q I h';refine wpAny_JoinedStr ?_;have q:=h pins s σ H _ Str.empty I (by rw[sizeLine_eq];simp only[zyk];have:Str.empty.length=0:=rfl;omega) h';have mono:∀ (ps:List (Sem Value)) (acc:Str) (Q1 Q2:Str->Shared->Prop) (s:Shared),(∀ o s,Q1 o s->Q2 o s)->Joins (model X.prog X.w) X.A X.xe ps acc Q1 s->Joins (model X.prog X.w) X.A X.xe ps acc Q2 s:=by
  intro ps
  induction ps with
  | nil=>intro acc Q1 Q2 s m z;exact m _ _ z
  | cons p r ih=>intro acc Q1 Q2 s m z;exact thn z fun v s1 ⟨y,tk,e1,hz,z1⟩=>⟨y,tk,e1,hz,ih _ _ _ _ m z1⟩
 refine mono _ _ _ _ _ (fun out s1 ⟨hz,H1,I1,hk⟩=>⟨hz,.str out,H1,I1.tok _,#[y,_],hk out⟩) q
end
section
variable{X:Cx}
theorem zcv(hc:X.calm=true):V2 X (.type "list") (fun xs H Q=>∃ a kvs,xs=[.ref a]/\Rd H a (.dK kvs)/\∀ l,H l=none->Q (.ref l) (upd H l (.lst (kvs.map fun kv=>kV kv.1)))):=by
 intro pins s σ H xs us Q I r h;obtain⟨a,kvs,rfl,ha,q⟩:=h;obtain⟨u,rfl,ru⟩:=Pc r;cases (show u=Value.ref a from ru);obtain⟨hz,lo,vs,kv,o,es,ep,e1,e2⟩:=Pd I.hok ha;have hl:kvs.length=vs.length:=KV.length kv;refine PySem.W.kdl_call (PySem.W.kdl_dict (knd:=Yo X.prog X.w) (kvs:=vs) (ep:=ep) lo) (I.ok.hd hc) ⟨o,es,e1,e2⟩ (by rw[<- hl];exact hz) fun h' tk acc c hk hS hacc=>?_;have hf:H s.heap.objs.size=none:=I.hok.fresh (zyc _);refine⟨.ref s.heap.objs.size,upd H s.heap.objs.size (.lst (kvs.map fun kv=>kV kv.1)),I.laid (t':=tk) hk (zyc _) ?_,rfl,q _ hf⟩;obtain⟨accl⟩:=acc;refine⟨by rw[zx1];exact hz,accl,c,?_,hS⟩;have hlen:accl.length=vs.length:=by have:=hacc.1;simpa using this
 refine J1 (by rw[zx1,hl,hlen]) fun j x u hx hu=>?_;obtain⟨k,y,hk1,hk2⟩:=hacc.2 j u (by simpa using hu);have ek:=congrArg (·[j]?) (KV.keys kv);simp only[zx5,hk1,zy8] at ek;rw[zx5] at hx;cases hkv:kvs[j]? with
 | none=>rw[hkv] at hx;cases hx
 | some p =>
   rw[hkv] at hx ek;have e1:kV p.1=x:=Option.some.inj hx;have e2:p.1=k:=Option.some.inj ek;rw[<- e1,e2];rcases Yv hk2 with ⟨i,t,rfl,rfl⟩|⟨z,t,rfl,rfl⟩
   ·exact#[y,t]
   ·exact#[y,t]
end
inductive Dt where
 | non|bl (b:Bool)|int (i:Int)|str (x:Str)|lst (xs:List Dt)|tup (xs:List Dt)
mutual
inductive Is(K:Frag)(H:Hp):V->Dt->Prop where
 | non:Is K H .non .non
 | bl (b:Bool):Is K H (.bl b) (.bl b)
 | int (i:Int):Is K H (.int i) (.int i)
 | str (x:Str):Is K H (.str x) (.str x)
 | lst {a:Addr} {xs:#[a]} {ds:List Dt} (h:SqL K H a xs) (hs:S4 K H xs ds):Is K H (.ref a) (.lst ds)
 | tup {a:Addr} {xs:#[a]} {ds:List Dt} (h:SqT K H a xs) (hs:S4 K H xs ds):Is K H (.ref a) (.tup ds)
inductive S4(K:Frag)(H:Hp):#[a]->List Dt->Prop where
 | nil:S4 K H [] []
 | cons {x:V} {xs:#[a]} {d:Dt} {ds:List Dt} (h:Is K H x d) (t:S4 K H xs ds):S4 K H (x :: xs) (d :: ds)
end
mutual
def eqD:Dt->Dt->Bool
 | .non,.non=>true
 | .bl a,.bl b=>a == b
 | .bl a,.int b=>(if a then 1 else 0) == b
 | .int a,.bl b=>a == (if b then 1 else 0)
 | .int a,.int b=>a == b
 | .str a,.str b=>a == b
 | .lst xs,.lst ys=>Kv xs ys
 | .tup xs,.tup ys=>Kv xs ys
 | _,_=>false
def Kv:List Dt->List Dt->Bool
 | [],[]=>true
 | x :: xs,y :: ys=>eqD x y&&Kv xs ys
 | _,_=>false
end
section
variable{X:Cx}{pins:#[v]}{σ:St}{H:Hp}{s:Shared}
mutual
def toPy:Dt->PyData
 | .non=>.none
 | .bl b=>.bool b
 | .int i=>.int i
 | .str x=>.str x
 | .lst xs=>.list (Wl xs)
 | .tup xs=>.tuple (Wl xs)
def Wl:List Dt->List PyData
 | []=>[]
 | d :: ds=>toPy d :: Wl ds
end
mutual
theorem Ld:∀ d e:Dt,PyData.eqv (toPy d) (toPy e)=eqD d e
 | .non,e=>by cases e<;>simp[toPy,eqD,PyData.eqv]
 | .bl _,e=>by cases e<;>simp[toPy,eqD,PyData.eqv]
 | .int _,e=>by cases e<;>simp[toPy,eqD,PyData.eqv]
 | .str _,e=>by cases e<;>simp[toPy,eqD,PyData.eqv]
 | .lst xs,.lst ys=>by rw[toPy,toPy,PyData.eqv,eqD];exact Kw xs ys
 | .tup xs,.tup ys=>by rw[toPy,toPy,PyData.eqv,eqD];exact Kw xs ys
 | .lst _,.non=>by simp[toPy,eqD,PyData.eqv]
 | .lst _,.bl _=>by simp[toPy,eqD,PyData.eqv]
 | .lst _,.int _=>by simp[toPy,eqD,PyData.eqv]
 | .lst _,.str _=>by simp[toPy,eqD,PyData.eqv]
 | .lst _,.tup _=>by simp[toPy,eqD,PyData.eqv]
 | .tup _,.non=>by simp[toPy,eqD,PyData.eqv]
 | .tup _,.bl _=>by simp[toPy,eqD,PyData.eqv]
 | .tup _,.int _=>by simp[toPy,eqD,PyData.eqv]
 | .tup _,.str _=>by simp[toPy,eqD,PyData.eqv]
 | .tup _,.lst _=>by simp[toPy,eqD,PyData.eqv]
theorem Kw:∀ ds es:List Dt,PyData.eqvAll (Wl ds) (Wl es)=Kv ds es
 | [],[]=>by simp[Wl,Kv,PyData.eqvAll]
 | [],_ :: _=>by simp[Wl,Kv,PyData.eqvAll]
 | _ :: _,[]=>by simp[Wl,Kv,PyData.eqvAll]
 | d :: ds,e :: es=>by rw[Wl,Wl,PyData.eqvAll,Kv,Ld d e,Kw ds es]
end
mutual
theorem Is.reads(I:#[h]):∀ {d:Dt} {x:V} {u:Value},Is X.K H x d->RelV x u->∃ as,Reads s.heap u (toPy d) as
 | _,_,_,.non,r=>by cases r;exact⟨_,.none⟩
 | _,_,_,.bl b,r=>by cases r;exact⟨_,.bool b⟩
 | _,_,_,.int i,r=>by obtain⟨t,rfl⟩:=r;exact⟨_,.int i t⟩
 | _,_,_,.str i,r=>by obtain⟨t,rfl⟩:=r;exact⟨_,.str i t⟩
 | _,_,_,.lst h hs,r=>by
   cases r;obtain⟨its,r1,⟨o,n',e1,e2,e3,e4⟩,_⟩:=I.list h;obtain⟨as,q⟩:=S4.reads I hs r1;rw[toPy];exact⟨_,.list e1 e2 e4 (by simpa using q)⟩
 | _,_,_,.tup h hs,r=>by
   cases r;obtain⟨its,r1,⟨o,e1,e2,n',e4⟩,_⟩:=I.tuple h;obtain⟨as,q⟩:=S4.reads I hs r1;rw[toPy];exact⟨_,.tuple e1 e2 e4 (by simpa using q)⟩
theorem S4.reads(I:#[h]):∀ {ds:List Dt} {xs:List V} {us:List Value},S4 X.K H xs ds->Vals xs us->∃ as,ReadsAll s.heap us (Wl ds) as
 | _,_,_,.nil,r=>by cases r;exact⟨_,.nil⟩
 | _,_,_,.cons h t,r=>by
   cases r with
   | cons r1 r2 =>
     obtain⟨as,q1⟩:=Is.reads I h r1;obtain⟨bs,q2⟩:=S4.reads I t r2;exact⟨_,.cons q1 q2⟩
end
def shD(d:Dt):Prop:=SeqAt.shaped (toPy d)=true
inductive zhs(K:Frag)(neg:Bool)(x:V)(y:V)(H:Hp)(Q:VK):Prop where
 | mk(d)(e)(_:Is K H x d)(_:Is K H y e)(_:shD d)(_:shD e)(_:Q (.bl (if neg then !eqD d e else eqD d e)) H)
theorem zlr(hu:X.A.units+64<cLine):OpR X (compareOp .Eq) (zhs X.K false):=by
 intro pins s σ H x y v u Q I rx ry h;obtain⟨d,e,h1,h2,s1,s2,q⟩:=h;obtain⟨as,r1⟩:=h1.reads I rx;obtain⟨bs,r2⟩:=h2.reads I ry;exact eq_dataH r1 r2 s1 s2 hu (by rw[Ld];exact⟨.bl _,H,I,rfl,q⟩)
theorem zls(hu:X.A.units+64<cLine):OpR X (compareOp .NotEq) (zhs X.K true):=by
 intro pins s σ H x y v u Q I rx ry h;obtain⟨d,e,h1,h2,s1,s2,q⟩:=h;obtain⟨as,r1⟩:=h1.reads I rx;obtain⟨bs,r2⟩:=h2.reads I ry;exact ne_dataH r1 r2 s1 s2 hu (by rw[Ld];exact⟨.bl _,H,I,rfl,q⟩)
end
section
variable{P:Program}{w:World}{K:Frag}{mg:#[M]}{base:Heap}{x m:Str}{k j:Nat}{ps:List Str}{sp:Sp}{C:Addr}
def Zz(P:Program)(w:World)(K:Frag)(mg:#[M])(base:Heap)(x:Str)(k:Nat)(ps:List Str)(sp:Sp):Prop :=
 ∃ (f:Addr) (fd:FuncData),FnOk P w K mg base #[f] k f fd ps sp/\mg x=#[d,f]/\PySem.W.keepIn K (.ref f)=true/\Rx K fd ps []
def Zq(P:Program)(w:World)(K:Frag)(mg:#[M])(base:Heap)(C:Addr)(m:Str)(k:Nat)(ps:List Str)(sp:Sp):Prop :=
 ∃ (f:Addr) (fd:FuncData),FnOk P w K mg base #[f] k f fd ps sp/\zg6 K C m f/\Rx K fd ps []
def Tz(P:Program)(w:World)(K:Frag)(mg:#[M])(base:Heap)(x:Str)(C:Addr)(k:Nat)(ps:List Str)(sp:Sp):Prop :=
 ∃ (f:Addr) (fd:FuncData),FnOk P w K mg base #[f] k f fd ps sp/\Mk K C f/\mg x=#[d,C]/\Rx K fd ps []
theorem zau:Vh #[f] X E0:=fun _ _ _ _ _ _ _ h=>by obtain⟨_,_,_,_,_,_,_,_,_,_,z⟩:=h;exact z.elim
structure zoi(K:Frag)(mg:#[M])(x:Str)(st:Stmt)(f:Addr)(fd:FuncData):Prop where
 fn:#[g,x,x,st]
 nm:mg x=#[b,.ref,f]
end
section
variable{X:Cx}{k:Nat}{C:Addr}{ps:List Str}{sp:Sp}{E:XK}{x m:Str}{p pos apos:Pos}{e o:Expr}{es:List Expr}{ta:TE}{t:TA}
theorem zd5(D:Zz X.prog X.w X.K X.mg X.base x k ps sp)(hr:Vl k X.A)(hx:Vh (CX1 X.prog X.w) X E)(hg:Gl X x)(ha:PA X (e :: es) t)(hdb:(x == ("__debug__":Str))=false:=by decide)
  (he:starEach (e :: es) X.env=(false,#[B,e]) :: starEach es X.env:=by rfl) (hpl:#[ak]=false:=by rfl):PE X (.Call (.Name x p) (e :: es) [] pos) (zdw sp [] E t):=by
 obtain⟨f,fd,F,hm,kp,b⟩:=D;exact zjc F hr hg hm kp b .nil hx ha hdb he hpl
theorem Yj(he:PE X o ta)(c:Cls X.K C)(M:Zq X.prog X.w X.K X.mg X.base C m k ps sp)(hr:Vl k X.A)(hx:Vh (CX1 X.prog X.w) X E)(ha:PA X (e :: es) t)
  (hst:starEach (e :: es) X.env=(false,#[B,e]) :: starEach es X.env:=by rfl) (hpl:#[ak]=false:=by rfl)
  (ht:#[B,.Call (.Attribute o m apos) (e :: es) [] pos]=(do
   let ov <- #[B,o]
   standAt apos.atName
   let (f,first) <- holding [ov] (getMethod ov m pl)
   callWith pos f first (backTo pos (starEach (e :: es) X.env)) (backToKw pos (keywordEach [] X.env))):=by rfl):PE X (.Call (.Attribute o m apos) (e :: es) [] pos) (Cw C m sp [] E ta t):=by
 obtain⟨f,fd,F,hm,b⟩:=M;exact zjd he c hm F hr b .nil hx ha hst hpl ht
theorem Ye(he:PE X o ta)(c:Cls X.K C)(M:Zq X.prog X.w X.K X.mg X.base C m k ps sp)(hr:Vl k X.A)(hx:Vh (CX1 X.prog X.w) X E)
  (ht:#[B,.Call (.Attribute o m apos) [] [] pos]=(do
   let ov <- #[B,o]
   standAt apos.atName
   let (f,first) <- holding [ov] (getMethod ov m pl)
   callWith pos f first (backTo pos (starEach [] X.env)) (backToKw pos (keywordEach [] X.env))):=by rfl):PE X (.Call (.Attribute o m apos) [] [] pos) (Cw C m sp [] E ta Iu):=by
 obtain⟨f,fd,F,hm,b⟩:=M;exact zg7 he c hm F hr b .nil hx ht
theorem B3(M:Tz X.prog X.w X.K X.mg X.base x C k ps sp)(hr:Vl (k+1) X.A)(hx:Vh (CX1 X.prog X.w) X E)(hg:Gl X x)(ha:PA X (e :: es) t)(hdb:(x == ("__debug__":Str))=false:=by decide)
  (he:starEach (e :: es) X.env=(false,#[B,e]) :: starEach es X.env:=by rfl) (hpl:#[ak]=false:=by rfl):PE X (.Call (.Name x p) (e :: es) [] pos) (zdx C sp [] E t):=by
 obtain⟨f,fd,F,mk,hm,b⟩:=M;exact zje mk F hr hg hm b .nil hx ha hdb he hpl
theorem zd6(M:Tz X.prog X.w X.K X.mg X.base x C k ps sp)(hr:Vl (k+1) X.A)(hx:Vh (CX1 X.prog X.w) X E)(hg:Gl X x)(hdb:(x == ("__debug__":Str))=false:=by decide):PE X (.Call (.Name x p) [] [] pos) (zdx C sp [] E Iu):=by
 obtain⟨f,fd,F,mk,hm,b⟩:=M;exact zg8 mk F hr hg hm b .nil hx hdb
theorem Wz(hg:Gl X x)(hm:∃ t,X.mg x=some (.int i t))(hd:(x == ("__debug__":Str))=false:=by decide):PE X (.Name x pos) (tC (.int i)):=by
 obtain⟨t,hm⟩:=hm;exact zi6 hg hm #[y,t] hd
end
inductive zne(te:TE)(D:Pq)(σ:L2.St)(x:V)(H1:Hp):Prop where
 | mk(l)(xs)(_:x=.ref l)(_:#[w,H1,l,xs])(_:te σ H1 fun y H2=>∃ ys,H2 l=#[r,ys]/\ys.length<sizeLine/\D.nx σ (upd H2 l (.lst (ys++[y]))))
def znf(to te:TE):TS:=fun D σ H=>to σ H fun x H1=>zne te D σ x H1
theorem Y6(ho:PE X o to)(he:PE X e te)(hbase:attributeBase o "append" X.env #[B,o]=eval o X.env:=by rfl)
  (hst:starEach [e] X.env=[(false,#[B,e])]:=by rfl)
  (hline:(apos.endLine == cpos.line)=true:=by rfl) (hs:swapsWith (.Call (.Attribute o "append" apos) [e] [] cpos) none pos.line X.env=pure false:=by rfl):PS X (.Expr (.Call (.Attribute o "append" apos) [e] [] cpos) pos) (znf to te):=by
 intro pins s σ H D I h;refine wpAny_Expr ?_ I.quiet;refine wpAny_Call_method_late hbase (by rw[hst];rfl) hline rfl (thn (ho pins s σ H _ I h) fun v s1 ⟨x,H1,I1,r1,l,xs,e1,hl,q1⟩=>?_);subst e1;obtain⟨h1,h2⟩:=zcr (T:="list") I1 r1 (.inl ⟨rfl,_,SqL.of hl⟩);refine⟨"list","list.append",PySem.F.plainAttrs_list,PySem.F.slot_list_append,PySem.F.type_list_append,h1,h2,?_⟩;rw[hst];refine Calls.callWith_builtin rfl (Calls.evalArgs_plain ?_);refine Calls.spliced_cons (thn (he pins s1 σ H1 _ I1 q1) fun u s2 ⟨y,H2,I2,r2,ys,hl2,hz,q2⟩=>Calls.spliced_nil ?_);refine thn (zfj pins s2 σ H2 (.ref l) [y] v [u] (fun v H3=>v=.non/\D.nx σ H3) I2 r1 (.cons r2 .nil) ⟨l,ys,y,rfl,rfl,hl2,hz,rfl,q2⟩) fun z s3 ⟨zv,H3,I3,rz,ez,q3⟩=>?_;subst ez;cases rz;exact⟨σ,H3,I3,q3⟩
section
variable{X:Cx}{K:Frag}
theorem zht(hK:X.K=K):IxR X (Bw K):=hK▸zjm
theorem zjr(hK:X.K=K):IxR X (zfh K):=hK▸zli
theorem Dx(hK:X.K=K):V2 X (.builtin "len") (fun xs H Q=>∃ p ys,xs=[.ref p]/\(SqL K H p ys\/SqT K H p ys)/\Q (.int ys.length) H):=hK▸Bz
theorem Y0(hK:X.K=K):V2 X (.type "list") (fun xs H Q=>∃ p ys,xs=[.ref p]/\(SqL K H p ys\/SqT K H p ys)/\∀ l,H l=none->Q (.ref l) (upd H l (.lst ys))):=hK▸B0
theorem Y7(hK:X.K=K):V2 X (.builtin "isinstance") (zna K):=hK▸zhp
theorem Fb(hK:X.K=K):OpR X (compareOp .In) (rIn K false):=hK▸zfi
theorem Dy(hK:X.K=K):OpR X (compareOp .NotIn) (rIn K true):=hK▸By
theorem zd7(hK:X.K=K)(hu:X.A.units+64<cLine):OpR X (compareOp .Eq) (zhs K false):=hK▸zlr hu
theorem zd8(hK:X.K=K)(hu:X.A.units+64<cLine):OpR X (compareOp .NotEq) (zhs K true):=hK▸zls hu
theorem Le(hK:X.K=K):SlR X (zlj K):=hK▸zjn
variable{o e l tg value a:Expr}{f:Str}{pos pos':Pos}{ta tv tl:TE}{es:List Expr}{k n:Nat}{t:TGs}
theorem Zs(hK:X.K=K)(he:PE X e ta)(hb:attributeBase e f X.env #[B,e]=#[B,e]):PE X (.Attribute e f pos) (zmu K ta f):=hK▸zk6 he hb
theorem Xg(hK:X.K=K)(ha:PE X o ta)(hv:PE X value tv)(hs:swapsWith value (some (.Attribute o f pos')) pos.line X.env=pure false):PS X (.Assign [.Attribute o f pos'] value pos) (zmw K ta tv f):=hK▸zk7 ha hv hs
theorem Z9(hK:X.K=K)(hl:PE X l tl):PI X tg l (zdr K tl):=hK▸zi7 hl
theorem Xu(hK:X.K=K)(hc:X.calm=true)(h:PGs X es t)(hn:(assignEach es X.env).length=n:=by rfl)(hst:(assignEach es X.env).findIdx? (·.1)=none:=by rfl):PG X (.Tuple es k pos) (zk0 K n t):=hK▸zk1 hc h hn hst
theorem C6(hK:X.K=K)(ha:PE X a ta)(he:∀ whole,isTrue a X.env whole=(do let v <- whole;standAt a.pos;holding [v] (truthy v))):PT X a (fun σ H Q=>ta σ H fun x H'=>∃ k,TruV K x H' k/\Q k H'):=hK▸zg2 ha he
end
section
variable{X:Cx}{K:Frag}
theorem Fc(hK:X.K=K):V2 X (.type "tuple") (fun xs H Q=>∃ p ys,xs=[.ref p]/\((SqL K H p ys/\∀ l,H l=none->Q (.ref l) (upd H l (.tup ys)))\/(SqT K H p ys/\Q (.ref p) H))):=hK▸Dr
end
end L2
namespace G
open PySem PySem.Spec PyProof.Rows L2
theorem sz1:1<=sizeLine:=by decide
theorem sz2:2<=sizeLine:=by decide
theorem sz3:3<=sizeLine:=by decide
theorem sz4:4<=sizeLine:=by decide
theorem szN(h:n<=1000):n<=sizeLine:=z0f (Up h)
theorem itD{p:Prop}[Decidable p]{A B:Prop}(h1:p->A)(h2:¬ p->B):if decide p=true then A else B:=by
 by_cases h:p
 ·rw[zx9 h,if_pos rfl];exact h1 h
 ·rw[zye h,if_neg ⋯];exact h2 h
theorem itB{b:Bool}{A B:Prop}(h1:b=true->A)(h2:b=false->B):if b=true then A else B:=by
 cases b
 ·exact iteF (h2 rfl)
 ·exact iteT (h1 rfl)
theorem R0:#[i,V.int i=V.int j]=#[i,i=j]:=by
 by_cases h:i=j
 ·subst h;simp
 ·rw[zye h,zye fun z=>h (V.int.inj z)]
theorem itV{i j:Int}{A B:Prop}(h1:i=j->A)(h2:¬ i=j->B):if decide (V.int i=V.int j)=true then A else B:=by
 rw[R0];exact itD h1 h2
theorem Zk(h:H p=none):Same H (upd H p o):=fun b u e=>by rw[Zj (Zh e h)];exact e
def Yf(i:Int):Prop:=i.natAbs.log2<1920
theorem Yl(h:i.natAbs<=10 ^ 60):Yf i:=by
 unfold Yf;by_cases h0:i.natAbs=0
 ·rw[h0];decide
 ·exact(Nat.log2_lt h0).mpr (zzq h ⋯)
theorem Yi(h:-1000<=i)(h':i<=1000):Yf i:=Yl (zyg (show i.natAbs<=1000 by omega) ⋯)
theorem Wv{xs:#[o]}{i:Int}(h0:0<=i)(h1:i<xs.length):atI (xs.map V.int) i=#[b,.int,xs.getD i.toNat 0]:=by
 obtain⟨k,rfl⟩:∃ k:Nat,i=k:=⟨i.toNat,by omega⟩;refine Z4 ?_;have hk:k<xs.length:=by omega
 rw[zx5,zx2 hk,zy8,zyh,zyt,zx2 hk];rfl
theorem T1(h1:∀ Q:Bool->Hp->Prop,Q b H->t σ H Q)(h2:∀ Q:Bool->Hp->Prop,Q c H->u σ H Q)(Q:Bool->Hp->Prop)(h:Q (b||c) H):tOr t u σ H Q:=by
 refine h1 _ ?_;cases b with
 | true=>exact h
 | false=>exact h2 _ h
theorem W0(h1:∀ Q:Bool->Hp->Prop,Q b H->t σ H Q)(h:if b=true then A D σ H else B D σ H):Dp t A B D σ H:=h1 _ h
theorem Xl(h:A { D with nx:=B D } σ H):Z0 A B D σ H:=h
theorem J2(J:L2.St->Hp->Prop)(hc:∀ Q:Bool->Hp->Prop,Q b H->c σ H Q)(h1:b=true->∀ N:L2.St->Hp->Prop,(∀ σ' H',J σ' H'->N σ' H')->t { D with nx:=N } σ H)
  (h2:b=false->∀ N:L2.St->Hp->Prop,(∀ σ' H',J σ' H'->N σ' H')->e { D with nx:=N } σ H) (h3:∀ σ' H',J σ' H'->u D σ' H'):Z0 (Dp c t e) u D σ H:=by
 refine hc _ ?_;cases b with
 | true=>rw[if_pos rfl];exact h1 rfl _ h3
 | false=>rw[if_neg ⋯];exact h2 rfl _ h3
theorem Zx(h:D.nx σ H):zdq D σ H:=h
theorem zcw{K:Frag}{C:Addr}{v:Value}{r:Bool}(e:PySem.W.mroIn K C v=some r):(PySem.W.clsIn K C).isSome=true:=by
 obtain⟨cd,h,_⟩:=Option.bind_eq_some_iff.mp e;rw[h];rfl
theorem zlt(K:Frag):PySem.W.kitOne K (.type "int") (.type "int")=some true:=rfl
theorem zlu(K:Frag):PySem.W.kitOne K (.type "int") (.type "bool")=some false:=by with_unfolding_all rfl
theorem N4(K:Frag):PySem.W.kitOne K (.type "list") (.type "list")=some true:=rfl
theorem B4(K:Frag):PySem.W.kitOne K (.type "tuple") (.type "tuple")=some true:=rfl
theorem zhu(K:Frag):PySem.W.kitOne K (.type "str") (.type "str")=some true:=rfl
inductive Z8(H:Hp):#[a]->List (List V)->Prop where
 | nil:Z8 H [] []
 | cons {t:Addr} {r:#[a]} {ts:#[a]} {R:List (List V)} (h:H t=#[b,.tup,r]) (q:Z8 H ts R):Z8 H (.ref t :: ts) (r :: R)
theorem Z8.mono(k:#[Z]):∀ {ts:List V} {R:List (List V)},Z8 H ts R->Z8 H' ts R
 | _,_,.nil=>.nil
 | _,_,.cons h r=>.cons (k _ _ h) (Z8.mono k r)
theorem Z8.same(e:#[p])(h:Z8 H ts R):Z8 H' ts R:=h.mono fun t xs q=>e _ _ q
theorem Z8.length:∀ {ts:List V} {R:List (List V)},Z8 H ts R->ts.length=R.length
 | _,_,.nil=>rfl
 | _,_,.cons _ r=>by simp[Z8.length r]
theorem Z8.snoc(h:H t=#[b,.tup,x]):∀ {ts:List V} {R:List (List V)},Z8 H ts R->Z8 H (ts++[.ref t]) (R++[x])
 | _,_,.nil=>.cons h .nil
 | _,_,.cons h' r=>.cons h' (Z8.snoc h r)
theorem Z8.get:∀ {ts:List V} {R:List (List V)} {i:Nat} {x:V},Z8 H ts R->ts[i]?=some x->∃ t r,x=.ref t/\R[i]?=some r/\H t=#[z,r]
 | _,_,_,_,.nil,e=>by simp at e
 | _,_,0,_,.cons h _,e=>by simp at e;subst e;exact⟨_,_,rfl,rfl,h⟩
 | _,_,i+1,x,.cons _ r,e=>by
   obtain⟨t,n,h1,h2,h3⟩:=Z8.get (i:=i) (x:=x) r (by simpa using e);exact⟨t,n,h1,by simpa using h2,h3⟩
theorem Z8.getR:∀ {ts:List V} {R:List (List V)} {i:Nat} {r:List V},Z8 H ts R->R[i]?=some r->∃ t,ts[i]?=#[d,t]/\H t=#[z,r]
 | _,_,_,_,.nil,e=>by simp at e
 | _,_,0,_,.cons h _,e=>by simp at e;subst e;exact#[q,_,h]
 | _,_,i+1,x,.cons _ r,e=>by
   obtain⟨t,h1,h2⟩:=Z8.getR (i:=i) (r:=x) r (by simpa using e);exact⟨t,by simpa using h1,h2⟩
inductive B5(vs:#[a])(H:Hp)(Q:VK)(_:XK):Prop where
 | mk(i)(_:vs=[.int i])(_:Q (.bl true) H)
def Xm(ns:#[o])(k:Nat):Int:=(ns[k]?).getD 0
inductive zcx(K:Frag)(vs:#[a])(H:Hp)(Q:VK)(_:XK):Prop where
 | mk(b:Addr)(ns:#[o])(k:Nat)(_:vs=[.ref b,.int k])(_:SqL K H b (ns.map V.int))(_:Q (.int (Xm ns k)) H)
def zlv(c k:Int):Int:=(c*48271+k)%2147483647
def zng(c k:Int):Int:=(zlv c k*69621+7*k)%2147483629
def zn7(c k:Int):Int:=(zng c k*39373+zlv c k)%2147483587
def zjs(c k:Int):Int:=(zlv c k*2147483647+zng c k)*2147483647+zn7 c k
inductive zd9(vs:#[a])(H:Hp)(Q:VK)(_:XK):Prop where
 | mk(c)(k)(_:vs=[.int c,.int k])(_:Q (.int (zjs c k)) H)
def stp(c:Int):Int:=([1,2,5,10,100,500,998]:List Int).getD (c%7).toNat 0
def zfr(c:Int)(j:Nat):Int:=1+(c/7+stp c*(j:Int))%999
def J5(c:Int)(many:Nat):#[o]:=(List.range many).map (zfr c)
inductive Fd(vs:#[a])(H:Hp)(Q:VK)(_:XK):Prop where
 | mk(c:Int)(many:Nat)(_:vs=[.int c,.int many])(_:many<=1000)(_:#[am,l,(J5 c many).map,V.int,Q,l])
def B6(c:Int):Int:=([1,2,5,10,50,97,98]:List Int).getD (c%7).toNat 0
def C7(c:Int)(j:Nat):Int:=1+(c/7+B6 c*(j:Int))%99
def Oa(c:Int)(many:Nat):#[o]:=(List.range many).map (C7 c)
inductive zea(vs:#[a])(H:Hp)(Q:VK)(_:XK):Prop where
 | mk(c:Int)(many:Nat)(_:vs=[.int c,.int many])(_:many<=1000)(_:#[am,l,(Oa c many).map,V.int,Q,l])
def oneV(x:V):Prop:=x=.non\/∃ i,x=.int i
inductive Qk(vs:#[a])(H:Hp)(Q:VK)(_:XK):Prop where
 | mk(x)(_:vs=[x,x])(_:oneV x)(_:Q (.bl true) H)
inductive Ob(K:Frag)(vs:#[a])(H:Hp)(Q:VK)(_:XK):Prop where
 | mk(b c:Addr)(xs:#[a])(_:vs=[.ref b,.ref c])(_:#[w,H,b,xs])(_:SqL K H c xs)(_:(∀ x∈xs,oneV x))(_:xs.length<=1000)(_:Q (.bl true) H)
inductive Kx(K:Frag)(vs:#[a])(H:Hp)(Q:VK)(_:XK):Prop where
 | mk(b c:Addr)(xs:#[a])(_:vs=[.ref b,.ref c])(_:H b=#[b,.tup,xs])(_:SqT K H c xs)(_:(∀ x∈xs,oneV x))(_:xs.length<=1000)(_:Q (.bl true) H)
inductive O9(K:Frag)(vs:#[a])(H:Hp)(Q:VK)(_:XK):Prop where
 | mk(b c:Addr)(ts us:#[a])(R:List (List V))(_:vs=[.ref b,.ref c])(_:#[w,H,b,ts])(_:SqL K H c us)(_:Z8 H ts R)(_:Z8 H us R)(_:(∀ r∈R,r.length<=1000/\∀ x∈r,oneV x))(_:R.length<=1000)(_:Q (.bl true) H)
inductive zeb(K:Frag)(vs:#[a])(H:Hp)(Q:VK)(_:XK):Prop where
 | mk(b:Addr)(ns:#[o])(_:vs=[.ref b])(_:SqL K H b (ns.map V.int))(_:ns.length<=63)(_:∀ H',Q (.bl true) H')
structure Row where
 h:Int
 g:Int
 d:Int
 w:#[C]
def oV:#[C]->V
 | none=>.non
 | some n=>.int n
def row4(r:Row):#[a]:=[.int r.h,.int r.g,.int r.d,oV r.w]
theorem zlw(o:#[C]):oneV (oV o):=by
 cases o with
 | none=>exact .inl rfl
 | some n=>exact .inr ⟨n,rfl⟩
theorem zlx{H:Hp}{ts:#[a]}{rs:List Row}{i:Nat}{x:V}(h:Z8 H ts (rs.map row4))(e:ts[i]?=some x):∃ t r,x=.ref t/\rs[i]?=some r/\H t=some (.tup (row4 r)):=by
 obtain⟨t,r,h1,h2,h3⟩:=h.get e;rw[zx5] at h2;cases q:rs[i]? with
 | none=>rw[q] at h2;cases h2
 | some m=>rw[q] at h2;cases h2;exact⟨t,m,h1,rfl,h3⟩
def hit(n c:Int)(r:Row):Bool:=#[i,r.w=some n]&&(#[i,r.h=c]||#[i,r.g=c])
def B7(n c:Int)(Rs:#[T]):Nat×Nat:=Rs.foldl (fun p rs=>(p.1+1,if rs.any (hit n c) then p.1+1 else p.2)) (0,0)
def metS(Rs:#[T])(n c:Int):Nat:=(B7 n c Rs).2
theorem zhv(n c:Int)(Rs:#[T]):(B7 n c Rs).1=Rs.length:=by
 have h:∀ (Rs:List (List Row)) (p:Nat×Nat),(Rs.foldl (fun p rs=>(p.1+1,if rs.any (hit n c) then p.1+1 else p.2)) p).1=p.1+Rs.length:=fun Rs=>by
  induction Rs with
  | nil=>intro p;rfl
  | cons r Rs ih=>intro p;rw[List.foldl_cons,ih,zyk];simp only;omega
 have:=h Rs (0,0);unfold B7;rw[this];simp
theorem zfs(Rs:#[T])(rs:List Row)(n c:Int):metS (Rs++[rs]) n c=if rs.any (hit n c) then Rs.length+1 else metS Rs n c:=by
 unfold metS;have e:B7 n c (Rs++[rs])=((B7 n c Rs).1+1,if rs.any (hit n c) then (B7 n c Rs).1+1 else (B7 n c Rs).2):=by
  unfold B7;rw[List.foldl_append];rfl
 rw[e,zhv]
def zav(kvs:List (List Key×V))(f:Int->Int->Nat):Prop:=∀ n c:Int,valV kvs [inl n,inl c]=if f n c=0 then none else some (.int (f n c))
inductive Ql(H:Hp):#[a]->#[T]->Prop where
 | nil:Ql H [] []
 | cons {t:Addr} {ts rs:#[a]} {r:List Row} {R:#[T]} (h:H t=#[b,.tup,ts]) (q:Z8 H ts (r.map row4)) (n:Ql H rs R):Ql H (.ref t :: rs) (r :: R)
theorem Ql.mono(k:#[Z]):∀ {ts:List V} {R:List (List Row)},Ql H ts R->Ql H' ts R
 | _,_,.nil=>.nil
 | _,_,.cons h q r=>.cons (k _ _ h) (q.mono k) (Ql.mono k r)
theorem Ql.length:∀ {ts:List V} {R:List (List Row)},Ql H ts R->ts.length=R.length
 | _,_,.nil=>rfl
 | _,_,.cons _ _ r=>by simp[Ql.length r]
theorem Ql.snoc(h:H t=#[b,.tup,xs])(q:Z8 H xs (x.map row4)):∀ {ts:List V} {R:List (List Row)},Ql H ts R->Ql H (ts++[.ref t]) (R++[x])
 | _,_,.nil=>.cons h q .nil
 | _,_,.cons h' q' r=>.cons h' q' (Ql.snoc h q r)
theorem Ql.getR:∀ {ts:List V} {R:List (List Row)} {i:Nat} {r:List Row},Ql H ts R->R[i]?=some r->∃ t xs,ts[i]?=#[d,t]/\H t=#[z,xs]/\Z8 H xs (r.map row4)
 | _,_,_,_,.nil,e=>by simp at e
 | _,_,0,_,.cons h q _,e=>by simp at e;subst e;exact⟨_,_,rfl,h,q⟩
 | _,_,i+1,x,.cons _ _ r,e=>by
   obtain⟨t,xs,h1,h2,h3⟩:=Ql.getR (i:=i) (r:=x) r (by simpa using e);exact⟨t,xs,by simpa using h1,h2,h3⟩
def tot(Rs:#[T]):Nat:=(Rs.map List.length).sum
theorem zhw(Rs:#[T])(rs:List Row):tot (Rs++[rs])=tot Rs+rs.length:=by unfold tot;rw[zx7,List.sum_append];simp
structure Ul(C:Addr)(H:Hp)(p lr ld:Addr)(Rs:#[T]):Prop where
 at_:∃ dx,H p=some (.ins C dx [("rounds",.ref lr),("meetings",.ref ld)])
 rd:∃ rs,H lr=#[r,rs]/\Ql H rs Rs
 mt:∃ kvs,H ld=#[b,.dT,kvs]/\zav kvs (metS Rs)/\kvs.length<=2*tot Rs
theorem Ul.same{C:Addr}{H H':Hp}{p lr ld:Addr}{Rs:#[T]}(h:Ul C H p lr ld Rs)(e:#[p]):Ul C H' p lr ld Rs:=by
 obtain⟨⟨dx,h1⟩,⟨rs,h2,h3⟩,⟨kvs,h4,h5⟩⟩:=h;exact⟨⟨dx,e _ _ h1⟩,⟨rs,e _ _ h2,h3.mono fun t xs q=>e _ _ q⟩,⟨kvs,e _ _ h4,h5⟩⟩
theorem Ul.keep{C:Addr}{H H':Hp}{p lr ld:Addr}{Rs:#[T]}(h:Ul C H p lr ld Rs)(ep:∀ o,H p=#[c]->H' p=#[c])(er:∀ o,H lr=#[c]->H' lr=#[c])(ed:∀ o,H ld=#[c]->H' ld=#[c])(et:#[Z]):Ul C H' p lr ld Rs:=by
 obtain⟨⟨dx,h1⟩,⟨rs,h2,h3⟩,⟨kvs,h4,h5⟩⟩:=h;exact⟨⟨dx,ep _ h1⟩,⟨rs,er _ h2,h3.mono et⟩,⟨kvs,ed _ h4,h5⟩⟩
theorem R1:List.lookup ("rounds":Str) ([("rounds",V.ref x),("meetings",V.ref y)]:List (Str×V))=#[b,.ref,x]:=by simp only[zy2,beq_self_eq_true]
theorem Oc:List.lookup ("meetings":Str) ([("rounds",V.ref x),("meetings",V.ref y)]:List (Str×V))=#[b,.ref,y]:=by
 have e:(("meetings":Str) == "rounds")=false:=by decide +kernel
 simp only[zy2,e,beq_self_eq_true]
theorem J6{x y:Addr}{m:Str}(h:¬ m="rounds")(h':¬ m="meetings"):List.lookup m ([("rounds",V.ref x),("meetings",V.ref y)]:List (Str×V))=none:=by
 have e:(m == "rounds")=false:=zyr.mpr h;have e':(m == "meetings")=false:=zyr.mpr h';simp only[zy2,e,e',List.lookup_nil]
inductive zec(C:Addr)(vs:#[a])(H:Hp)(Q:VK)(_:XK):Prop where
 | mk(p)(dx)(_:vs=[.ref p])(_:H p=some (.ins C dx []))(_:∀ lr ld H',Ul C H' p lr ld []->(∀ b o,H b=some o->b≠p->H' b=some o)->H lr=none->H ld=none->lr≠ld->Q .non H')
inductive Ky(C:Addr)(vs:#[a])(H:Hp)(Q:VK)(_:XK):Prop where
 | mk(p)(lr)(ld)(Rs)(_:vs=[.ref p])(_:Ul C H p lr ld Rs)(_:Q (.int (Rs.length:Nat)) H)
inductive zed(C N:Addr)(vs:#[a])(H:Hp)(Q:VK)(E:XK):Prop where
 | mk(p)(lr)(ld)(Rs)(i)(_:vs=[.ref p,.int i])(_:Ul C H p lr ld Rs)(_:Yf i)(_:(i<1\/(Rs.length:Int)<i->#[D,N]))(_:∀ (k:Nat) r,i=(k:Int)+1->Rs[k]?=some r->∀ l ts,H l=none->Z8 H ts (r.map row4)->Q (.ref l) (upd H l (.lst ts)))
inductive zkl(C:Addr)(vs:#[a])(H:Hp)(Q:VK)(_:XK):Prop where
 | mk(p)(lr)(ld)(Rs)(n)(c)(_:vs=[.ref p,.int n,.int c])(_:Ul C H p lr ld Rs)(_:∀ H',Same H H'->Q (.int (metS Rs n c:Nat)) H')
theorem Na:([inl n,inl c]:List Key)=[inl n',inl c']↔n=n'/\c=c':=by
 constructor
 ·intro h;injection h with h1 h2;injection h2 with h2 _;exact⟨inl.inj h1,inl.inj h2⟩
 ·rintro⟨rfl,rfl⟩;rfl
theorem zav.put(h:zav kvs f)(n c:Int)(t:Nat)(ht:0<t):zav (putK kvs [inl n,inl c] (.int t)) fun n' c'=>if n'=n/\c'=c then t else f n' c':=fun n' c'=>by
 rw[U5];show _=if (if n'=n/\c'=c then t else f n' c')=0 then none else #[b,V.int,((if n'=n/\c'=c then t else f n' c':Nat):Int)]
 by_cases e:n'=n/\c'=c
 ·rw[if_pos e,if_pos (Na.mpr e),if_neg ⋯]
 ·rw[if_neg fun z=>e (Na.mp z),if_neg e];exact h n' c'
def Kz(Rs:#[T])(rs:List Row)(i:Nat)(n c:Int):Nat:=if (rs.take i).any (hit n c) then Rs.length+1 else metS Rs n c
theorem zft(Rs:#[T])(rs:List Row):Kz Rs rs 0=metS Rs:=by funext n c;unfold Kz;simp
theorem zhx(Rs:#[T])(rs:List Row):Kz Rs rs rs.length=metS (Rs++[rs]):=by funext n c;unfold Kz;rw[zyi,zfs]
theorem C8(e:rs[i]?=some r)(n c:Int):Kz Rs rs (i+1) n c=if hit n c r then Rs.length+1 else Kz Rs rs i n c:=by
 unfold Kz;rw[zzd,e,List.any_append];cases h1:(rs.take i).any (hit n c)<;>cases h2:hit n c r<;>simp[h2]
theorem zfu(e:rs[i]?=some r)(h:r.w=none):Kz Rs rs (i+1)=Kz Rs rs i:=by
 funext n c
 rw[C8 e];have:hit n c r=false:=by unfold hit;rw[h];simp
 rw[this];simp
theorem zfv(e:rs[i]?=some r)(h:r.w=some w) :
  (fun n c=>if n=w/\c=r.g then Rs.length+1 else (fun n c=>if n=w/\c=r.h then Rs.length+1 else Kz Rs rs i n c) n c)=Kz Rs rs (i+1):=by
 funext n c
 rw[C8 e];unfold hit;rw[h];show (if n=w/\c=r.g then Rs.length+1 else if n=w/\c=r.h then Rs.length+1 else Kz Rs rs i n c)=_;by_cases h1:n=w
 ·subst h1;by_cases h2:r.g=c
  ·rw[if_pos ⟨rfl,h2.symm⟩,if_pos (by simp[h2])]
  ·rw[if_neg fun z=>h2 z.2.symm];by_cases h3:r.h=c
   ·rw[if_pos ⟨rfl,h3.symm⟩,if_pos (by simp[h3])]
   ·rw[if_neg fun z=>h3 z.2.symm,if_neg (by simp[h2,h3])]
 ·rw[if_neg fun z=>h1 z.1,if_neg fun z=>h1 z.1,if_neg (by simp;intro z;exact absurd z.symm h1)]
theorem zhy{C:Addr}{H1 H':Hp}{x dx lr ld:Addr}(hx:H1 x=none)(hdx:H1 dx=none)(ne:dx≠x)(k:∀ b o,upd (upd H1 dx (.own x)) x (.ins C dx []) b=#[c]->b≠x->H' b=#[c])
  (h1:upd (upd H1 dx (.own x)) x (.ins C dx []) lr=none) (h2:upd (upd H1 dx (.own x)) x (.ins C dx []) ld=none):Same H1 H'/\H1 lr=none/\H1 ld=none:=by
 have fr:∀ {l:Addr},upd (upd H1 dx (.own x)) x (.ins C dx []) l=none->H1 l=none:=fun {l} q=>by
  have n1:l≠x:=fun z=>by rw[z,Ze] at q;cases q
  have n2:l≠dx:=fun z=>by rw[z,Zj ne,Ze] at q;cases q
  rw[Zj n1,Zj n2] at q;exact q
 refine⟨fun b o e=>k b o ?_ (Zh e hx),fr h1,fr h2⟩;rw[Zj (Zh e hx),Zj (Zh e hdx)];exact e
theorem znh{lr ld:Addr}:putF "meetings" (V.ref ld) [(("rounds":Str),V.ref lr)]=[(("rounds":Str),V.ref lr),(("meetings":Str),V.ref ld)]:=by
 show (if ("rounds":Str)="meetings" then _ else _)=_;rw[if_neg ⋯];rfl
theorem Yx(h:H l=none)(s:#[p]):Same H (upd H' l o):=fun b u e=>by
 rw[Zj (Zh e h)];exact s b u e
theorem zhz(h:oneV x):Pf x=true:=by rcases h with rfl|⟨i,rfl⟩<;>rfl
inductive RLs(H:Hp):#[t]->#[T]->Prop where
 | nil:RLs H [] []
 | cons {l:Addr} {ts:#[a]} {ls:#[t]} {r:List Row} {R:#[T]} (h:#[w,H,l,ts]) (q:Z8 H ts (r.map row4)) (n:RLs H ls R):RLs H (l :: ls) (r :: R)
theorem Dz(c:Int)(m:Nat):(Oa c m).length=m:=by unfold Oa;rw[zx1,zy6]
theorem Lg(c:Int)(m:Nat):(J5 c m).length=m:=by unfold J5;rw[zx1,zy6]
structure L1(C:Addr)(H0:Hp)(p lr ld kR:Addr)(ls:#[t])(R S:#[T])(H:Hp):Prop where
 base:Same H0 H
 led:Ul C H p lr ld R
 krs:#[ad,kR]
 rls:RLs H ls S
 sep:∀ l∈ls,l≠lr/\l≠kR
structure C1(H0:Hp)(lr ld kR:Addr):Prop where
 fr:H0 lr=none
 fd:H0 ld=none
 fk:H0 kR=none
 rk:lr≠kR
theorem K0(h1:∀ Q:Bool->Hp->Prop,Q b H->t σ H Q)(h2:∀ Q:Bool->Hp->Prop,Q c H->u σ H Q)(Q:Bool->Hp->Prop)(h:Q (b&&c) H):zkv t u σ H Q:=by
 refine h1 _ ?_;cases b with
 | true=>exact h2 _ h
 | false=>exact h
def S5(Rs:#[T])(n c rest:Int):Bool:=#[i,(if (0:Int)>(Rs.length:Nat)-rest then 0 else ((Rs.length:Nat):Int)-rest)<(metS Rs n c:Nat)]
inductive zaw(C:Addr)(vs:#[a])(H:Hp)(Q:VK)(_:XK):Prop where
 | mk(p)(lr)(ld)(Rs)(n)(c)(rest)(_:vs=[.int n,.int c,.ref p,.int rest])(_:Ul C H p lr ld Rs)(_:∀ H',Same H H'->Q (.bl (S5 Rs n c rest)) H')
def bw(b:Bool)(w:Str):List Str:=if b then [w] else []
def whyS(Rs:#[T])(n g c h gu d:Int)(o:Bool)(rest:Int):List Str :=
 bw o "away"++(bw (decide (g<d)) "grade"++(bw (decide (c=h)||decide (c=gu)) "club"++bw (S5 Rs n h rest||S5 Rs n gu rest) "met"))
inductive K1(K:Frag)(C:Addr)(vs:#[a])(H:Hp)(Q:VK)(_:XK):Prop where
 | mk(t1 t2 p lr ld:Addr)(Rs:#[T])(n g c h gu d rest:Int)(o:Bool)(_:vs=[.ref t1,.ref t2,.bl o,.ref p,.int rest])(_:H t1=#[b,.tup,[.int n,.int g,.int c]])(_:H t2=#[b,.tup,[.int h,.int gu,.int d]])(_:Ul C H p lr ld Rs)(_:#[am,l,(whyS Rs n g c h gu d o rest).map,V.str,Q,l])
inductive zee(K:Frag)(vs:#[a])(H:Hp)(Q:VK)(_:XK):Prop where
 | mk(b c:Addr)(xs:List Str)(_:vs=[.ref b,.ref c])(_:H b=some (.lst (xs.map V.str)))(_:SqL K H c (xs.map V.str))(_:xs.length<=1000)(_:Q (.bl true) H)
theorem zh0(Rs:#[T])(n g c h gu d:Int)(o:Bool)(rest:Int):(whyS Rs n g c h gu d o rest).length<=4:=by
 have hb:∀ b w,(bw b w).length<=1:=fun b w=>by cases b<;>simp[bw]
 unfold whyS;rw[zx4,zx4,zx4];have:=hb o "away";have:=hb (decide (g<d)) "grade";have:=hb (#[i,c=h]||#[i,c=gu]) "club";have:=hb (S5 Rs n h rest||S5 Rs n gu rest) "met";omega
def Gr(c:TT)(σ:L2.St)(H:Hp)(b:Bool):Prop:=∀ Q:Bool->Hp->Prop,(∀ H1,Same H H1->Q b H1)->c σ H Q
theorem zax(h1:Gr t σ H b)(h2:∀ H1,Same H H1->Gr u σ H1 c):Gr (tOr t u) σ H (b||c):=fun Q h=>by
 refine h1 _ fun H1 s1=>?_;cases b with
 | true=>exact h H1 s1
 | false=>exact h2 H1 s1 _ fun H2 s2=>h H2 (s1.trans s2)
theorem Qm(h:∀ Q:Bool->Hp->Prop,Q b H->c σ H Q):Gr c σ H b:=fun Q q=>h Q (q H (Same.refl H))
theorem S6(hc:Gr c σ H b)(h0:H0 l=none)(s:Same H0 H)(hl:H l=some (.lst (xs.map V.str)))(hx:xs.length<=100)(hv:σ[i]?=some #[d,l])
  (h3:∀ H',Same H0 H'->H' l=#[R,(xs++bw b w).map,V.str]->(∀ b o,H b=some o->b≠l->H' b=some o)->u D σ H'):Z0 (Dp c (znf (Nh i) (tC (.str w))) zdq) u D σ H:=by
 refine hc _ fun H1 s1=>?_;have hl1:=s1 _ _ hl;cases b with
 | true =>
   rw[if_pos rfl];refine⟨_,hv,l,_,rfl,hl1,_,hl1,Up (by rw[zx1];omega),?_⟩;refine h3 _ (Yx h0 (s.trans s1)) ?_ fun b o e n=>by rw[Zj n];exact s1 _ _ e
   rw[Ze,zx7];rfl
 | false =>
   rw[if_neg ⋯];exact h3 _ (s.trans s1) (by rw[show bw false w=[] from rfl,z0e];exact hl1) fun b o e _=>s1 _ _ e
theorem K2(b:Bool)(w:Str):(bw b w).length<=1:=by cases b<;>simp[bw]
theorem zjt:x<metS Rs n c↔∃ (j:Nat) (r:List Row),Rs[j]?=some r/\r.any (hit n c)=true/\x<j+1:=by
 have gen:∀ (Rs:List (List Row)) (p:Nat×Nat),p.2<=p.1->(x<(Rs.foldl (fun p rs=>(p.1+1,if rs.any (hit n c) then p.1+1 else p.2)) p).2↔(∃ (j:Nat) (r:List Row),Rs[j]?=some r/\r.any (hit n c)=true/\x<p.1+j+1)\/x<p.2):=fun Rs=>by
  induction Rs with
  | nil=>intro p hp;simp
  | cons r Rs ih =>
    intro p hp;rw[List.foldl_cons,ih _ (by show (if r.any (hit n c) then p.1+1 else p.2)<=p.1+1;split<;>omega)];show ((∃ (j:Nat) (r':List Row),Rs[j]?=some r'/\r'.any (hit n c)=true/\x<p.1+1+j+1)\/x<(if r.any (hit n c) then p.1+1 else p.2))↔_;constructor
    ·rintro(⟨j,r',h1,h2,h3⟩|h)
     ·exact .inl ⟨j+1,r',by simpa using h1,h2,by omega⟩
     ·by_cases hr:r.any (hit n c)=true
      ·rw[if_pos hr] at h;exact .inl ⟨0,r,rfl,hr,by omega⟩
      ·rw[if_neg hr] at h;exact .inr h
    ·rintro(⟨j,r',h1,h2,h3⟩|h)
     ·cases j with
      | zero =>
        have e:r=r':=by simpa using h1
        subst e;exact .inr (by rw[if_pos h2];omega)
      | succ j=>exact .inl ⟨j,r',by simpa using h1,h2,by omega⟩
     ·right
      split<;>omega
 have:=gen Rs (0,0) (zyc _);unfold metS B7;rw[this];simp
theorem zfw{Rs:#[T]}{n c rest:Int}:S5 Rs n c rest=true↔∃ (j:Nat) (r:List Row),Rs[j]?=some r/\r.any (hit n c)=true/\(Rs.length:Int)-rest<=j:=by
 unfold S5;rw[decide_eq_true_eq];have e:(if (0:Int)>(Rs.length:Nat)-rest then 0 else ((Rs.length:Nat):Int)-rest)<(metS Rs n c:Nat)↔(((Rs.length:Nat):Int)-rest).toNat<metS Rs n c:=by
  split<;>omega
 rw[e,zjt];constructor
 ·rintro⟨j,r,h1,h2,h3⟩;exact⟨j,r,h1,h2,by omega⟩
 ·rintro⟨j,r,h1,h2,h3⟩;exact⟨j,r,h1,h2,by omega⟩
theorem zh1(c:Int)(hi:i<40)(hj:j<40)(h:zfr c i=zfr c j):i=j:=by
 unfold zfr at h;have hs:stp c=1\/stp c=2\/stp c=5\/stp c=10\/stp c=100\/stp c=500\/stp c=998:=by
  unfold stp;have h0:0<=c%7:=by omega
  have h1:c%7<7:=by omega
  generalize c%7=r at h0 h1;obtain⟨k,rfl⟩:∃ k:Nat,r=k:=⟨r.toNat,by omega⟩;rw[zyh];have hk:k<7:=by omega
  match k,hk with
  | 0,_=>simp
  | 1,_=>simp
  | 2,_=>simp
  | 3,_=>simp
  | 4,_=>simp
  | 5,_=>simp
  | 6,_=>simp
 generalize c/7=x at h;rcases hs with e|e|e|e|e|e|e<;>rw[e] at h<;>omega +splitMinMax
end G
namespace G
open PySem PySem.Spec PyProof.Rows L2
abbrev P3:=Int×Int×Int
def pV(m:P3):#[a]:=[.int m.1,.int m.2.1,.int m.2.2]
theorem Ni{H:Hp}{ts:#[a]}{Ms:List P3}{i:Nat}{x:V}(h:Z8 H ts (Ms.map pV))(e:ts[i]?=some x):∃ t m,x=.ref t/\Ms[i]?=some m/\H t=some (.tup (pV m)):=by
 obtain⟨t,r,h1,h2,h3⟩:=h.get e;rw[zx5] at h2;cases q:Ms[i]? with
 | none=>rw[q] at h2;cases h2
 | some m=>rw[q] at h2;cases h2;exact⟨t,m,h1,rfl,h3⟩
theorem Z8.reverse:∀ {ts:List V} {R:List (List V)},Z8 H ts R->Z8 H ts.reverse R.reverse
 | _,_,.nil=>.nil
 | _,_,.cons h q=>by rw[zz8,zz8];exact(Z8.reverse q).snoc h
def Od(Rs:#[T])(h gu d:Int)(os:#[a])(rest:Int)(m:P3):Bool:=(whyS Rs m.1 m.2.1 m.2.2 h gu d (inV (.int m.1) os) rest).isEmpty
inductive zay(K:Frag)(C:Addr)(vs:#[a])(H:Hp)(Q:VK)(_:XK):Prop where
 | mk(lp lo tm p lr ld:Addr)(Rs:#[T])(ts:#[a])(Ms:List P3)(os:#[a])(h gu d rest:Int)(_:vs=[.ref lp,.ref tm,.ref lo,.ref p,.int rest])(_:#[w,H,lp,ts])(_:Z8 H ts (Ms.map pV))(_:#[w,H,lo,os])(_:(∀ x∈os,oneV x))(_:H tm=#[b,.tup,[.int h,.int gu,.int d]])(_:Ul C H p lr ld Rs)(_:Ms.length<=1000)(_:#[am,l,(Ms.filter (Od Rs h gu d os rest)).map,fun m=>V.int m.1,Q,l])
theorem zfx{Rs:#[T]}{n c rest:Int}(hr:0<=rest):S5 Rs n c rest=true↔∃ rs∈Rs.drop ((Rs.length:Int)-rest).toNat,∃ r∈rs,hit n c r=true:=by
 rw[zfw];constructor
 ·rintro⟨j,rs,h1,h2,h3⟩;obtain⟨r,hr1,hr2⟩:=List.any_eq_true.mp h2;refine⟨rs,?_,r,hr1,hr2⟩;have hk:((Rs.length:Int)-rest).toNat<=j:=by omega
  refine zyb (i:=j-((Rs.length:Int)-rest).toNat) ?_;rw[List.getElem?_drop,Nat.add_sub_cancel' hk];exact h1
 ·rintro⟨rs,h1,r,h2,h3⟩;obtain⟨i,hi,e⟩:=zzg h1;refine⟨((Rs.length:Int)-rest).toNat+i,rs,?_,List.any_eq_true.mpr ⟨r,h2,h3⟩,by omega⟩;rw[<- List.getElem?_drop,zx2 hi,e]
theorem Lh{js:List Nat}{tt:TT}{te:TE}{lo:Int}{n:Nat}{σ:L2.St}{H:Hp}{Q:VK}(p:Nat->Bool)(f:Nat->V)(hz:n<=1000)
  (ht:∀ (i:Nat) (R:Bool->Hp->Prop),i<n->R (p i) H->tt (cs js σ (.int (lo+i))) H R) (hs:∀ (i:Nat) (R:VK),i<n->p i=true->R (f i) H->te (cs js σ (.int (lo+i))) H R)
  (hd:∀ q,H q=none->Q (.ref q) (upd H q (.lst (((List.range n).filter p).map f)))):zat (Itr lo n) js tt te σ H Q:=by
 refine Qj (fun i ys H'=>H'=H/\ys=((List.range i).filter p).map f) #[y,rfl] (szN hz) (fun i ys H' ⟨_,e⟩=>by rw[e,zx1];exact zyg (zyw _ _) (by rw[zy6];exact zyc _)) (fun i ys H' hi ⟨e1,e2⟩=>?_) fun ys H' ⟨e1,e2⟩ q hq=>?_
 ·subst e1;refine ht i _ hi ?_;have e3:((List.range (i+1)).filter p).map f=ys++(if p i then [f i] else []):=by
   rw[e2,List.range_succ,zzk,zx7];cases hp:p i<;>simp[hp]
  cases hp:p i with
  | true =>
    rw[if_pos rfl];refine hs i _ hi hp ⟨rfl,?_⟩;rw[e3,hp];rfl
  | false =>
    rw[if_neg ⋯];refine⟨rfl,?_⟩;rw[e3,hp];simp
 ·subst e1;rw[e2];exact hd q hq
def Xz(xs:#[a]):List Nat:=(List.range xs.length).filter fun i=>#[i,xs[i]?=some .non]
inductive zcy(K:Frag)(vs:#[a])(H:Hp)(Q:VK)(_:XK):Prop where
 | mk(b:Addr)(xs:#[a])(_:vs=[.ref b])(_:#[w,H,b,xs])(_:(∀ x∈xs,oneV x))(_:xs.length<=100)(_:#[am,l,(Xz xs).map,fun i=>V.int (i:Nat),Q,l])
def Wa(xs:#[a])(n:Int):Option Nat:=(List.range xs.length).find? fun i=>#[i,xs[i]?=#[l,n]]
def oN:Option Nat->V
 | none=>.non
 | some i=>.int i
inductive C9(K:Frag)(vs:#[a])(H:Hp)(Q:VK)(_:XK):Prop where
 | mk(b:Addr)(xs:#[a])(n:Int)(_:vs=[.ref b,.int n])(_:#[w,H,b,xs])(_:(∀ x∈xs,oneV x))(_:xs.length<=100)(_:∀ H',Same H H'->Q (oN (Wa xs n)) H')
def Yz:#[H]->#[a]->#[a]
 | [],xs=>xs
 | (p,w) :: r,xs=>Yz r (xs.set p (oV w))
def Vz(s:Nat×Option Int):#[a]:=[.int (s.1:Nat),oV s.2]
inductive K3(K:Frag)(vs:#[a])(H:Hp)(Q:VK)(_:XK):Prop where
 | mk(b c:Addr)(xs ts:#[a])(st:#[H])(_:vs=[.ref b,.ref c])(_:#[w,H,b,xs])(_:#[w,H,c,ts])(_:Z8 H ts (st.map Vz))(_:(∀ s∈st,s.1<xs.length))(_:(∀ x∈xs,oneV x))(_:xs.length<=100)(_:st.length<=100)(_:∀ l H',H' l=#[r,Yz st xs]->#[p]->H l=none->#[I,l])
theorem Wo:∀ (st:List (Nat×Option Int)) (xs:List V),(Yz st xs).length=xs.length
 | [],_=>rfl
 | (p,w) :: r,xs=>by rw[Yz,Wo r,zzr]
theorem J7(xs:#[a])(n:Int):(Wa xs n=none/\∀ i:Nat,xs[i]?≠#[b,V.int,n])\/∃ i:Nat,Wa xs n=some i/\xs[i]?=some (V.int n):=by
 unfold Wa;cases h:(List.range xs.length).find? (fun i=>#[i,xs[i]?=#[l,n]]) with
 | none =>
   refine .inl ⟨rfl,fun i e=>?_⟩;have hi:i<xs.length:=(zx3.mp e).1;have:=List.find?_eq_none.mp h i (zza.mpr hi);exact this (zx9 e)
 | some i =>
   have:=List.find?_some h;exact .inr #[q,i,of_decide_eq_true this]
theorem zfy(xs:#[a])(k:Nat):Ks xs (some (k:Int)) none=xs.drop k:=by
 unfold Ks;rw[HT.sIx_nat,HT.sIx_none];by_cases h:k<=xs.length
 ·rw[Nat.min_eq_left h,<- z0b,zyi]
 ·rw[Nat.min_eq_right ⋯,List.drop_length,List.take_nil,List.drop_eq_nil_of_le ⋯]
inductive zef(vs:#[a])(H:Hp)(Q:VK)(_:XK):Prop where
 | mk(x)(_:vs=[.bl x,.bl x])(_:Q (.bl true) H)
theorem zly(K:Frag):PySem.W.kitOne K (.type "bool") (.type "bool")=some true:=rfl
inductive ILs(H:Hp):#[t]->#[A]->Prop where
 | nil:ILs H [] []
 | cons {l:Addr} {ls:#[t]} {r:#[o]} {R:#[A]} (h:H l=some (.lst (r.map V.int))) (n:ILs H ls R):ILs H (l :: ls) (r :: R)
theorem ILs.keep:∀ {ls:List Addr} {R:List (List Int)},(∀ l∈ls,∀ o,H l=some o->H' l=some o)->ILs H ls R->ILs H' ls R
 | _,_,_,.nil=>.nil
 | _,_,k,.cons h r=>.cons (k _ zyy _ h) (ILs.keep (fun l hl=>k l (zym _ hl)) r)
theorem ILs.same(e:#[p])(h:ILs H ls R):ILs H' ls R:=h.keep fun l _ o q=>e _ _ q
theorem ILs.length:∀ {ls:List Addr} {R:List (List Int)},ILs H ls R->ls.length=R.length
 | _,_,.nil=>rfl
 | _,_,.cons _ r=>by simp[ILs.length r]
theorem ILs.snoc(h:H l=some (.lst (x.map V.int))):∀ {ls:List Addr} {R:List (List Int)},ILs H ls R->ILs H (ls++[l]) (R++[x])
 | _,_,.nil=>.cons h .nil
 | _,_,.cons h' r=>.cons h' (ILs.snoc h r)
theorem ILs.has:∀ {ls:List Addr} {R:List (List Int)} {l:Addr},ILs H ls R->l∈ls->∃ xs,H l=#[r,xs]
 | _,_,_,.nil,e=>by simp at e
 | _,_,_,.cons h r,e=>by
   rcases zx8.mp e with rfl|e
   ·exact⟨_,h⟩
   ·exact ILs.has r e
theorem ILs.getR:∀ {ls:List Addr} {R:List (List Int)} {i:Nat} {r:List Int},ILs H ls R->R[i]?=some r->∃ l,ls[i]?=some l/\H l=#[R,r.map,V.int]
 | _,_,_,_,.nil,e=>by simp at e
 | _,_,0,_,.cons h _,e=>by simp at e;subst e;exact#[q,_,h]
 | _,_,i+1,x,.cons _ r,e=>by
   obtain⟨t,h1,h2⟩:=ILs.getR (i:=i) (r:=x) r (by simpa using e);exact⟨t,by simpa using h1,h2⟩
theorem ILs.getL:∀ {ls:List Addr} {R:List (List Int)} {i:Nat} {l:Addr},ILs H ls R->ls[i]?=some l->∃ r,R[i]?=some r/\H l=#[R,r.map,V.int]
 | _,_,_,_,.nil,e=>by simp at e
 | _,_,0,_,.cons h _,e=>by simp at e;subst e;exact#[q,_,h]
 | _,_,i+1,x,.cons _ r,e=>by
   obtain⟨t,h1,h2⟩:=ILs.getL (i:=i) (l:=x) r (by simpa using e);exact⟨t,by simpa using h1,h2⟩
structure Ph(rows:#[A])(nu:#[o]):Prop where
 few:rows.length<=20
 crowd:nu.length<=30
 inj:nu.Nodup
 rng:∀ n∈nu,1<=n/\n<=999
 sub:∀ r∈rows,r.Nodup/\∀ n∈r,n∈nu
structure Yr(rows:#[A])(gs:#[a]):Prop where
 len:gs.length=rows.length
 one:∀ x∈gs,oneV x
 may:∀ (k:Nat) (n:Int),gs[k]?=#[l,n]->∃ r,rows[k]?=some r/\n∈r
 inj:∀ (j k:Nat) (n:Int),gs[j]?=#[l,n]->gs[k]?=#[l,n]->j=k
def Nb(rows:#[A])(gs:#[a])(p:Nat):Prop:=∃ S:Nat->Prop,S p/\∀ q,S q->q<rows.length/\∀ r,rows[q]?=some r->∀ n∈r,∃ q',q' < p/\gs[q']?=#[l,n]/\S q'
def V3(rows:#[A])(gs:#[a]):Prop:=∀ p,gs[p]?=some .non->Nb rows gs p
inductive zh2(K:Frag)(vs:#[a])(H:Hp)(Q:VK)(_:XK):Prop where
 | mk(l:Addr)(ls:#[t])(rows:#[A])(nu:#[o])(_:vs=[.ref l])(_:#[ad,l])(_:ILs H ls rows)(_:Ph rows nu)(_:∀ l' gs H',H' l'=#[r,gs]->Yr rows gs->V3 rows gs->#[p]->H l'=none->#[I,l'])
theorem zeg{n:Int}{r:#[o]}:inV (.int n) (r.map V.int)=#[i,n∈r]:=by
 induction r with
 | nil=>rfl
 | cons x r ih =>
   unfold inV at ih ⊢;rw[zyf,zz7,ih];have e:eqV (.int x) (.int n)=#[i,n=x]:=by
    show (x == n)=_;by_cases h:n=x
    ·subst h;simp
    ·rw[zye h];exact zyr.mpr (Ne.symm h)
   rw[e];by_cases h:n=x
   ·subst h;simp
   ·by_cases h2:n∈r<;>simp[h,h2]
theorem zh3{r:#[o]}:∀ x∈r.map V.int,oneV x:=fun x hx=>by
 obtain⟨n,_,rfl⟩:=zya.mp hx;exact .inr ⟨n,rfl⟩
end G
namespace G
open PySem PySem.Spec PyProof.Rows L2
def newS(st:#[H])(k:Nat):#[a]:=(st.filter fun s=>decide (s.1=k)).map fun s=>oV s.2
theorem Ba:∀ (st:List (Nat×Option Int)) (xs:List V) (k:Nat),(st.map (·.1)).Nodup->k<xs.length->(Yz st xs)[k]?=some ((newS st k++[xs.getD k .non]).getD 0 .non)
 | [],xs,k,_,hk=>by
   rw[Yz,zx2 hk];show _=some (xs.getD k .non);rw[zyt,zx2 hk];rfl
 | (p,w) :: r,xs,k,nd,hk=>by
   rw[zyf,zys] at nd;rw[Yz,Ba r _ k nd.2 (by rw[zzr];exact hk)];by_cases h:p=k
   ·subst h;have e:newS r p=[]:=by
     unfold newS;rw[List.map_eq_nil_iff,List.filter_eq_nil_iff];intro s hs z;exact nd.1 (zya.mpr ⟨s,hs,of_decide_eq_true z⟩)
    have e2:newS ((p,w) :: r) p=oV w :: newS r p:=by
     unfold newS;rw[zzf,if_pos (zx9 rfl),zyf]
    rw[e2,e];show some ((xs.set p (oV w)).getD p .non)=#[b,oV,w];rw[zyt,zzb hk];rfl
   ·have e2:newS ((p,w) :: r) k=newS r k:=by
     unfold newS;rw[zzf,if_neg (by rw[zye h];decide)]
    rw[e2];have e3:(xs.set p (oV w)).getD k .non=xs.getD k .non:=by
     rw[zyt,zyt,zy3 h]
    rw[e3]
section
variable{rows:#[A]}{gs:#[a]}
def adjN(rows:#[A])(gs:#[a])(q:Nat)(n:Int)(q':Nat):Prop:=(∃ r,rows[q]?=some r/\n∈r)/\gs[q']?=#[l,n]
def N5(rows:#[A])(gs:#[a])(q:Nat)(n:Int):Prop:=(∃ r,rows[q]?=some r/\n∈r)/\∀ j:Nat,gs[j]?≠some (V.int n)
def U3(rows:#[A])(gs:#[a])(q:Nat):Prop:=∃ n,N5 rows gs q n
inductive Walk(rows:#[A])(gs:#[a])(p:Nat):Nat->Nat->Prop where
 | nil:#[O,p,p,0]
 | snoc {q q' k:Nat} {n:Int} (h:#[O,p,q,k]) (a:adjN rows gs q n q'):#[O,p,q',k+1]
theorem Walk.cons(a:adjN rows gs p n p')(h:#[O,p',q,k]):#[O,p,q,k+1]:=by
 induction h with
 | nil=>exact .snoc .nil a
 | snoc _ a' ih=>exact .snoc ih a'
inductive Ch(rows:#[A])(gs:#[a]):Nat->#[H]->Nat->#[C]->Prop where
 | one (q:Nat) (w:#[C]):Ch rows gs q [(q,w)] q w
 | step {q q' e:Nat} {n:Int} {st:#[H]} {w:#[C]} (a:adjN rows gs q n q') (h:Ch rows gs q' st e w):Ch rows gs q ((q,some n) :: st) e w
theorem Ch.pos{q e:Nat}{st:#[H]}{w:#[C]}(h:#[Y]):0<st.length:=by cases h<;>simp
theorem Ch.walk{q e:Nat}{st:#[H]}{w:#[C]}(h:#[Y]):#[O,q,e,st.length-1]:=by
 induction h with
 | one q w=>exact .nil
 | step a h ih =>
   have:=h.pos;have e:=Walk.cons a ih;rw[zyk,Nat.add_sub_cancel];rw[Nat.sub_add_cancel this] at e;exact e
theorem Ch.drop{q e:Nat}{st:#[H]}{w:#[C]}(h:#[Y]):∀ x∈st.map (·.1),∃ st',Ch rows gs x st' e w/\st'.length<=st.length:=by
 induction h with
 | one q w=>intro x hx;simp at hx;subst hx;exact⟨_,.one _ _,zyc _⟩
 | @step q q' e n st w a h ih =>
   intro x hx;rw[zyf] at hx;rcases zx8.mp hx with z|z
   ·subst z;exact⟨_,.step a h,zyc _⟩
   ·obtain⟨st',h1,h2⟩:=ih x z;exact⟨st',h1,by rw[zyk];omega⟩
theorem Ch.hd{q e:Nat}{st:#[H]}{w:#[C]}(h:#[Y]):∃ x r,st=(q,x) :: r:=by cases h<;>exact⟨_,_,rfl⟩
theorem Ch.last{q e:Nat}{st:#[H]}{w:#[C]}(h:#[Y]):e∈st.map (·.1):=by
 induction h with
 | one q w=>simp
 | step a h ih=>rw[zyf];exact zym _ ih
theorem Ch.nodup{q e:Nat}{st:#[H]}{w:#[C]}(h:#[Y])(hm:∀ k,#[O,q,e,k]->st.length<=k+1):(st.map (·.1)).Nodup:=by
 induction h with
 | one q w=>simp
 | @step q q' e n st w a h ih =>
   rw[zyf,zys];refine⟨fun hq=>?_,ih fun k hk=>?_⟩
   ·obtain⟨st',h1,h2⟩:=h.drop q hq;have:=hm _ h1.walk;have:=h1.pos;rw[zyk] at *;omega
   ·have:=hm _ (Walk.cons a hk);rw[zyk] at this;omega
theorem Ch.mem{q e:Nat}{st:#[H]}{w:#[C]}(h:#[Y]):∀ (k:Nat) (n:Int),(k,some n)∈st->(adjN rows gs k n k\/True)/\(((∃ r,rows[k]?=some r/\n∈r)/\∃ k',gs[k']?=some (V.int n)/\k'∈st.tail.map (·.1))\/(w=some n/\k=e)):=by
 induction h with
 | one q w =>
   intro k n hk;simp at hk;exact⟨.inr trivial,.inr ⟨hk.2.symm,hk.1⟩⟩
 | @step q q' e n' st w a h ih =>
   intro k n hk;refine⟨.inr trivial,?_⟩;rcases zx8.mp hk with z|z
   ·cases z;refine .inl ⟨a.1,q',a.2,?_⟩;obtain⟨x,r,e⟩:=h.hd;rw[e];simp
   ·rcases(ih k n z).2 with ⟨h1,k',h2,h3⟩|h1
    ·refine .inl ⟨h1,k',h2,?_⟩;show k'∈st.map (·.1);obtain⟨x,r,e⟩:=h.hd;rw[e] at h3 ⊢;exact zym _ h3
    ·exact .inr h1
theorem Ch.inj{q e:Nat}{st:#[H]}{w:#[C]}(FP:Yr rows gs)(h:#[Y])(hw:∀ n,w=some n->∀ j:Nat,gs[j]?≠#[b,V.int,n])(nd:(st.map (·.1)).Nodup):∀ (j k:Nat) (n:Int),(j,some n)∈st->(k,some n)∈st->j=k:=by
 induction h with
 | one q w=>intro j k n h1 h2;simp at h1 h2;rw[h1.1,h2.1]
 | @step q q' e n' st w a h ih =>
   intro j k n h1 h2;rw[zyf,zys] at nd;have key:∀ k,(k,some n')∈st->False:=fun k hk=>by
    rcases(h.mem k n' hk).2 with ⟨_,k',h2,h3⟩|⟨h1,_⟩
    ·have e:k'=q':=FP.inj k' q' n' h2 a.2;subst e;obtain⟨x,r,e⟩:=h.hd;have nd2:=nd.2;rw[e] at nd2 h3;rw[zyf,zys] at nd2;exact nd2.1 h3
    ·exact hw n' h1 q' a.2
   rcases zx8.mp h1 with z1|z1<;>rcases zx8.mp h2 with z2|z2
   ·cases z1;cases z2;rfl
   ·cases z1;exact(key k z2).elim
   ·cases z2;exact(key j z1).elim
   ·exact ih hw nd.2 j k n z1 z2
theorem zh4{st:#[H]}{k:Nat}(nd:(st.map (·.1)).Nodup):(k∉st.map (·.1)/\newS st k=[])\/∃ w,(k,w)∈st/\newS st k=[oV w]:=by
 induction st with
 | nil=>exact .inl ⟨by simp,rfl⟩
 | cons s r ih =>
   obtain⟨p,w⟩:=s;rw[zyf,zys] at nd;by_cases h:p=k
   ·subst h;refine .inr ⟨w,zyy,?_⟩;rcases ih nd.2 with ⟨_,e⟩|⟨w',h1,_⟩
    ·have e2:newS ((p,w) :: r) p=oV w :: newS r p:=by
      unfold newS;rw[zzf,if_pos (zx9 rfl),zyf]
     rw[e2,e]
    ·exact absurd (zya.mpr ⟨_,h1,rfl⟩) nd.1
   ·have e2:newS ((p,w) :: r) k=newS r k:=by
     unfold newS;rw[zzf,if_neg (by rw[zye h];decide)]
    rw[e2];rcases ih nd.2 with ⟨h1,e⟩|⟨w',h1,e⟩
    ·exact .inl ⟨fun z=>by rcases zx8.mp z with q|q;exact h q.symm;exact h1 q,e⟩
    ·exact .inr ⟨w',zym _ h1,e⟩
theorem W5{st:#[H]}{xs:#[a]}{k:Nat}(nd:(st.map (·.1)).Nodup)(hk:k<xs.length):(k∉st.map (·.1)/\(Yz st xs)[k]?=xs[k]?)\/∃ w,(k,w)∈st/\(Yz st xs)[k]?=#[b,oV,w]:=by
 rw[Ba st xs k nd hk];rcases zh4 (k:=k) nd with ⟨h,e⟩|⟨w,h,e⟩
 ·refine .inl ⟨h,?_⟩;rw[e];show some (xs.getD k .non)=_;rw[zyt,zx2 hk];rfl
 ·exact .inr ⟨w,h,by rw[e];rfl⟩
theorem Ch.lt{q e:Nat}{st:#[H]}{w:#[C]}(FP:Yr rows gs)(h:#[Y])(hq:q<rows.length):∀ s∈st,s.1<rows.length:=by
 induction h with
 | one q w=>intro s hs;simp at hs;subst hs;exact hq
 | @step q q' e n st w a h ih =>
   intro s hs;rcases zx8.mp hs with z|z
   ·subst z;exact hq
   ·refine ih ?_ s z;have:=(zx3.mp a.2).1;rw[FP.len] at this;exact this
theorem Ch.fill{q e:Nat}{st:#[H]}{w:#[C]}(FP:Yr rows gs)(h:#[Y])(hq:q<rows.length)(hw:∀ n,w=some n->N5 rows gs e n)(nd:(st.map (·.1)).Nodup):Yr rows (Yz st gs):=by
 have hlt:=h.lt FP hq;have hinj:=h.inj FP (fun n hn=>(hw n hn).2) nd;have src:∀ (k:Nat) (n:Int),(k,some n)∈st->(∃ r,rows[k]?=some r/\n∈r)/\∀ j:Nat,gs[j]?=#[b,V.int,n]->j∈st.map (·.1):=fun k n hk=>by
  rcases(h.mem k n hk).2 with ⟨h1,k',h2,h3⟩|⟨h1,rfl⟩
  ·refine⟨h1,fun j hj=>?_⟩;rw[FP.inj j k' n hj h2];obtain⟨x,r,e⟩:=h.hd;rw[e] at h3 ⊢;exact zym _ h3
  ·exact⟨(hw n h1).1,fun j hj=>absurd hj ((hw n h1).2 j)⟩
 have cs:∀ k,k<gs.length->(k∉st.map (·.1)/\(Yz st gs)[k]?=gs[k]?)\/∃ w,(k,w)∈st/\(Yz st gs)[k]?=#[b,oV,w]:=fun k hk=>W5 nd hk;have at_:∀ (k:Nat) (n:Int),(Yz st gs)[k]?=#[b,V.int,n]->(k∉st.map (·.1)/\gs[k]?=#[b,V.int,n])\/(k,some n)∈st:=fun k n hk=>by
  have hkl:k<gs.length:=by
   have:=(zx3.mp hk).1;rw[Wo] at this;exact this
  rcases cs k hkl with ⟨h1,e⟩|⟨w',h1,e⟩
  ·exact .inl ⟨h1,by rw[<- e];exact hk⟩
  ·rw[e] at hk;cases w' with
   | none=>cases hk
   | some m=>cases hk;exact .inr h1
 refine⟨by rw[Wo];exact FP.len,fun x hx=>?_,fun k n hk=>?_,fun j k n hj hk=>?_⟩
 ·obtain⟨k,hk,rfl⟩:=zzg hx;have hkl:k<gs.length:=by rw[Wo] at hk;exact hk
  have e0:=zx2 hk;rcases cs k hkl with ⟨_,e⟩|⟨w',_,e⟩
  ·rw[e,zx2 hkl] at e0;rw[<- Option.some.inj e0];exact FP.one _ (zyx hkl)
  ·rw[e] at e0;rw[<- Option.some.inj e0];exact zlw w'
 ·rcases at_ k n hk with ⟨_,h1⟩|h1
  ·exact FP.may k n h1
  ·exact(src k n h1).1
 ·rcases at_ j n hj with ⟨a1,a2⟩|a1<;>rcases at_ k n hk with ⟨b1,b2⟩|b1
  ·exact FP.inj j k n a2 b2
  ·exact absurd ((src k n b1).2 j a2) a1
  ·exact absurd ((src j n a1).2 k b2) b1
  ·exact hinj j k n a1 b1
theorem Ch.out{p0 q e:Nat}{n0:Int}{w:#[C]}{st:#[H]}{S:Nat->Prop}(FP:Yr rows gs)(hS:∀ q,S q->q<rows.length/\∀ r,rows[q]?=some r->∀ n∈r,∃ q',q' < p0/\gs[q']?=#[l,n]/\S q')(h:#[Y]):w=some n0->N5 rows gs e n0->¬ S q:=by
 induction h with
 | one q w =>
   intro hw hf hs;obtain⟨r,h1,h2⟩:=hf.1;obtain⟨q',_,h3,_⟩:=(hS _ hs).2 r h1 n0 h2;exact hf.2 q' h3
 | @step q q' e n st w a h ih =>
   intro hw hf hs;obtain⟨r,h1,h2⟩:=a.1;obtain⟨q'',_,h3,h4⟩:=(hS q hs).2 r h1 n h2;have:q''=q':=FP.inj q'' q' n h3 a.2;subst this;exact ih hw hf h4
theorem Nb.behind{p0 q e:Nat}{n0:Int}{st:#[H]}(FP:Yr rows gs)(S0:Nb rows gs p0)(h:Ch rows gs q st e (some n0))(hf:N5 rows gs e n0)(hq:q<rows.length)(nd:(st.map (·.1)).Nodup):Nb rows (Yz st gs) p0:=by
 obtain⟨S,hp,hS⟩:=S0;have outAll:∀ x∈st.map (·.1),¬ S x:=fun x hx=>by
  obtain⟨st',h1,_⟩:=h.drop x hx;exact h1.out FP hS rfl hf
 refine⟨S,hp,fun q1 h1=>⟨(hS q1 h1).1,fun r hr n hn=>?_⟩⟩;obtain⟨q',h2,h3,h4⟩:=(hS q1 h1).2 r hr n hn;refine⟨q',h2,?_,h4⟩;have hkl:q' < gs.length:=(zx3.mp h3).1;rcases W5 nd hkl with ⟨_,e⟩|⟨w,h5,_⟩
 ·rw[e];exact h3
 ·exact absurd h4 (outAll q' (zya.mpr ⟨_,h5,rfl⟩))
structure Xw(rows:#[A])(gs:#[a])(p:Nat)(st:#[H])(e:Nat)(w:#[C]):Prop where
 ch:Ch rows gs p st e w
 free:∀ n,w=some n->N5 rows gs e n/\∀ q k,#[O,p,q,k]->U3 rows gs q->st.length<=k+1
 none:w=none->(∀ q k,Walk rows gs p q k->¬ U3 rows gs q)/\(∀ q k,Walk rows gs p q k->q<=e)/\∀ k,#[O,p,e,k]->st.length<=k+1
theorem Xw.nodup{p e:Nat}{st:#[H]}{w:#[C]}(c:Xw rows gs p st e w):(st.map (·.1)).Nodup:=by
 refine c.ch.nodup fun k hk=>?_;cases h:w with
 | none=>exact(c.none h).2.2 k hk
 | some n=>exact(c.free n h).2 e k hk ⟨n,(c.free n h).1⟩
theorem Xw.fill{p e:Nat}{st:#[H]}{w:#[C]}(FP:Yr rows gs)(c:Xw rows gs p st e w)(hp:p<rows.length):Yr rows (Yz st gs):=c.ch.fill FP hp (fun n hn=>(c.free n hn).1) c.nodup
theorem zh5(FP:Yr rows gs)(hp:p<rows.length)(ha:∀ q n,gs[q]?=#[b,V.int,n]->q<p)(hn:∀ q k,#[O,p,q,k]->¬ U3 rows gs q):Nb rows gs p:=by
 refine⟨fun q=>∃ k,#[O,p,q,k],⟨0,.nil⟩,fun q ⟨k,hk⟩=>⟨?_,fun r hr n hnr=>?_⟩⟩
 ·cases hk with
  | nil=>exact hp
  | snoc _ a =>
    have:=(zx3.mp a.2).1;rw[FP.len] at this;exact this
 ·by_cases hx:∃ j:Nat,gs[j]?=some (V.int n)
  ·obtain⟨j,hj⟩:=hx;exact⟨j,ha j n hj,hj,k+1,.snoc hk ⟨⟨r,hr,hnr⟩,hj⟩⟩
  ·exact absurd ⟨n,⟨r,hr,hnr⟩,fun j hj=>hx ⟨j,hj⟩⟩ (hn q k hk)
end
section
variable{rows:#[A]}{gs:#[a]}{p:Nat}
structure Bfs(rows:#[A])(gs:#[a])(p:Nat)(line:List Nat)(dep:Nat->Nat):Prop where
 nodup:line.Nodup
 memp:p∈line
 d0:dep p=0
 walk:∀ q∈line,#[O,p,q,dep q]
 sorted:∀ (i j q q':Nat),i<=j->line[i]?=some q->line[j]?=some q'->dep q<=dep q'
def Done(rows:#[A])(gs:#[a])(line:List Nat)(dep:Nat->Nat)(dn:Nat):Prop:=∀ (i q:Nat),i<dn->line[i]?=some q->∀ n q',adjN rows gs q n q'->q'∈line/\dep q'<=dep q+1
theorem zfz(rows:#[A])(gs:#[a])(p:Nat):Bfs rows gs p [p] fun _=>0:=by
 refine⟨by simp,by simp,rfl,fun q hq=>?_,fun i j q q' _ _ _=>zyc _⟩;simp at hq;subst hq;exact .nil
variable{line:List Nat}{dep:Nat->Nat}{dn:Nat}
theorem Bfs.reach(B:Bfs rows gs p line dep)(D:Done rows gs line dep dn)(h:#[O,p,q,k]):(q∈line/\dep q<=k)\/∃ j q',dn<=j/\line[j]?=some q'/\dep q' < k:=by
 induction h with
 | nil=>exact .inl ⟨B.memp,by rw[B.d0];exact zyc _⟩
 | @snoc q q' k n h a ih =>
   rcases ih with ⟨h1,h2⟩|⟨j,x,h1,h2,h3⟩
   ·obtain⟨i,hi,e⟩:=zzg h1;have e':line[i]?=some q:=by rw[zx2 hi,e]
    by_cases hd:i<dn
    ·obtain⟨a1,a2⟩:=D i q hd e' n q' a;exact .inl ⟨a1,by omega⟩
    ·exact .inr ⟨i,q,by omega,e',by omega⟩
   ·exact .inr ⟨j,x,h1,h2,by omega⟩
theorem Bfs.full(B:Bfs rows gs p line dep)(D:Done rows gs line dep line.length)(h:#[O,p,q,k]):q∈line/\dep q<=k:=by
 rcases B.reach D h with z|⟨j,x,h1,h2,_⟩
 ·exact z
 ·have:=(zx3.mp h2).1;omega
theorem Bfs.early(B:Bfs rows gs p line dep)(D:Done rows gs line dep dn)(hh:line[dn]?=some here)(h:#[O,p,q,k])(hk:k<dep here):∃ i,i<dn/\line[i]?=some q:=by
 rcases B.reach D h with ⟨h1,h2⟩|⟨j,x,h1,h2,h3⟩
 ·obtain⟨i,hi,e⟩:=zzg h1;have e':line[i]?=some q:=by rw[zx2 hi,e]
  refine⟨i,?_,e'⟩;by_cases hd:i<dn
  ·exact hd
  ·have:=B.sorted dn i here q ⋯ hh e';omega
 ·have:=B.sorted dn j here x h1 hh h2;omega
theorem Bfs.fewest(B:Bfs rows gs p line dep)(D:Done rows gs line dep dn)(hh:line[dn]?=some here)(hno:∀ (i q:Nat),i<dn->line[i]?=some q->¬ U3 rows gs q)(h:#[O,p,q,k])(hf:U3 rows gs q):dep here+1<=k+1:=by
 by_cases hk:k<dep here
 ·obtain⟨i,hi,e⟩:=B.early D hh h hk;exact absurd hf (hno i q hi e)
 ·omega
def V4(dep:Nat->Nat)(q d:Nat):Nat->Nat:=fun x=>if x=q then d else dep x
theorem Bfs.app(B:Bfs rows gs p line dep)(hh:line[dn]?=some here)(near:∀ x∈line,dep x<=dep here+1)(a:adjN rows gs here n q')(hn:q'∉line) :
  Bfs rows gs p (line++[q']) (V4 dep q' (dep here+1))/\(∀ x∈line,V4 dep q' (dep here+1) x=dep x)/\∀ x∈line++[q'],V4 dep q' (dep here+1) x<=dep here+1:=by
 have old:∀ x∈line,V4 dep q' (dep here+1) x=dep x:=fun x hx=>by
  unfold V4;rw[if_neg fun (z:x=q')=>hn (by rw[<- z];exact hx)]
 have new:V4 dep q' (dep here+1) q'=dep here+1:=by unfold V4;rw[if_pos rfl]
 have hhm:=zyb hh;have all:∀ x∈line++[q'],V4 dep q' (dep here+1) x<=dep here+1:=fun x hx=>by
  rcases zyd.mp hx with z|z
  ·rw[old x z];exact near x z
  ·rw[zx6.mp z,new];exact zyc _
 refine⟨⟨B1 B.nodup hn,zyp _ B.memp,by rw[old p B.memp];exact B.d0,fun q hq=>?_,fun i j x y hij hx hy=>?_⟩,old,all⟩
 ·rcases zyd.mp hq with z|z
  ·rw[old q z];exact B.walk q z
  ·rw[zx6.mp z,new];exact .snoc (B.walk here hhm) a
 ·by_cases hj:j<line.length
  ·rw[zy0 hj] at hy;rw[zy0 ⋯] at hx;rw[old x (zyb hx),old y (zyb hy)];exact B.sorted i j x y hij hx hy
  ·rw[zyz ⋯] at hy;have:y=q':=by
    cases e:j-line.length with
    | zero=>rw[e] at hy;simpa using hy.symm
    | succ m=>rw[e] at hy;simp at hy
   subst this;rw[new];exact all x (zyb hx)
theorem Done.app(D:Done rows gs line dep dn)(hd:dn<=line.length)(hl:∃ r,line'=line++r)(he:∀ x∈line,dep' x=dep x):Done rows gs line' dep' dn:=fun i q hi e n q' a=>by
 obtain⟨r,rfl⟩:=hl;rw[zy0 ⋯] at e;obtain⟨h1,h2⟩:=D i q hi e n q' a;exact⟨zyp _ h1,by rw[he q' h1,he q (zyb e)];exact h2⟩
def T2(rows:#[A])(gs:#[a])(p:Nat)(line:List Nat)(dep:Nat->Nat)(fr:Nat->Option (Nat×Int)):Prop:=fr p=none/\∀ q∈line,q≠p->∃ par n,fr q=some (par,n)/\par∈line/\adjN rows gs par n q/\dep q=dep par+1
theorem T2.back(d0:dep p=0)(F:T2 rows gs p line dep fr):∀ (d q e:Nat) (w:Option Int) (st:List (Nat×Option Int)),dep q=d->q∈line->#[Y]->∃ pre,Ch rows gs p (pre++st) e w/\pre.length=d:=fun d=>by
 induction d with
 | zero =>
   intro q e w st hd hq h;by_cases hp:q=p
   ·subst hp;exact⟨[],h,rfl⟩
   ·obtain⟨par,n,_,_,_,h4⟩:=F.2 q hq hp;omega
 | succ d ih =>
   intro q e w st hd hq h;by_cases hp:q=p
   ·subst hp;rw[d0] at hd;cases hd
   ·obtain⟨par,n,h1,h2,h3,h4⟩:=F.2 q hq hp;obtain⟨pre,h5,h6⟩:=ih par e w _ ⋯ h2 (.step h3 h);exact⟨pre++[(par,some n)],by rw[zzy];exact h5,by rw[zx4,h6];rfl⟩
theorem zcz{here:Nat}{n:Int}{st:#[H]}(B:Bfs rows gs p line dep)(D:Done rows gs line dep dn)(hh:line[dn]?=some here)(hno:∀ (i q:Nat),i<dn->line[i]?=some q->¬ U3 rows gs q)(hf:N5 rows gs here n)(c:Ch rows gs p st here (some n))(hl:st.length=dep here+1):Xw rows gs p st here (some n) :=
 ⟨c,fun m e=>by cases e;exact⟨hf,fun q k hk hq=>by rw[hl];exact B.fewest D hh hno hk hq⟩,(fun z=>nomatch z)⟩
theorem zc0{e:Nat}{st:#[H]}(B:Bfs rows gs p line dep)(D:Done rows gs line dep line.length)(hno:∀ q∈line,¬ U3 rows gs q)(he:∀ q∈line,q<=e)(c:Ch rows gs p st e none)(hl:st.length=dep e+1):Xw rows gs p st e none :=
 ⟨c,(fun m z=>nomatch z),fun _=>⟨fun q k hk=>hno q (B.full D hk).1,fun q k hk=>he q (B.full D hk).1,fun k hk=>by rw[hl];have:=(B.full D hk).2;omega⟩⟩
end
end G
namespace L2
open PySem PySem.Spec PyProof.Rows
inductive zlz(x:V)(vs:#[a])(H:Hp)(Q:VK):Prop where
 | mk(l:Addr)(xs:#[a])(y:V)(j:Nat)(_:x=.ref l)(_:vs=[y])(_:#[w,H,l,xs])(_:Pf y=true)(_:xs.all Pf=true)(_:(∃ z,xs[j]?=some z/\eqV z y=true))(_:(∀ m z,m<j->xs[m]?=some z->eqV z y=false))(_:Q (.int (j:Nat)) H)
theorem zh6:MtM X "list.index" zlz:=by
 intro pins s σ H x vs v us Q I rx rv h;obtain⟨l,xs,y,j,rfl,rfl,hH,fy,fs,⟨zj,hzj,hej⟩,hno,q⟩:=h;cases rx;obtain⟨u,rfl,ru⟩:=rv.one;obtain⟨z,its,n,r,hl,e⟩:=I.lstM hH;have hjx:j<xs.length:=(zx3.mp hzj).1;have hj:j<its.toArray.size:=by rw[zyj];omega
 have hline:=N1;have ev:∀ (m:Nat) (hm:m<its.toArray.size) (w:V),xs[m]?=some w->eqU y (its.toArray[m]'hm)=eqV w y:=fun m hm w hw=>by
  obtain⟨uu,hu,ruu⟩:=r.get hw;have:its.toArray[m]'hm=uu:=by
   have h1:its[m]?=some (its.toArray[m]'hm):=by simp
   rw[h1] at hu;exact Option.some.inj hu
  rw[this];refine zcq ruu ?_;exact List.all_eq_true.mp fs w (zyb hw)
 refine call_meets PySem.F.slot_list_index ⟨_,e,rfl⟩ PySem.F.entry_list_index (PySem.F.args_list_index_2 _ _) (SeqAt.list_indexAt l its.toArray n none #[] u (eqU y) j hj ⋯ (by rw[ev j hj zj hzj];exact hej) fun m hm hmj=>?_) ⟨e,fun w hw=>Rz ru fy r fs w (by simpa using hw),?_⟩
 ·have hmx:m<xs.length:=by rw[zyj] at hm;omega
  have hw:xs[m]?=some (xs[m]'hmx):=zx2 hmx;rw[ev m hm _ hw];exact hno m _ hmj hw
 ·exact⟨.int (j:Nat),H,I.tok _,#[y,_],q⟩
end L2
namespace G
open PySem PySem.Spec PyProof.Rows L2
theorem zni{H:Hp}{ts:#[a]}{st:#[H]}{i:Nat}{s:Nat×Option Int}(h:Z8 H ts (st.map Vz))(e:st[i]?=some s):∃ t,ts[i]?=#[d,t]/\H t=some (.tup (Vz s)):=by
 have e':(st.map Vz)[i]?=#[b,Vz,s]:=by rw[zx5,e];rfl
 exact h.getR e'
theorem Gw(ho:oneV z):eqV z (.int n)=true↔z=.int n:=by
 rcases ho with rfl|⟨i,rfl⟩
 ·constructor
  ·intro h;cases h
  ·intro h;cases h
 ·show (i == n)=true↔_;constructor
  ·intro h;rw[beq_iff_eq.mp h]
  ·intro h;cases h;simp
theorem zh7(ho:∀ x∈gs,oneV x):inV (.int n) gs=true↔∃ j:Nat,gs[j]?=some (V.int n):=by
 unfold inV;rw[List.any_eq_true];constructor
 ·rintro⟨z,hz,e⟩;obtain⟨j,hj,rfl⟩:=zzg hz;exact⟨j,by rw[zx2 hj,(Gw (ho _ hz)).mp e]⟩
 ·rintro⟨j,hj⟩;have:=zyb hj;exact⟨_,this,(Gw (ho _ this)).mpr rfl⟩
theorem zju(r:#[o]):PyData.canLayAll0 (Wl (r.map Dt.int))=true/\PyData.depthAll (Wl (r.map Dt.int))<=1:=by
 induction r with
 | nil=>exact⟨rfl,by decide⟩
 | cons x r ih =>
   obtain⟨h1,h2⟩:=ih;refine⟨by rw[zyf,Wl,PyData.canLayAll0,h1];rfl,?_⟩;rw[zyf,Wl,PyData.depthAll];have:PyData.depth (toPy (Dt.int x))<=1:=by simp[toPy,PyData.depth]
   omega
theorem B8(r:#[o]):shD (.lst (r.map Dt.int)):=by
 obtain⟨a1,a2⟩:=zju r;unfold shD SeqAt.shaped;rw[toPy,PyData.canLay0,a1,Bool.true_and];refine zx9 ?_;rw[PyData.depth];omega
theorem B9:shD (.lst []):=B8 []
theorem Aa(f:α->Dt)(xs:List α):eqD (.lst (xs.map f)) (.lst [])=xs.isEmpty:=by
 cases xs with
 | nil=>simp[eqD,Kv]
 | cons x xs=>simp[eqD,Kv]
structure zom(rows:#[A])(gs:#[a])(i:Nat):Prop where
 len:gs.length=i
 one:∀ x∈gs,oneV x
 may:∀ (k:Nat) (n:Int),gs[k]?=#[l,n]->∃ r,rows[k]?=some r/\n∈r
 inj:∀ (j k:Nat) (n:Int),gs[j]?=#[l,n]->gs[k]?=#[l,n]->j=k
theorem Yr.drop(F:Yr rows gs)(p:Nat):Yr rows (gs.set p .non):=by
 have cs:∀ (k:Nat) (n:Int),(gs.set p .non)[k]?=#[l,n]->k≠p/\gs[k]?=#[l,n]:=fun k n h=>by
  by_cases e:k=p
  ·subst e;by_cases hk:k<gs.length
   ·rw[zzb hk] at h;cases h
   ·rw[List.getElem?_eq_none (by rw[zzr];omega)] at h;cases h
  ·rw[zy3 (Ne.symm e)] at h;exact⟨e,h⟩
 refine⟨by rw[zzr];exact F.len,fun x hx=>?_,fun k n h=>F.may k n (cs k n h).2,fun j k n h1 h2=>F.inj j k n (cs j n h1).2 (cs k n h2).2⟩;rcases List.mem_or_eq_of_mem_set hx with z|z
 ·exact F.one x z
 ·exact .inl z
theorem Yr.without(F:Yr rows gs)(hx:gs[p]?=some x)(f:Int->Bool)(hf:∀ n,f n=false->x=.int n):Yr (rows.map fun r=>r.filter f) (gs.set p .non):=by
 have D:=F.drop p;refine⟨by rw[zx1];exact D.len,D.one,fun k n h=>?_,D.inj⟩;obtain⟨r,h1,h2⟩:=D.may k n h;refine⟨r.filter f,by rw[zx5,h1];rfl,zy5.mpr ⟨h2,?_⟩⟩;cases e:f n with
 | true=>rfl
 | false =>
   have hx':=hf n e;subst hx';have hk:k≠p:=fun z=>by
    subst z;rw[zzb (zx3.mp hx).1] at h;cases h
   rw[zy3 (Ne.symm hk)] at h;exact absurd (F.inj k p n h hx) hk
theorem Ab(J:L2.St->Hp->Prop)(hc:Gr c σ H b)(h1:b=true->∀ H1,Same H H1->∀ N:L2.St->Hp->Prop,(∀ σ' H',J σ' H'->N σ' H')->t { D with nx:=N } σ H1)
  (h2:b=false->∀ H1,Same H H1->∀ N:L2.St->Hp->Prop,(∀ σ' H',J σ' H'->N σ' H')->e { D with nx:=N } σ H1) (h3:∀ σ' H',J σ' H'->u D σ' H'):Z0 (Dp c t e) u D σ H:=by
 refine hc _ fun H1 s1=>?_;cases b with
 | true=>rw[if_pos rfl];exact h1 rfl H1 s1 _ h3
 | false=>rw[if_neg ⋯];exact h2 rfl H1 s1 _ h3
theorem zaz(h1:Gr t σ H b)(h:∀ H1,Same H H1->if b=true then A D σ H1 else B D σ H1):Dp t A B D σ H:=h1 _ fun H1 s1=>h H1 s1
def Vg(xs:List Nat):#[a]:=xs.map fun k=>V.int (k:Nat)
theorem zeh{K:Frag}{H:Hp}:∀ (r:List Nat),S4 K H (Vg r) ((r.map fun (k:Nat)=>((k:Nat):Int)).map Dt.int)
 | []=>.nil
 | x :: r=>.cons (.int _) (zeh r)
end G
namespace G
open PySem PySem.Spec PyProof.Rows L2
inductive Ac(K:Frag)(vs:#[a])(H:Hp)(Q:VK)(_:XK):Prop where
 | mk(l lg:Addr)(ls:#[t])(rows:#[A])(nu:#[o])(gs:#[a])(p:Nat)(_:vs=[.ref l,.ref lg,.int p])(_:#[ad,l])(_:ILs H ls rows)(_:Ph rows nu)(_:#[w,H,lg,gs])(_:Yr rows gs)(_:p<rows.length)(_:gs[p]?=some .non)(_:∀ lt ts st e w H',H' lt=#[r,ts]->Z8 H' ts (st.map Vz)->Xw rows gs p st e w->#[p]->H lt=none->#[I,lt])
theorem Xw.len{rows:#[A]}{gs:#[a]}{p e:Nat}{st:#[H]}{w:#[C]}(FP:Yr rows gs)(hp:p<rows.length)(c:Xw rows gs p st e w):st.length<=rows.length:=by
 have hlt:=c.ch.lt FP hp;have:=c.nodup.length_le_of_subset (l₂:=List.range rows.length) fun x hx=>by
  obtain⟨s,hs,rfl⟩:=zya.mp hx;exact zza.mpr (hlt s hs)
 rw[zx1,zy6] at this;exact this
end G
namespace L2
open PySem PySem.Spec PyProof.Rows
section
variable{X:Cx}{pins:#[v]}{σ:List (Option V)}{H H':Hp}{s:Shared}{h':Heap}
theorem Inv.turnedL{t':Nat}{fp:#[t]}(I:#[h])(hf:∀ b∈fp,FpOk X pins H b)(k:∀ b o,b∉fp->#[J,b]=#[c]->h'.get? b=#[c]):#[G,H,{ s with heap:=h',toks:=t' }]:=by
 have nit:∀ b u,H b=some u->b∉fp:=fun b u e z=>by rw[(hf b z).1] at e;cases e
 refine I.step (g':=s.gens) (d':=s.drawn) (ch:=fp) (fun b hb=>?_) (fun b o _ _ hc e _=>k b o hc e) (fun b o _ _ hc e _=>⟨o.slots,k b o hc e⟩) (fun _ _ _ _ n=>n)
  (fun b o hc e=>⟨o,k b o hc e⟩) (fun _ _ e=>e) (fun _ _ _ e=>e) (fun b ps e=>⟨#[],by rw[e];simp⟩) (fun m hm=>?_) (fun b u e=>?_) I.bare
 ·obtain⟨f0,f1,f2,f3,f4,f5⟩:=hf b hb;exact⟨f3,f1,f4,f5⟩
 ·obtain⟨o,es,ep,ho,r⟩:=hm;exact⟨o,es,ep,k _ o (fun z=>(hf _ z).2.1 rfl) ho,r⟩
 ·refine(I.hok b u e).stay (fun c v hc q=>k c v ?_ q) (fun _ q=>q) fun _ _ q=>q;rcases hc with z|z
  ·rw[z];exact nit b u e
  ·exact nit c _ z
theorem Inv.turnLay{t':Nat}{fp:#[t]}{a:Addr}{o:HO}(I:#[h])(hf:∀ b∈fp,FpOk X pins H b)(k:∀ b o,b∉fp->#[J,b]=#[c]->h'.get? b=#[c])(hp:s.heap.objs.size<=a)(new:Xd X.prog X.w (upd H a o) h' a o):#[G,upd H a o,{ s with heap:=h',toks:=t' }]:=by
 have nit:∀ b u,H b=some u->b∉fp:=fun b u e z=>by rw[(hf b z).1] at e;cases e
 have hn:H a=none:=I.hok.fresh hp;have ne:∀ b u,#[J,b]=some u->b≠a:=fun b u e=>zyu (zyn (Heap.lt_size e) hp);refine I.step (g':=s.gens) (d':=s.drawn) (ch:=fp) (fun b hb=>?_) (fun b o _ _ hc e _=>k b o hc e) (fun b o _ _ hc e _=>⟨o.slots,k b o hc e⟩) (fun b u _ e n=>by rw[Zj (ne b u e)];exact n)
  (fun b o hc e=>⟨o,k b o hc e⟩) (fun b _ e=>by rw[Zj (Zh e hn)];exact e) (fun b _ _ e=>by rw[Zj (Zh e hn)];exact e) (fun b ps e=>⟨#[],by rw[Zj (Zh e hn),e];simp⟩) (fun m hm=>?_) (fun b u e=>?_) I.bare
 ·obtain⟨f0,f1,f2,f3,f4,f5⟩:=hf b hb;exact⟨f3,f1,f4,f5⟩
 ·obtain⟨o,es,ep,ho,r⟩:=hm;exact⟨o,es,ep,k _ o (fun z=>(hf _ z).2.1 rfl) ho,r⟩
 ·by_cases hb:b=a
  ·subst hb;rw[Ze] at e;cases e;exact new
  ·rw[Zj hb] at e;refine(I.hok b u e).stay (fun c v hc q=>k c v ?_ q) (fun c q=>by rw[Zj (Zh q hn)];exact q) fun c _ q=>by rw[Zj (Zh q hn)];exact q
   rcases hc with z|z
   ·rw[z];exact nit b u e
   ·exact nit c _ z
end
def Ite(K:Frag)(a:Addr):It :=
 ⟨fun i H=>∃ xs x,SqL K H a xs/\xs[i]?=some x,fun i H x H'=>∃ p y,H p=none/\(∀ xs,SqL K H a xs->xs[i]?=some y)/\x=.ref p/\H'=upd H p (.tup [.int (i:Nat),y]),fun i H=>∃ xs,SqL K H a xs/\xs.length<=i⟩
theorem zf0{P:Program}{w:World}{K:Frag}{elts:List Expr}{k:Nat}{tp:Pos}(a e it:Addr)(hne:e≠it):zaf P w K (.Tuple elts k tp) (Ite K a) [e,it] e (fun i h=>(∃ old,IsEnum h e it (i:Nat) old)/\h.IsListIter it a i) where
 mem:=by simp
 obj:=fun i h st b hb=>by
  obtain⟨⟨old,h1⟩,h2⟩:=st;have e:b=e\/b=it:=by simpa using hb
  rcases e with rfl|rfl
  ·exact⟨_,h1,fun v z=>by cases z⟩
  ·obtain⟨o,e,c,d⟩:=h2;exact⟨o,e,fun v z=>by rw[d] at z;cases z⟩
 keep:=fun i h h' st k=>⟨let ⟨old,h1⟩:=st.1;⟨old,k e (by simp) _ h1⟩,st.2.at fun o q=>k it (by simp) o q⟩
 item:=by
  intro X hP hw hK hc i pins s σ H E I hf st hg;subst hP hw hK;obtain⟨xs,x,hq,hx⟩:=hg;obtain⟨its,rv,p,hz⟩:=I.list hq;obtain⟨u,hu,ru⟩:=rv.get hx;obtain⟨⟨old,h1⟩,h2⟩:=st;refine wpAny_pyNext_enum_item h1 h2 p.isList (x:=u) (by simpa using hu) hne fun h' o1 o2 o3 o4 o5=>?_;refine#[q,_,wpAny_letOwnedTupleGo_enum o1 fun h'' e1 sb=>?_];have hes:e≠s.heap.objs.size:=fun z=>by
   exact zzu _ (z▸Heap.lt_size h1)
  have kk:∀ b o,b∉[e,it]->#[J,b]=#[c]->h''.get? b=#[c]:=fun b o hb q=>by
   have hb':b≠e/\b≠it:=by simpa using hb
   exact(sb.2 b hb'.1).trans (o5 b o hb'.1 hb'.2 q)
  have new:h''.get? s.heap.objs.size=some { cls:=Value.type "tuple",data:=Data.seq #[Value.int (i:Nat) s.toks,u] }:=(sb.2 _ (Ne.symm hes)).trans o3;have line:=N1;refine⟨.ref s.heap.objs.size,_,I.turnLay (t':=s.toks+1) (o:=.tup [.int (i:Nat),x]) hf kk (zyc _) ⟨?_,_,.cons #[y,s.toks] (.cons ru .nil),⟨_,new,rfl,_,rfl⟩⟩,rfl,⟨_,x,I.hok.fresh (zyc _),fun ys hy=>by rw[I.list_inj hy hq];exact hx,rfl,rfl⟩,⟨⟨u,e1⟩,o2.at fun o q=>(sb.2 it (Ne.symm hne)).trans q⟩,fun b hb=>?_⟩
  ·show 2<=sizeLine;rw[sizeLine_eq];decide
  ·have hb':b=e\/b=it:=by simpa using hb
   have hlt:b<s.heap.objs.size:=by
    rcases hb' with rfl|rfl
    ·exact Heap.lt_size h1
    ·obtain⟨o,q,_⟩:=h2;exact Heap.lt_size q
   rw[Zj (zyu hlt)];exact(hf b hb).1
 done:=by
  intro X hP hw hK hc i pins s σ H E I hf st hg;subst hP hw hK;obtain⟨xs,hq,hx⟩:=hg;obtain⟨its,rv,p,hz⟩:=I.list hq;obtain⟨⟨old,h1⟩,h2⟩:=st;have hl:=rv.length;exact wpAny_pyNext_enum_end (I.ok.hd hc) h1 h2 p.isList (by simp;omega) fun h' eb=>⟨rfl,I.turnedL (t':=s.toks) hf fun b o hb q=>eb b o (fun z=>hb (by simp[z])) q⟩
 self:=fun _ _ _ _ _ st h=>by
  obtain⟨⟨old,h1⟩,h2⟩:=st;exact wpAny_pyIter_enum h1 h
inductive zl0(K:Frag)(R:It->Hp->Prop)(vs:#[a])(H1:Hp):Prop where
 | mk(a)(_:vs=[.ref a])(_:(∃ xs,SqL K H1 a xs))(_:R (Ite K a) H1)
def znj(K:Frag)(ta:TA):TI:=fun σ H R=>ta σ H fun vs H1=>zl0 K R vs H1
theorem zei{X:Cx}{K:Frag}{elts:List Expr}{k:Nat}{tp:Pos}{a:Expr}{ta:TA}{p pos:Pos}(hK:X.K=K)(hg:Gl X "enumerate")(hm:X.mg "enumerate"=none)(ha:PA X [a] ta)(hs:starEach [a] X.env=[(false,#[B,a])]:=by rfl):PI X (.Tuple elts k tp) (.Call (.Name "enumerate" p) [a] [] pos) (znj K ta):=by
 subst hK;intro pins s σ H R I h;refine Call_ (Nw I hg hm boot_enumerate (PyProof.Rows.callWith_type1 (thn (ha pos pins s σ H _ I h) fun us s1 ⟨vs,H1,I1,r1,q1⟩=>?_) hs rfl));obtain⟨a,e,⟨xs,hq⟩,q⟩:=q1;subst e;obtain⟨u,rfl,ru⟩:=Pc r1;cases ru;obtain⟨its,rv,pl,hz⟩:=I1.list hq;refine call_enumerate_list pl.isList fun h' e1 e2 e3 e4=>?_;refine wpAny_pyIter_enum e1 ?_;refine⟨_,[s1.heap.objs.size+1,s1.heap.objs.size],_,_,H1,rfl,I1.kept (t':=s1.toks) e4,zf0 a _ _ (Nat.succ_ne_self _),⟨⟨_,e1⟩,e2⟩,fun b hb=>?_,q⟩;have e:b=s1.heap.objs.size+1\/b=s1.heap.objs.size:=by simpa using hb
 rcases e with rfl|rfl
 ·exact I1.fpOk (Nat.le_succ _) (I1.hok.fresh (Nat.le_succ _))
 ·exact I1.fpOk (zyc _) (I1.hok.fresh (zyc _))
theorem zh8{K:Frag}{a:Addr}{xs:#[a]}{g:TG}{tb:TS}{D:Pq}{σ:St}{H:Hp}(Pv:Nat->St->Hp->Prop)(h0:Pv 0 σ H)(hl:∀ i σ H,i<=xs.length->Pv i σ H->SqL K H a xs)
  (hs:∀ i x p σ H,xs[i]?=some x->Pv i σ H->H p=none->g (.ref p) σ (upd H p (.tup [.int (i:Nat),x])) fun σ2 H2=>tb { D with nx:=Pv (i+1),ct:=Pv (i+1),bk:=D.nx } σ2 H2) (hd:∀ σ H,Pv xs.length σ H->D.nx σ H) :
  ∃ W:Nat->Nat->St->Hp->Prop,(∃ m,W 0 m σ H)/\∀ i m σ H,W i m σ H ->
    ((Ite K a).stop i H/\D.nx σ H)\/((Ite K a).go i H/\∃ N:St->Hp->Prop,(∀ σ' H',N σ' H'->∃ m',m' < m/\W (i+1) m' σ' H')/\∀ x H',(Ite K a).yld i H x H'->g x σ H' fun σ2 H2=>tb { D with nx:=N,ct:=N,bk:=D.nx } σ2 H2):=by
 refine⟨fun i m σ H=>m=xs.length-i/\i<=xs.length/\Pv i σ H,⟨xs.length,by simp,zyv _,h0⟩,?_⟩;rintro i m σ H ⟨rfl,hi,p⟩;have q:=hl i σ H hi p;by_cases hlt:i<xs.length
 ·refine .inr ⟨⟨xs,xs[i],q,by simp[hlt]⟩,Pv (i+1),fun σ' H' p'=>⟨xs.length-(i+1),by omega,rfl,hlt,p'⟩,fun x H' y=>?_⟩;obtain⟨t,y,h1,h2,rfl,rfl⟩:=y;exact hs i y t σ _ (h2 xs q) p h1
 ·have e:i=xs.length:=by omega
  subst e;exact .inl ⟨⟨xs,q,zyc _⟩,hd σ H p⟩
def Itz(K:Frag)(a b:Addr):It :=
 ⟨fun i H=>∃ xs ys x y,SqL K H a xs/\SqL K H b ys/\xs[i]?=some x/\ys[i]?=some y,fun i H x H'=>∃ p y z,H p=none/\(∀ xs,SqL K H a xs->xs[i]?=some y)/\(∀ ys,SqL K H b ys->ys[i]?=some z)/\x=.ref p/\H'=upd H p (.tup [y,z]),
  fun i H=>∃ xs ys,SqL K H a xs/\SqL K H b ys/\(xs.length<=i\/ys.length<=i)⟩
theorem zh9{P:Program}{w:World}{K:Frag}{elts:List Expr}{k:Nat}{tp:Pos}(l1 l2 z TI TO i1 i2:Addr)(hz:ZipApart z TI TO i1 i2 l1 l2):zaf P w K (.Tuple elts k tp) (Itz K l1 l2) [z,TO,i1,i2,TI] z
  (fun i h=>IsZip h z TI TO Value.none/\IsPair h TI (Value.ref i1) (Value.ref i2)/\(∃ a b,IsPair h TO a b)/\h.IsListIter i1 l1 i/\h.IsListIter i2 l2 i) where
 mem:=by simp
 obj:=fun i h st b hb=>by
  obtain⟨h1,h2,⟨a,b',h3⟩,h4,h5⟩:=st;have e:b=z\/b=TO\/b=i1\/b=i2\/b=TI:=by simpa using hb
  rcases e with rfl|rfl|rfl|rfl|rfl
  ·exact⟨_,h1,fun v z=>by cases z⟩
  ·exact⟨_,h3,fun v z=>by cases z⟩
  ·obtain⟨o,e,c,d⟩:=h4;exact⟨o,e,fun v z=>by rw[d] at z;cases z⟩
  ·obtain⟨o,e,c,d⟩:=h5;exact⟨o,e,fun v z=>by rw[d] at z;cases z⟩
  ·exact⟨_,h2,fun v z=>by cases z⟩
 keep:=fun i h h' st k=>by
  obtain⟨h1,h2,⟨a,b',h3⟩,h4,h5⟩:=st;exact⟨k z (by simp) _ h1,k TI (by simp) _ h2,⟨a,b',k TO (by simp) _ h3⟩,h4.at fun o q=>k i1 (by simp) o q,h5.at fun o q=>k i2 (by simp) o q⟩
 item:=by
  intro X hP hw hK hc i pins s σ H E I hf st hg;subst hP hw hK;obtain⟨xs,ys,x,y,hq,hq2,hx,hy⟩:=hg;obtain⟨its,rv,p,_⟩:=I.list hq;obtain⟨its2,rv2,p2,_⟩:=I.list hq2;obtain⟨u,hu,ru⟩:=rv.get hx;obtain⟨u2,hu2,ru2⟩:=rv2.get hy;obtain⟨h1,h2,⟨a,b',h3⟩,h4,h5⟩:=id st;refine wpAny_pyNext_zip_item hz h1 h2 h3 h4 h5 p.isList p2.isList (x:=u) (y:=u2) (by simpa using hu) (by simpa using hu2) fun h' o1 o2 o3 o4 o5 o6 o7=>?_;refine#[q,_,wpAny_letOwnedTupleGo_zip o1 fun h'' e1 sb=>?_];have lt:∀ b o,#[J,b]=#[c]->b≠s.heap.objs.size:=fun b o q=>zyu (Heap.lt_size q);have kk:∀ b o,b∉[z,TO,i1,i2,TI]->#[J,b]=#[c]->h''.get? b=#[c]:=fun b o hb q=>by
   have hb':b≠z/\b≠TO/\b≠i1/\b≠i2/\b≠TI:=by simpa using hb
   exact(sb.2 b hb'.1).trans (o7 b o hb'.1 hb'.2.1 hb'.2.2.1 hb'.2.2.2.1 q)
  have new:h''.get? s.heap.objs.size=some { cls:=Value.type "tuple",data:=Data.seq #[u,u2] }:=(sb.2 _ (Ne.symm (lt _ _ h1))).trans o5;refine⟨.ref s.heap.objs.size,_,I.turnLay (t':=s.toks) (o:=.tup [x,y]) hf kk (zyc _) ⟨?_,_,.cons ru (.cons ru2 .nil),⟨_,new,rfl,_,rfl⟩⟩,rfl,⟨_,x,y,I.hok.fresh (zyc _),fun zs hy'=>by rw[I.list_inj hy' hq];exact hx,fun zs hy'=>by rw[I.list_inj hy' hq2];exact hy,rfl,rfl⟩,
   ⟨e1,(sb.2 _ hz.TIz).trans (o7 _ _ hz.TIz hz.TITO hz.TIi1 hz.TIi2 h2),⟨_,_,(sb.2 _ hz.TOz).trans o2⟩,o3.at fun o q=>(sb.2 _ hz.i1z).trans q,o4.at fun o q=>(sb.2 _ hz.i2z).trans q⟩,fun b hb=>?_⟩
  ·show 2<=sizeLine;rw[sizeLine_eq];decide
  ·have hne:b≠s.heap.objs.size:=by
    have e:b=z\/b=TO\/b=i1\/b=i2\/b=TI:=by simpa using hb
    rcases e with rfl|rfl|rfl|rfl|rfl
    ·exact lt _ _ h1
    ·exact lt _ _ h3
    ·obtain⟨o,q,_⟩:=h4;exact lt _ _ q
    ·obtain⟨o,q,_⟩:=h5;exact lt _ _ q
    ·exact lt _ _ h2
   rw[Zj hne];exact(hf b hb).1
 done:=by
  intro X hP hw hK hc i pins s σ H E I hf st hg;subst hP hw hK;obtain⟨xs,ys,hq,hq2,hx⟩:=hg;obtain⟨its,rv,p,_⟩:=I.list hq;obtain⟨its2,rv2,p2,_⟩:=I.list hq2;obtain⟨h1,h2,⟨a,b',h3⟩,h4,h5⟩:=st;have hl:=rv.length;have hl2:=rv2.length;exact wpAny_pyNext_zip_end (I.ok.hd hc) hz h1 h2 h3 h4 h5 p.isList p2.isList (hx.imp (fun z=>by simp;omega) fun z=>by simp;omega) fun h' eb=>⟨rfl,I.turnedL (t':=s.toks) hf fun b o hb q=>by
   have hb':b≠z/\b≠TO/\b≠i1/\b≠i2/\b≠TI:=by simpa using hb
   exact eb b o hb'.1 hb'.2.1 hb'.2.2.1 hb'.2.2.2.1 q⟩
 self:=fun _ _ _ _ _ st h=>wpAny_pyIter_zip st.1 h
inductive znk(K:Frag)(R:It->Hp->Prop)(vs:#[a])(H1:Hp):Prop where
 | mk(a)(b)(_:vs=[.ref a,.ref b])(_:(∃ xs,SqL K H1 a xs))(_:(∃ ys,SqL K H1 b ys))(_:R (Itz K a b) H1)
def zn8(K:Frag)(ta:TA):TI:=fun σ H R=>ta σ H fun vs H1=>znk K R vs H1
theorem zl1{X:Cx}{K:Frag}{elts:List Expr}{k:Nat}{tp:Pos}{a b:Expr}{ta:TA}{p pos:Pos}(hK:X.K=K)(hg:Gl X "zip")(hm:X.mg "zip"=none)(ha:PA X [a,b] ta)(hs:starEach [a,b] X.env=[(false,eval a X.env),(false,eval b X.env)]:=by rfl)(hs2:starEach [b] X.env=[(false,#[B,b])]:=by rfl):PI X (.Tuple elts k tp) (.Call (.Name "zip" p) [a,b] [] pos) (zn8 K ta):=by
 subst hK;intro pins s σ H R I h;refine Call_ (Nw I hg hm boot_zip (PyProof.Rows.callWith_type1 (thn (ha pos pins s σ H _ I h) fun us s1 ⟨vs,H1,I1,r1,q1⟩=>?_) (by rw[hs,hs2]) (by rw[hs2];rfl)));obtain⟨a,b,e,⟨xs,hq⟩,⟨ys,hq2⟩,q⟩:=q1;subst e;cases r1 with
 | cons r rr =>
   obtain⟨u,rfl,ru⟩:=Pc rr;cases r;cases ru;obtain⟨its,rv,pl,hz⟩:=I1.list hq;obtain⟨its2,rv2,pl2,hz2⟩:=I1.list hq2;have lt1:@LT.lt Nat _ a s1.heap.objs.size:=by obtain⟨_,e,_⟩:=pl.isList;exact Heap.lt_size e
   have lt2:@LT.lt Nat _ b s1.heap.objs.size:=by obtain⟨_,e,_⟩:=pl2.isList;exact Heap.lt_size e
   refine call_zip_2 pl.isList pl2.isList fun h' e1 e2 e3 e4 e5 e6 e7=>?_;refine wpAny_pyIter_zip e1 ?_;refine⟨_,[s1.heap.objs.size+4,s1.heap.objs.size+3,s1.heap.objs.size,s1.heap.objs.size+1,s1.heap.objs.size+2],_,_,H1,rfl,I1.kept (t':=s1.toks) e7,zh9 a b _ _ _ _ _ ?_,⟨e1,e2,⟨_,_,e3⟩,e4,e5⟩,fun c hb=>?_,q⟩
   ·refine⟨?_,?_,?_,?_,?_,?_,?_,?_,?_,?_,?_,?_,?_,?_,?_,?_,?_,?_⟩<;>(show @Ne Nat _ _;omega)
   have e:c=s1.heap.objs.size+4\/c=s1.heap.objs.size+3\/c=s1.heap.objs.size\/c=s1.heap.objs.size+1\/c=s1.heap.objs.size+2:=by simpa using hb
   have hle:s1.heap.objs.size<=c:=by rcases e with rfl|rfl|rfl|rfl|rfl<;>omega
   exact I1.fpOk hle (I1.hok.fresh hle)
section
variable{X:Cx}{pins:#[v]}{σ:List (Option V)}{H H':Hp}{s:Shared}{h':Heap}
theorem Inv.freeze(I:#[h])(e:H a=#[b,.dK,kvs])(ho:s.heap.get? a=some o):#[G,upd H a (.frz o (.dK kvs)),s]:=by
 have na:∀ b u,H b=some u->u≠.dK kvs->b≠a:=fun b u q n z=>by subst z;rw[q] at e;exact n (Option.some.inj e)
 refine I.un (h':=s.heap) (t':=s.toks) ⟨fun b o q _ _ _=>q,fun b o q _ _ _=>⟨o.slots,q⟩,fun b o q n _=>?_,fun b o q _=>⟨o,q⟩,fun b ys q=>?_,fun b o v q=>?_,fun b ps q=>⟨#[],?_⟩⟩ fun b u q=>?_
 ·rw[Zj (fun z=>by subst z;rw[n] at e;cases e)];exact n
 ·rw[Zj (na b _ q fun z=>nomatch z)];exact q
 ·rw[Zj (na b _ q fun z=>nomatch z)];exact q
 ·rw[Zj (na b _ q fun z=>nomatch z),q];simp
 ·have stay:∀ {b u},Xd X.prog X.w H s.heap b u->Xd X.prog X.w (upd H a (.frz o (.dK kvs))) s.heap b u:=fun {b u} k=>k.stay (fun _ _ _ q=>q) (fun c q=>by rw[Zj (na c _ q fun z=>nomatch z)];exact q) fun c _ q=>by rw[Zj (na c _ q fun z=>nomatch z)];exact q
  by_cases hb:b=a
  ·subst hb;rw[Ze] at q;cases q;exact⟨ho,stay (I.hok b _ e)⟩
  ·rw[Zj hb] at q;exact stay (I.hok b u q)
end
def Itk(a:Addr)(o:Obj)(kvs:#[N]):It :=
 ⟨fun i H=>H a=some (.frz o (.dK kvs))/\i<kvs.length,fun i H x H'=>H'=H/\∃ p,kvs[i]?=some p/\x=kV p.1,fun i H=>H a=some (.frz o (.dK kvs))/\kvs.length<=i⟩
theorem zia(I:#[h])(e:H a=some (.frz o (.dK kvs))):∃ vs,KV kvs vs/\∃ es ep,o.data=.dict es ep/\s.heap.DictAt (Yo X.prog X.w) a vs ep:=by
 obtain⟨h1,hz,hm,vs,kv,o',es,ep,h2,h3,h4,h5⟩:=(show Xd X.prog X.w H s.heap a (.frz o (.dK kvs)) from I.hok a _ e);rw[h1] at h2;cases h2;exact⟨vs,kv,es,ep,h4,o,es,h1,h3,h4,h5⟩
theorem zf1{P:Program}{w:World}{K:Frag}{tg:Expr}(a it:Addr)(o:Obj)(kvs:#[N])(es:Array DictEntry)(ep:Nat)(ho:o.data=.dict es ep):zaf P w K tg (Itk a o kvs) [it] it (fun i h=>h.IsKeyIter it a i kvs.length ep) where
 mem:=by simp
 obj:=fun i h st b hb=>by
  have e:b=it:=by simpa using hb
  subst e;obtain⟨o,e,c,d⟩:=st;exact⟨o,e,fun v z=>by rw[d] at z;cases z⟩
 keep:=fun i h h' st k=>by
  obtain⟨o,e,c,d⟩:=st;exact⟨o,k it (by simp) o e,c,d⟩
 item:=by
  intro X hP hw hK hc i pins s σ H E I hf st hg;subst hP hw hK;obtain⟨hq,hi⟩:=hg;obtain⟨vs,kv,es',ep',h1,h2⟩:=zia I hq;rw[ho] at h1;cases h1;obtain⟨f0,f1,f2,f3,f4,f5⟩:=hf it (by simp);have hl:kvs.length=vs.length:=KV.length kv;have hv:i<vs.length:=by omega
  obtain⟨⟨k,v⟩,hkv⟩:∃ kv,vs[i]'hv=kv:=#[y,_];rw[hl] at st;refine wpAny_pyNext_dict_item st h2 (k:=k) (v:=v) (by rw[zx2 hv,hkv]) fun key h' hk st' sb=>?_;have I1:#[G,H,{ s with heap:=h' }]:=I.turned (t':=s.toks) (fun b o hb e=>(sb.2 b hb).trans e) f0 f1 f3 f4 f5;obtain⟨o2,e2,c2,d2⟩:=id st';have ek:=congrArg (·[i]?) (KV.keys kv);simp only[zx5,zx2 hv,zx2 hi,hkv,zy8] at ek;refine#[q,key,zgz (s:={ s with heap:=h' }) e2 c2 d2 ⋯ ⟨kV (kvs[i]'hi).1,H,I1,?_,⟨rfl,_,zx2 hi,rfl⟩,by rw[hl];exact st',fun b hb=>(hf b hb).1⟩];have e3:(kvs[i]'hi).1=k:=Option.some.inj ek;rw[e3];rcases Yv hk with ⟨j,t,rfl,rfl⟩|⟨z,t,rfl,rfl⟩
  ·exact#[y,t]
  ·exact#[y,t]
 done:=by
  intro X hP hw hK hc i pins s σ H E I hf st hg;subst hP hw hK;obtain⟨hq,hi⟩:=hg;obtain⟨vs,kv,es',ep',h1,h2⟩:=zia I hq;rw[ho] at h1;cases h1;obtain⟨f0,f1,f2,f3,f4,f5⟩:=hf it (by simp);have hl:kvs.length=vs.length:=KV.length kv;rw[hl] at st;exact wpAny_pyNext_dict_end (I.ok.hd hc) st h2 (List.getElem?_eq_none ⋯) fun h' eb=>⟨rfl,I.turned (t':=s.toks) (fun b o hb e=>eb b o hb e) f0 f1 f3 f4 f5⟩
 self:=fun _ _ _ _ _ st h=>wpAny_pyIter_keyiter st h
inductive zl2(R:It->Hp->Prop)(x:V)(H1:Hp):Prop where
 | mk(a)(kvs)(_:x=.ref a)(_:H1 a=#[b,.dK,kvs])(_:∀ o,R (Itk a o kvs) (upd H1 a (.frz o (.dK kvs))))
def znl(tl:TE):TI:=fun σ H R=>tl σ H fun x H1=>zl2 R x H1
theorem zej{X:Cx}{tg:Expr}{l:Expr}{tl:TE}(hl:PE X l tl):PI X tg l (znl tl):=by
 intro pins s σ H R I h;refine thn (hl pins s σ H _ I h) fun v s1 ⟨x,H1,I1,r1,q1⟩=>?_;obtain⟨a,kvs,e,hq,q⟩:=q1;subst e;cases r1;obtain⟨hz,hm,vs,kv,o,es,ep,h2,h3,h4,h5⟩:=(show Xd X.prog X.w H1 s1.heap a (.dK kvs) from I1.hok a _ hq);have hl:kvs.length=vs.length:=KV.length kv;have I2:=I1.freeze hq h2;refine wpAny_pyIter_dict hm ⟨o,es,h2,h3,h4,h5⟩ ?_;refine⟨s1.heap.objs.size,[s1.heap.objs.size],_,_,_,rfl,I2.kept (t':=s1.toks) fun b o e=>#[W,_,e],zf1 a _ o kvs es ep h4,⟨_,Heap.get?_push_size _ rfl,rfl,by rw[hl];rfl⟩,fun b hb=>?_,q o⟩;have e:b=s1.heap.objs.size:=by simpa using hb
 subst e;exact I2.fpOk (zyc _) (I2.hok.fresh (zyc _))
theorem za0{a:Addr}{o:Obj}{kvs:#[N]}{g:TG}{tb:TS}{D:Pq}{σ:St}{H:Hp}(Pv:Nat->St->Hp->Prop)(h0:Pv 0 σ H)(hl:∀ i σ H,i<=kvs.length->Pv i σ H->H a=some (.frz o (.dK kvs)))
  (hs:∀ i k v σ H,kvs[i]?=some (k,v)->Pv i σ H->g (kV k) σ H fun σ2 H2=>tb { D with nx:=Pv (i+1),ct:=Pv (i+1),bk:=D.nx } σ2 H2) (hd:∀ σ H,Pv kvs.length σ H->D.nx σ H) :
  ∃ W:Nat->Nat->St->Hp->Prop,(∃ m,W 0 m σ H)/\∀ i m σ H,W i m σ H ->
    ((Itk a o kvs).stop i H/\D.nx σ H)\/((Itk a o kvs).go i H/\∃ N:St->Hp->Prop,(∀ σ' H',N σ' H'->∃ m',m' < m/\W (i+1) m' σ' H')/\∀ x H',(Itk a o kvs).yld i H x H'->g x σ H' fun σ2 H2=>tb { D with nx:=N,ct:=N,bk:=D.nx } σ2 H2):=by
 refine⟨fun i m σ H=>m=kvs.length-i/\i<=kvs.length/\Pv i σ H,⟨kvs.length,by simp,zyv _,h0⟩,?_⟩;rintro i m σ H ⟨rfl,hi,p⟩;have q:=hl i σ H hi p;by_cases hlt:i<kvs.length
 ·refine .inr ⟨⟨q,hlt⟩,Pv (i+1),fun σ' H' p'=>⟨kvs.length-(i+1),by omega,rfl,hlt,p'⟩,fun x H' y=>?_⟩;obtain⟨e,⟨k,v⟩,y,rfl⟩:=y;subst e;exact hs i k v σ _ y p
 ·have e:i=kvs.length:=by omega
  subst e;exact .inl ⟨⟨q,zyc _⟩,hd σ H p⟩
theorem zf2(hc:X.calm=true):V2 X (.builtin "max") (fun xs H Q=>∃ (l:Addr) (kvs:List (Key×V)) (ns:List Int),xs=[.ref l]/\Rd H l (.dK kvs)/\kvs.map (·.1)=ns.map inl/\0<ns.length/\∀ M,M∈ns->(∀ a∈ns,a<=M)->Q (.int M) H):=by
 intro pins s σ H xs us Q I r h;obtain⟨l,kvs,ns,rfl,hl,hns,hpos,q⟩:=h;obtain⟨u,rfl,ru⟩:=Pc r;cases ru;obtain⟨hz,hm,vs,kv,o,es,ep,h2,h3,h4,h5⟩:=Pd I.hok hl;have hlen:vs.length=ns.length:=by
  have e1:=KV.length kv;have e2:=congrArg List.length hns;rw[zx1,zx1] at e2;omega
 have hlt:l<s.heap.objs.size:=Heap.lt_size h2;have da:s.heap.DictAt (Yo X.prog X.w) l vs ep:=⟨o,es,h2,h3,h4,h5⟩;have val:∀ (i:Nat) (v:Value),(∃ k y,vs[i]?=some (k,y)/\(Yo X.prog X.w).is k v=true)->∃ t,v=.int (ns.getD i 0) t:=fun i v ⟨k,y,hk,hv⟩=>by
  have e1:=congrArg (·[i]?) (KV.keys kv);have e2:=congrArg (·[i]?) hns;simp only[zx5,hk,zy8] at e1 e2;rw[e1] at e2;have hi:i<ns.length:=by
   rw[<- hlen];exact(zx3.mp hk).1
  rw[zx2 hi] at e2;have e3:k=inl (ns[i]'hi):=Option.some.inj e2;have e4:ns.getD i 0=ns[i]'hi:=by rw[zyt,zx2 hi];rfl
  rw[e4];rcases Yv hv with ⟨j,t,rfl,rfl⟩|⟨z,t,rfl,rfl⟩
  ·cases e3;exact#[y,t]
  ·cases e3
 refine call_max_walk (wpAny_pyIter_dict hm da ?_);refine⟨s.heap.objs.size,[s.heap.objs.size,l],[s.heap.objs.size],vs.length,_,_,_,rfl,Walks.dictKeys (knd:=Yo X.prog X.w) (A:=X.A.in1) (I.ok.hd hc) _ l (zyu hlt) vs ep,⟨⟨_,Heap.get?_push_size _ rfl,rfl,rfl⟩,da.push _⟩,fun b hb=>?_,by omega,CmpOf.ints_gt (fun i=>ns.getD i 0) fun i v hv=>val i v hv,fun v h' tk hP hk=>?_⟩
 ·show b<(s.heap.push _).objs.size;rw[Heap.size_push];rcases zx8.mp hb with rfl|hb
  ·exact Nat.lt_succ_self _
  ·rcases zx8.mp hb with rfl|hb
   ·exact zz9 hlt
   ·cases hb
 ·obtain⟨h1,h2⟩:=argBest_gt (fun i=>ns.getD i 0) (vs.length-1);obtain⟨t,rfl⟩:=val _ v hP;rw[hlen] at h1 h2 ⊢;generalize argBest (fun i j=>decide ((fun i=>ns.getD i 0) i>(fun i=>ns.getD i 0) j)) (ns.length-1)=b at h1 h2 ⊢;have hb:b<ns.length:=by omega
  have eg:∀ (k:Nat) (hk:k<ns.length),ns.getD k 0=ns[k]'hk:=fun k hk=>by rw[zyt,zx2 hk];rfl
  refine⟨.int (ns.getD b 0),H,I.kept fun c o e=>?_,#[y,_],q _ (by rw[eg b hb];exact zyx hb) fun x hx=>?_⟩
  ·refine hk c o (fun hm=>?_) #[W,_,e];rw[zx6.mp hm] at e;exact zzu _ (Heap.lt_size e)
  ·obtain⟨k,hk',rfl⟩:=zzg hx;have:=h2 k ⋯;show ns[k]<=_;rw[<- eg k hk'];exact this
theorem N6(I:Nat->Shared->Prop)
  (turn:∀ (n:Nat) (s:Shared),I n s->wpAny (model prog w) A (pyNext it) (fun r s₁=>match r with
   | none=>R (.ok .next) s₁
   | some v=>wpAny (model prog w) A (letOwnedTupleGo target it v) (fun _ s₁'=>wpAny (model prog w) A (assign target env v) (fun _ s₂=>wpAny (model prog w) A (forIn ifs true fun c r=>if r=true then do let ok <- isTrue c env (eval c env);pure (ForInStep.yield ok) else pure (ForInStep.yield r)) (fun ok s₃=>if ok=true then wpAny (model prog w) A (eval elt env) (fun x s₄=>wpAny (model prog w) A (call (.builtin "list.append") [acc,x]) (fun _ s₅=>∃ m,m<n/\I m s₅) (notedBy (model prog w) A env fun e s'=>R (.error e) s') s₄) (notedBy (model prog w) A env fun e s'=>R (.error e) s') s₃ else ∃ m,m<n/\I m s₃) (notedBy (model prog w) A env fun e s'=>R (.error e) s') s₂) (notedBy (model prog w) A env fun e s'=>R (.error e) s') s₁') (notedBy (model prog w) A env fun e s'=>R (.error e) s') s₁) (notedBy (model prog w) A env fun e s'=>R (.error e) s') s)
  (n:Nat) (h:I n s):codeAny (model prog w) A (.compLoop (.ListComp elt [⟨target,iter,ifs,0⟩] scope pos) 0 it acc env) R s:=by
 refine codeAny_loop rfl I (fun n s hI=>?_) n h;refine wpAny_noted ?_;rw[compTurn_list];refine wpAny_bind (wpAny_standAt (wpAny_bind (wpAny_mono (turn n s hI) (fun r s₁ h₁=>?_) fun _ _ z=>z)));cases r with
 | none=>exact wpAny_pure h₁
 | some v =>
   refine wpAny_bind (wpAny_mono h₁ (fun _ s₁' h₂=>wpAny_bind (wpAny_mono h₂ (fun _ s₂ h₃=>wpAny_bind (wpAny_mono h₃ (fun ok s₃ h₄=>?_) fun _ _ z=>z)) fun _ _ z=>z)) fun _ _ z=>z);cases ok with
   | false =>
     simp only[zzj,if_false] at h₄ ⊢;exact wpAny_pure ⟨rfl,h₄⟩
   | true =>
     simp only[if_true] at h₄ ⊢;refine wpAny_bind (wpAny_bind (wpAny_mono h₄ (fun x s₄ h₅=>wpAny_bind (wpAny_mono h₅ (fun _ s₅ h₆=>wpAny_pure (wpAny_pure ⟨rfl,h₆⟩)) fun _ _ z=>z)) fun _ _ z=>z))
def cs0(xo:List Str)(js:List Nat)(σ:St):St:=(xo.map fun _=>none)++js.map fun j=>(σ[j]?).getD none
def Qn(xo:List Str)(js:List Nat)(σ σ2:St):Prop:=∃ os:St,os.length=xo.length/\σ2=os++js.map fun j=>(σ[j]?).getD none
theorem Qn.weak(o:Qn xo js σ σ2)(I:Inv X pins σ2 H s):Inv X pins (cs0 xo js σ) H s:=by
 obtain⟨os,hl,rfl⟩:=o;refine I.weak (by unfold cs0;simp[hl]) fun i v e=>?_;unfold cs0 at e;by_cases hi:i<xo.length
 ·rw[zy0 (by rw[zx1];exact hi),zx5,zx2 hi] at e;cases e
 ·rw[zyz (by rw[zx1];omega),zx1] at e;rw[zyz ⋯,hl];exact e
def Ae(J:It)(xo:List Str)(js:List Nat)(g:TG)(tt:TT)(te:TE)(σ:St)(H:Hp)(Q:VK):Prop:=∃ W:Nat->Nat->#[a]->Hp->Prop,(∃ m,W 0 m [] H)/\∀ i m ys H,W i m ys H ->
 (J.stop i H/\ys.length<=sizeLine/\∀ p,H p=none->Q (.ref p) (upd H p (.lst ys))) \/
 (J.go i H/\ys.length<sizeLine/\∃ N:#[a]->Hp->Prop,(∀ ys' H',N ys' H'->∃ m',m' < m/\W (i+1) m' ys' H')/\∀ x H',J.yld i H x H'->g x (cs0 xo js σ) H' fun σ2 H1=>Qn xo js σ σ2/\tt σ2 H1 fun b H2=>if b=true then te σ2 H2 fun y H3=>N (ys++[y]) H3 else N ys H2)
def zib(wi:TI)(xo:List Str)(js:List Nat)(g:TG)(tt:TT)(te:TE):TE:=fun σ H Q=>wi σ H fun J H1=>Ae J xo js g tt te σ H1 Q
section
variable{X:Cx}{elt iter tg:Expr}{xo:List Str}{pos:Pos}{ifs:List Expr}{scope:Scope}{cl:List (Str×Addr)}{ys:List Str}{js:List Nat}{g:TG}
structure Oe(X:Cx)(xo:List Str)(scope:Scope)(cl:List (Str×Addr))(ys:List Str)(js:List Nat):Prop where
 clos:closureFor scope X.env=pure cl
 kind:scope.kind=.function
 names:∀ y∈scope.names,y.2=.local->scope.names.lookup y.1=some .local
 nocell:∀ y∈scope.names,y.2≠.cell
 at_:js.map (X.N[·]?)=ys.map some
 free:Dw (fun y=>X.env.kindOf y=some .cell/\(relabel scope X.env).names.lookup y=some .cell/\cl.lookup y=#[P,y]) ys
 only:Dw (fun p=>#[P,p.1]=some p.2) cl
 vis:∀ y∈scope.names,y.2=.free->y.1∈ys
theorem Oe.same(c:Oe X xo scope cl ys js)(h:cl.lookup y=some a):X.env.cells.lookup y=some a:=c.only.get (PySem.mem_of_lookup h)
theorem zic(c:Oe X xo scope cl ys js)(I:#[h])(hf:∀ b∈fp,FpOk X pins H b)(hex:∀ b∈fp,b<s.heap.objs.size)(hC:s.heap.objs.size<=C) :
  (Y4 X pn Nc scope cl s H fp C).Ok where
 mod:=I.ok.mod
 kind:=c.kind
 glob:=I.ok.glob
 blt:=I.ok.blt
 above:=hC
 inj:=fun y z a h1 h2=>I.ok.inj y z a (c.same h1) (c.same h2)
 has:=fun y h=>by
  obtain⟨k,m,q⟩:=Lc h;rcases q with rfl|rfl
  ·exact absurd rfl (c.nocell _ m)
  ·obtain⟨a1,a2,a3⟩:=c.free.get (c.vis _ m rfl);obtain⟨a,ha⟩:=I.ok.has y (.inl a1);exact⟨a,a3.trans ha⟩
 cab:=fun _ _ h=>by cases h
 hd:=I.ok.hd
 frames:=I.ok.frames
 stk:=.inl rfl
 exf:=fun b hb=>by
  obtain⟨f0,f1,f2,f3,f4,f5⟩:=hf b hb;exact⟨zyu (zyn (hex b hb) hC),fun y a h=>f4 y a (c.same h)⟩
 bs:=I.bs
 bsz:=zyg I.ok.bsz I.sz
 noex:=fun b o q hb=>by
  obtain⟨f0,f1,f2,f3,f4,f5⟩:=hf b hb;rcases f3 with z|z
  ·exact I.ok.noex b o q z
  ·exact absurd (zyn (Heap.lt_size (I.ok.bs b o q).1) z) (zzu _)
 exfs:=fun b hb m=>by
  obtain⟨f0,f1,f2,f3,f4,f5⟩:=hf b hb;exact(zx8.mp (I.stkSub b m)).elim f1 f2
 funs:=I.stack
 frf:=I.stkFree
theorem zf3(c:Oe X xo scope cl ys js)(I:#[h])(hf:∀ b∈fp,FpOk X pins H b)(hex:∀ b∈fp,b<s.heap.objs.size)(hC:s.heap.objs.size<=C)
  (hns:h1.Ns C m1) (old:∀ b o,#[J,b]=#[c]->h1.get? b=#[c]) :
  Inv (Y4 X (X.pn++pins) (xo++ys) scope cl s H fp C) [] (cs0 xo js σ) H { s with heap:=h1,toks:=t1 }:=by
 obtain⟨m,hn,hl⟩:=I.loc;have jl:js.length=ys.length:=by have:=congrArg List.length c.at_;simpa using this
 refine⟨zic c I hf hex hC,rfl,I.bare,Un.kept old,⟨m1,hns,fun i y v e1 e2 e3=>?_⟩,fun y a h=>?_,I.hok.fresh hC,fun y a h=>I.freeC y a (c.same h),fun p hp=>?_,I.hok.kept old,by simp[jl,Y4,cs0]⟩
 ·have e2:=e2.resolve_right (W3 _);unfold cs0 at e2;by_cases hi:i<xo.length
  ·rw[zy0 (by rw[zx1];exact hi),zx5,zx2 hi] at e2;cases e2
  ·rw[zyz (by rw[zx1];omega),zx1] at e2;have e1:ys[i-xo.length]?=some y:=by
    have e1:(xo++ys)[i]?=some y:=e1;rw[zyz ⋯] at e1;exact e1
   generalize i-xo.length=k at e1 e2;rw[zx5] at e2;cases hj:js[k]? with
   | none=>rw[hj] at e2;cases e2
   | some j =>
     rw[hj] at e2;have ej:X.N[j]?=some y:=by
      have q:=congrArg (·[k]?) c.at_;simp only[zx5,hj,e1,zy8] at q;exact Option.some.inj q
     have ev:σ[j]?=#[b,some,v]:=by
      simp only[zy8,Option.some.injEq] at e2;cases hσ:σ[j]? with
      | none=>rw[hσ] at e2;cases e2
      | some o=>rw[hσ] at e2;rw[show o=some v from e2]
     obtain⟨a1,a2,a3⟩:=c.free.get (zyb e1);obtain⟨u,r,l⟩:=hl j y v ej (.inl ev) (.inr (.inl a1));refine⟨u,r,.inr ⟨.inl a2,?_⟩⟩;rcases l with ⟨k1,_⟩|⟨_,b,e,z⟩
     ·rw[a1] at k1;cases k1
     ·obtain⟨o,ho,hd⟩:=z;exact⟨b,a3.trans e,o,old _ _ ho,hd⟩
 ·obtain⟨v,o,ho,hd⟩:=I.cell y a (c.same h);exact⟨v,o,old _ _ ho,hd⟩
 ·obtain⟨e,n,ne,nf,d⟩:=I.pin p (by simpa [Y4] using hp);refine⟨old _ _ e,n,zyu (zyn (Heap.lt_size e) hC),fun m=>?_,d⟩;exact(zx8.mp (I.stkSub _ m)).elim ne nf
theorem Fe{pins:#[v]}{σ:St}{H:Hp}{s:Shared}{tt:TT}{te:TE}{it:Addr}{fp:#[t]}{tn:Nat->Heap->Prop}{J:It}{W:Nat->Nat->#[a]->Hp->Prop}{m0:Nat}{Q:VK}{E:Value->Shared->Prop}{RR:Value->Addr->Result->Shared->Prop}
  (hcm:X.calm=true) (c:Oe X xo scope cl ys js) (ht:∀ pn s₀ H₀ fp C,PTs (Y4 X pn (xo++ys) scope cl s₀ H₀ fp C) ifs tt) (hgt:∀ pn s₀ H₀ fp C,PG (Y4 X pn (xo++ys) scope cl s₀ H₀ fp C) tg g) (he:∀ pn s₀ H₀ fp C,PE (Y4 X pn (xo++ys) scope cl s₀ H₀ fp C) elt te)
  (I:#[h]) (T:zaf X.prog X.w X.K tg J fp it tn) (st0:tn 0 s.heap) (hf:∀ b∈fp,FpOk X pins H b) (w0:W 0 m0 [] H)
  (turn:∀ i m ys H,W i m ys H->(J.stop i H/\ys.length<=sizeLine/\∀ p,H p=none->Q (.ref p) (upd H p (.lst ys))) \/
   (J.go i H/\ys.length<sizeLine/\∃ N:#[a]->Hp->Prop,(∀ ys' H',N ys' H'->∃ m',m' < m/\W (i+1) m' ys' H')/\∀ x H',J.yld i H x H'->g x (cs0 xo js σ) H' fun σ2 H1=>Qn xo js σ σ2/\tt σ2 H1 fun b H2=>if b=true then te σ2 H2 fun y H3=>N (ys++[y]) H3 else N ys H2))
  (hRR:∀ D C s' m,s'.heap.Ns C m->(∀ h',Heap.SameBut C s'.heap h'->∃ H',Inv X pins σ H' { s' with heap:=h' }/\Q (.ref D) H')->(∃ H',Inv X pins σ H' s'/\Q (.ref D) H'/\H' C=none)->s.heap.objs.size<=C->RR (.ref D) C (.ok .next) s') :
  wpAny (model X.prog X.w) X.A (newList []) (fun acc s₃=>#[U,X.A,newFunctionEnv scope X.env.globals cl [] X.env.qual none .none (some X.env),(fun cenv s₄ =>
   codeAny (model X.prog X.w) X.A (.compStart (.ListComp elt [⟨tg,iter,ifs,0⟩] scope pos) 0 (.ref it) acc { cenv with scope:=relabel scope X.env }) (RR acc cenv.locals) s₄),E,s₃]) E s:=by
 refine wpAny_newObj_type (wpAny_newFunctionEnv c.nocell (by intro y hy;simp at hy) (fun h₁ hns₁ hsb₁=>?_) c.kind);dsimp only at hns₁ hsb₁ ⊢;generalize hH2:s.heap.push { cls:=.type "list",dict:=none,data:=.seq ([]:List Value).toArray }=G at hns₁ hsb₁ ⊢;generalize hD:s.heap.objs.size=D;have hC:G.objs.size=D+1:=by rw[<- hH2,Heap.size_push,hD]
 generalize hCe:G.objs.size=C at hns₁ hsb₁ ⊢;have hCD:C=D+1:=hCe.symm.trans hC;have hDC:D≠C:=by omega
 have below:∀ b o,#[J,b]=#[c]->b<D:=fun b o e=>by rw[<- hD];exact Heap.lt_size e
 have ltC:∀ b:Addr,b<D->b≠C:=fun b h=>zyu (hCD▸zz9 h);have ltD:∀ b:Addr,b<D->b≠D:=fun b h=>zyu h;have old:∀ b o,#[J,b]=#[c]->h₁.get? b=#[c]:=fun b o e=>hsb₁.extBut b o (ltC b (below b o e)) #[W,_,hH2▸#[W,_,e]];have hacc:h₁.PlainList D #[]:=⟨_,hsb₁.extBut _ _ hDC #[W,_,(by rw[<- hH2,<- hD];exact Heap.get?_push_size _ rfl)]⟩;have hex:∀ b∈fp,b<s.heap.objs.size:=fun b hb=>by
  obtain⟨o,e,_⟩:=T.obj _ _ st0 b hb;exact Heap.lt_size e
 have lt0:∀ b∈fp,b<D:=fun b hb=>by rw[<- hD];exact hex b hb
 have freshD:#[J,D]=none:=Heap.get?_none_of_le ⋯;have freshC:#[J,C]=none:=Heap.get?_none_of_le ⋯;have frE:∀ {H':Hp},(∀ b∈fp,H' b=none)->∀ {o:Obj} {b:Addr},b∈fp->FpOk (Y4 X (X.pn++pins) (xo++ys) scope cl s H fp C) [(D,o)] H' b:=fun {H'} hn {o b} hb=>by
  obtain⟨f0,f1,f2,f3,f4,f5⟩:=hf b hb;refine⟨hn b hb,?_,?_,.inl hb,fun y a h=>f4 y a (c.same h),fun p hp=>?_⟩
  ·exact ltC b (lt0 b hb)
  ·exact fun m=>(zx8.mp (I.stkSub b m)).elim f1 f2
  ·rcases zyd.mp hp with z|z
   ·exact f5 p z
   ·rw[zx6.mp z];exact Ne.symm (ltD b (lt0 b hb))
 have pinD:∀ {σ':St} {H':Hp} {s':Shared} {o:Obj},Inv (Y4 X (X.pn++pins) (xo++ys) scope cl s H fp C) [] σ' H' s'->s'.heap.get? D=#[c]->(∀ v,o.data≠.cell v)->H' D=none->Inv (Y4 X (X.pn++pins) (xo++ys) scope cl s H fp C) [(D,o)] σ' H' s':=fun {σ' H' s' o} Ic e nc n =>
  Ic.pins_of fun p hp=>by
   rw[zx6.mp hp];refine⟨e,n,hDC,fun m=>?_,nc⟩;obtain⟨_,ob,hob,_⟩:=I.stack.mem m;exact absurd (below D ob hob) (zzu _)
 have loop:∀ s₃:Shared,s₃={ s with heap:=h₁,toks:=s.toks+([]:List (Str×Value)).length } ->
   codeAny (model X.prog X.w) X.A (.compLoop (.ListComp elt [⟨tg,iter,ifs,0⟩] scope pos) 0 (.ref it) (.ref D) (compEnvC scope cl C X.env)) (RR (.ref D) C) s₃:=by
  rintro s₃ rfl;have I0:=zf3 (t1:=s.toks+([]:List (Str×Value)).length) c I hf hex (by omega:s.heap.objs.size<=C) hns₁ old;refine N6 (fun n s'=>∃ i H' zs its,Inv (Y4 X (X.pn++pins) (xo++ys) scope cl s H fp C) [] (cs0 xo js σ) H' s'/\tn i s'.heap/\(∀ b∈fp,H' b=none)/\s'.heap.PlainList D (its:List Value).toArray/\Vals zs its/\H' D=none/\W i n zs H') ?_ m0
   ⟨0,H,[],[],I0,T.keep _ _ _ st0 fun b hb o e=>old b o e,fun b hb=>(hf b hb).1,hacc,.nil,I.hok.fresh ⋯,w0⟩
  rintro n s3 ⟨i,H3,zs,its,I3,st3,fr3,⟨n3,pl3⟩,rv3,fD3,w3⟩;have I3':=pinD I3 pl3 (by intro v z;cases z) fD3;rcases turn i n zs H3 w3 with ⟨stop,hsz,fin⟩|⟨go,hsz,Nx,hNx,step⟩
  ·refine wpAny_mono (T.done (Y4 X (X.pn++pins) (xo++ys) scope cl s H fp C) rfl rfl rfl hcm i _ s3 _ H3 (fun _ _=>False) I3' (fun b hb=>frE fr3 hb) st3 stop) (fun r s4 ⟨hr,I4⟩=>?_) fun _ _ z=>z.elim;subst hr;have plD:s4.heap.get? D=some _:=(I4.pin (D,{ cls:=Value.type "list",data:=.seq its.toArray n3 }) (zyq _ zyy)).1;obtain⟨m4,hn4,_⟩:=I4.loc;have okU:∀ h',(∀ b o,b≠C->s4.heap.get? b=some o->h'.get? b=some o)->#[G,upd H3 D (.lst zs),{ s4 with heap:=h' }]:=fun h' k1=>by
    have u4:Un (frs X.stack) fp H H3 s.heap s4.heap:=I4.base;have neC:∀ b o,#[J,b]=#[c]->b≠C:=fun b o e=>ltC b (below b o e);have neD:∀ b o,#[J,b]=#[c]->b≠D:=fun b o e=>ltD b (below b o e);have trD:∀ b u,H3 b=some u->b≠D:=fun b u e z=>by rw[z,fD3] at e;cases e
    have trC:∀ b u,H3 b=some u->b≠C:=fun b u e z=>by rw[z,show H3 C=none from I4.free] at e;cases e
    have un:Un (frs X.stack) fp H (upd H3 D (.lst zs)) s.heap h':=by
     refine⟨fun b o e n hb hx=>k1 b o (neC b o e) (u4.keep b o e n hb hx),fun b o e n hb hx=>?_,fun b o e n hx=>?_,fun b o e hx=>?_,fun b xs e=>?_,fun b ob u e=>?_,fun b ps e=>?_⟩
     ·obtain⟨sl,z⟩:=u4.slot b o e n hb hx;exact⟨sl,k1 b _ (neC b o e) z⟩
     ·rw[Zj (neD b o e)];exact u4.free b o e n hx
     ·obtain⟨o',z⟩:=u4.there b o e hx;exact⟨o',k1 b o' (neC b o e) z⟩
     ·have z:=u4.tups b xs e;rw[Zj (trD b _ z)];exact z
     ·have z:=u4.frzs b ob u e;rw[Zj (trD b _ z)];exact z
     ·obtain⟨more,z⟩:=u4.tbls b ps e;exact⟨more,by rw[Zj (trD b _ z)];exact z⟩
    refine I.call' (s':={ s4 with heap:=h' }) (ch:=fp) (show s4.os=s.os from I4.os) un (fun b u e=>?_) I4.bare fun b hb=>?_
    ·by_cases hb:b=D
     ·subst hb;rw[Ze] at e;cases e;exact⟨hsz,its,n3,rv3,k1 _ _ hDC plD⟩
     ·rw[Zj hb] at e;refine(I4.hok b u e).stay (fun d v hd q=>?_) (fun d q=>by rw[Zj (trD d _ q)];exact q) fun d xs q=>by rw[Zj (trD d _ q)];exact q
      rcases hd with z|z
      ·exact k1 d v (by rw[z];exact trC b u e) q
      ·exact k1 d v (trC d _ z) q
    ·obtain⟨f0,f1,f2,f3,f4,f5⟩:=hf b hb;exact⟨f3,f1,f4,f5⟩
   refine hRR D C s4 m4 hn4 (fun h' hs'=>⟨_,okU h' fun b o hb e=>hs'.extBut b o hb e,fin D fD3⟩) ⟨_,okU s4.heap fun _ _ _ e=>e,fin D fD3,?_⟩ ⋯
   ·rw[Zj (Ne.symm hDC)];exact I4.free
  ·refine wpAny_mono (T.item (Y4 X (X.pn++pins) (xo++ys) scope cl s H fp C) rfl rfl rfl hcm i _ s3 _ H3 (fun _ _=>False) I3' (fun b hb=>frE fr3 hb) st3 go) (fun r s4 ⟨u,hr,h4⟩=>?_) fun _ _ z=>z.elim;subst hr;refine wpAny_mono h4 (fun _ s5 h5=>?_) fun _ _ z=>z.elim;obtain⟨xv,H5,I5,r5,y5,st5,fr5⟩:=h5;have I5':=I5.pinned (fun b hb=>frE fr5 hb) (T.obj _ _ st5);refine wpAny_mono (hgt _ _ _ _ _ _ s5 _ H5 xv u _ I5' r5 (step xv H5 y5)) (fun _ s6 ⟨σ6,H6,I6,own6,q6⟩=>?_) fun _ _ z=>z.elim;refine wpAny_mono (ht _ _ _ _ _ _ s6 _ H6 _ I6 q6) (fun ok s7 ⟨H7,I7,q7⟩=>?_) fun _ _ z=>z.elim;have keepF:∀ {σ8:St} {H8:Hp} {s8:Shared},Inv (Y4 X (X.pn++pins) (xo++ys) scope cl s H fp C) ([(D,{ cls:=Value.type "list",data:=.seq its.toArray n3 })]++Kn fp s5.heap) σ8 H8 s8->tn (i+1) s8.heap/\(∀ b∈fp,H8 b=none)/\s8.heap.PlainList D its.toArray/\H8 D=none:=fun {σ8 H8 s8} I8=>by
    refine⟨T.keep _ _ _ st5 fun b hb o e=>(I8.pin (b,o) (zyq _ (zyq _ (Qh hb e)))).1,fun b hb=>?_,⟨n3,(I8.pin (D,_) (zyq _ zyy)).1⟩,(I8.pin (D,_) (zyq _ zyy)).2.1⟩;obtain⟨o,e,d⟩:=T.obj _ _ st5 b hb;exact(I8.pin (b,o) (zyq _ (zyq _ (Qh hb e)))).2.1
   have bare:∀ {σ8:St} {H8:Hp} {s8:Shared},Inv (Y4 X (X.pn++pins) (xo++ys) scope cl s H fp C) ([(D,{ cls:=Value.type "list",data:=.seq its.toArray n3 })]++Kn fp s5.heap) σ8 H8 s8->Inv (Y4 X (X.pn++pins) (xo++ys) scope cl s H fp C) [] σ8 H8 s8:=fun I8=>I8.pins_of fun _ z=>(nomatch z)
   cases ok with
   | false =>
     simp only[zzj,if_false] at q7 ⊢;obtain⟨m',hm',w7⟩:=hNx _ _ q7;obtain⟨a1,a2,a3,a4⟩:=keepF I7;exact⟨m',hm',i+1,H7,zs,its,own6.weak (bare I7),a1,a2,a3,rv3,a4,w7⟩
   | true =>
     simp only[if_true] at q7 ⊢;refine wpAny_mono (he _ _ _ _ _ _ s7 _ H7 _ I7 q7) (fun y s8 ⟨yv,H8,I8,r8,q8⟩=>?_) fun _ _ z=>z.elim;obtain⟨m',hm',w8⟩:=hNx _ _ q8;obtain⟨a1,a2,a3,a4⟩:=keepF I8;have szI:its.toArray.size<=sizeLine:=by rw[zyj,<- rv3.length];omega
     refine wpAny_list_append_plain (hsz:=szI) a3 fun h9 pl9 sb9=>?_;have I8b:=own6.weak (bare I8);refine⟨m',hm',i+1,H8,zs++[yv],its++[y],?_,T.keep _ _ _ a1 fun b hb o e=>(sb9.2 b (ltD b (lt0 b hb))).trans e,a2,by rw[List.push_toArray] at pl9;exact pl9,rv3.append (.cons r8 .nil),a4,w8⟩;refine I8b.turned (t':=s8.toks) (it:=D) (fun b o hb e=>(sb9.2 b hb).trans e) a4 hDC (.inr (show s.heap.objs.size<=D by omega)) (fun y' a h=>?_) fun p hp=>?_
     ·obtain⟨v,o,ho,_⟩:=I.cell y' a (c.same h);exact ltD a (below a o ho)
     ·obtain⟨e,_⟩:=I.pin p (by simpa [Y4] using hp);exact ltD _ (below _ _ e)
 exact codeAny_compStart_list (loop _ rfl) (T.self _ 0 _ _ _ (T.keep _ _ _ st0 fun b hb o e=>old b o e) (loop _ rfl))
variable{wi:TI}{tt:TT}{te:TE}
theorem Of(hcm:X.calm=true)(c:Oe X xo scope cl ys js)(hi:PI X tg iter wi)(ht:∀ pn s₀ H₀ fp C,PTs (Y4 X pn (xo++ys) scope cl s₀ H₀ fp C) ifs tt)(hgt:∀ pn s₀ H₀ fp C,PG (Y4 X pn (xo++ys) scope cl s₀ H₀ fp C) tg g)(he:∀ pn s₀ H₀ fp C,PE (Y4 X pn (xo++ys) scope cl s₀ H₀ fp C) elt te)
  (hs:∀ x,foldedSetIterable iter X.env x=pure x:=by intro _;rfl):PE X (.ListComp elt [⟨tg,iter,ifs,0⟩] scope pos) (zib wi xo js g tt te):=by
 intro pins s σ H Q I h;rw[eval_ListComp];refine wpAny_comprehension_free (use:=none) rfl hs c.clos c.kind c.names (thn (hi pins s σ H _ I h) fun v s1 h1=>thn h1 fun itv s2 h2=>?_);obtain⟨it,fp,tn,J,H2,e,I2,T,st2,f2,W,⟨m0,w0⟩,turn⟩:=h2;subst e;exact Fe (RR:=fun acc C=>compPost (model X.prog X.w) X.A X.xe none (EP X pins σ Q) acc C) hcm c ht hgt he I2 T st2 f2 w0 turn fun D C s' m hn hS _ _=>⟨m,hn,fun h' hs'=>let ⟨H',I',q⟩:=hS h' hs';⟨.ref D,H',I',rfl,q⟩⟩
end
end L2
namespace G
open PySem PySem.Spec PyProof.Rows L2
theorem zc1{K:Frag}{a:Addr}{xs:#[a]}{xo:List Str}{js:List Nat}{g:TG}{tt:TT}{te:TE}{σ:L2.St}{H:Hp}{Q:VK}(p:Nat->Bool)(f:Nat->V)(hz:xs.length<=1000)(hx:SqL K H a xs)
  (step:∀ (i:Nat) (x:V) (t:Addr) (H':Hp) (N:#[a]->Hp->Prop) (ys:#[a]),xs[i]?=some x->#[p]->H' t=none->(∀ H2,Same H H2->N (if p i=true then ys++[f i] else ys) H2) ->
   g (.ref t) (cs0 xo js σ) (upd H' t (.tup [.int (i:Nat),x])) fun σ2 H1=>Qn xo js σ σ2/\tt σ2 H1 fun b H2=>if b=true then te σ2 H2 fun y H3=>N (ys++[y]) H3 else N ys H2)
  (fin:∀ (H':Hp) (l:Addr),#[p]->H' l=none->Q (.ref l) (upd H' l (.lst (((List.range xs.length).filter p).map f)))):Ae (Ite K a) xo js g tt te σ H Q:=by
 have line:1000<sizeLine:=by rw[sizeLine_eq];decide
 refine⟨fun i m ys H'=>m=xs.length-i/\i<=xs.length/\#[p]/\ys=((List.range i).filter p).map f,⟨xs.length,by simp,zyv _,fun _ _ q=>q,by simp⟩,?_⟩;rintro i m ys H' ⟨rfl,hi,hs,rfl⟩;have hq:=hs.seq hx;have hlen:(((List.range i).filter p).map f).length<=i:=by
  rw[zx1];exact zyg (zyw _ _) (by rw[zy6];exact zyc _)
 by_cases hlt:i<xs.length
 ·refine .inr ⟨⟨xs,xs[i],hq,by simp[hlt]⟩,by omega,fun ys' H2=>Same H H2/\ys'=((List.range (i+1)).filter p).map f,fun ys' H2 ⟨h1,h2⟩=>⟨xs.length-(i+1),by omega,rfl,hlt,h1,h2⟩,fun x H2 y=>?_⟩;obtain⟨t,y,h1,h2,rfl,rfl⟩:=y;refine step i y t H' (fun ys' H2=>Same H H2/\ys'=((List.range (i+1)).filter p).map f) _ (h2 xs hq) hs h1 fun H2 s2=>⟨s2,?_⟩
  rw[List.range_succ,zzk,zx7];cases hp:p i with
  | true=>rw[if_pos rfl,zzf,if_pos hp];rfl
  | false=>rw[if_neg ⋯,zzf,if_neg (by rw[hp];decide)];simp
 ·have e:i=xs.length:=by omega
  subst e;exact .inl ⟨⟨xs,hq,zyc _⟩,by omega,fun l hl=>fin H' l hs hl⟩
theorem Bb:∀ (a b:List (Nat×Option Int)) (xs:List V),Yz (a++b) xs=Yz b (Yz a xs)
 | [],_,_=>rfl
 | (p,w) :: r,b,xs=>by rw[List.cons_append,Yz,Yz,Bb r b]
structure Gx(kvs:#[N])(gs:#[a]):Prop where
 has:∀ (n:Int) (j:Nat),gs[j]?=#[l,n]->valV kvs (inl n:Key)=#[l,(j:Nat)]
 not:∀ n:Int,(∀ j:Nat,gs[j]?≠#[l,n])->valV kvs (inl n:Key)=none
theorem Gx.iff(t:Gx kvs gs)(n:Int):(∃ j:Nat,gs[j]?=some (.int n)/\valV kvs (inl n:Key)=some (.int (j:Nat)))\/((∀ j:Nat,gs[j]?≠some (.int n))/\valV kvs (inl n:Key)=none):=by
 by_cases h:∃ j:Nat,gs[j]?=some (.int n)
 ·obtain⟨j,hj⟩:=h;exact .inl ⟨j,hj,t.has n j hj⟩
 ·have h':∀ j:Nat,gs[j]?≠some (.int n):=fun j hj=>h ⟨j,hj⟩;exact .inr ⟨h',t.not n h'⟩
inductive Af(K:Frag)(vs:#[a])(H:Hp)(Q:VK)(_:XK):Prop where
 | mk(b:Addr)(gs:#[a])(_:vs=[.ref b])(_:#[w,H,b,gs])(_:(∀ x∈gs,oneV x))(_:(∀ (j k:Nat) (n:Int),gs[j]?=#[l,n]->gs[k]?=#[l,n]->j=k))(_:gs.length<=100)(_:∀ d kvs H',H' d=#[b,.dK,kvs]->Gx kvs gs->#[p]->H d=none->#[I,d])
structure Wb(H:Hp)(into:#[N])(line:List Nat)(fr:Nat->Option (Nat×Int)):Prop where
 keys:into.map (·.1)=line.map fun q:Nat=>(inl (q:Int):Key)
 none:∀ q∈line,fr q=Option.none->valV into (inl (q:Int):Key)=some .non
 some:∀ q∈line,∀ par n,fr q=Option.some (par,n)->∃ t,valV into (inl (q:Int):Key)=Option.some (.ref t)/\H t=Option.some (.tup [.int (par:Nat),.int n])
theorem Wb.same(e:#[p])(h:Wb H into line fr):Wb H' into line fr :=
 ⟨h.keys,h.none,fun q hq par n hf=>let ⟨t,a,b⟩:=h.some q hq par n hf;⟨t,a,e _ _ b⟩⟩
theorem Wb.len(h:Wb H into line fr):into.length=line.length:=by
 have:=congrArg List.length h.keys;rw[zx1,zx1] at this;exact this
theorem zid{into:#[N]}{k:Key}:(valV into k).isSome=true↔k∈into.map Prod.fst:=by
 unfold valV;rw[Option.isSome_map,List.find?_isSome];constructor
 ·rintro⟨p,hp,e⟩;exact zya.mpr ⟨p,hp,of_decide_eq_true e⟩
 ·intro h;obtain⟨p,hp,rfl⟩:=zya.mp h;exact⟨p,hp,zx9 rfl⟩
theorem Wb.has{H:Hp}{into:#[N]}{line:List Nat}{fr:Nat->Option (Nat×Int)}(h:Wb H into line fr)(q:Nat):(valV into (inl (q:Int):Key)).isSome=true↔q∈line:=by
 rw[zid,h.keys];constructor
 ·intro z;obtain⟨q',h1,h2⟩:=zya.mp z;have:(q':Int)=q:=inl.inj h2;have:q'=q:=by omega
  rw[<- this];exact h1
 ·intro hq;exact zya.mpr ⟨q,hq,rfl⟩
inductive zc2(K:Frag)(vs:#[a])(H:Hp)(Q:VK)(_:XK):Prop where
 | mk(l d:Addr)(ls:#[t])(rows:#[A])(kvs:#[N])(gs:#[a])(p:Nat)(_:vs=[.ref l,.ref d,.int p])(_:#[ad,l])(_:ILs H ls rows)(_:rows.length<=100)(_:H d=#[b,.dK,kvs])(_:Gx kvs gs)(_:Yr rows gs)(_:p<rows.length)(_:∀ t into line dep fr H',H' t=#[b,.dK,into]->Wb H' into line fr->Bfs rows gs p line dep->Done rows gs line dep line.length->T2 rows gs p line dep fr->(∀ q∈line,q<rows.length)->#[p]->H t=none->#[I,t])
inductive Bc(K:Frag)(vs:#[a])(H:Hp)(Q:VK)(_:XK):Prop where
 | mk(l d:Addr)(r:#[o])(kvs:#[N])(_:vs=[.ref l,.ref d])(_:H l=some (.lst (r.map V.int)))(_:H d=#[b,.dK,kvs])(_:∀ w:#[C],(∀ n,w=some n->n∈r/\valV kvs (inl n:Key)=none)->(w=none->∀ n∈r,(valV kvs (inl n:Key)).isSome=true)->Q (oV w) H)
inductive za1(K:Frag)(vs:#[a])(H:Hp)(Q:VK)(_:XK):Prop where
 | mk(t:Addr)(q p:Nat)(w:#[C])(rows:#[A])(gs:#[a])(into:#[N])(line:List Nat)(dep:Nat->Nat)(fr:Nat->Option (Nat×Int))(_:vs=[.ref t,.int q,oV w])(_:Rd H t (.dK into))(_:Wb H into line fr)(_:T2 rows gs p line dep fr)(_:dep p=0)(_:p∈line)(_:q∈line)(_:dep q<=100)(_:∀ lt ts st H',H' lt=#[r,ts]->Z8 H' ts (st.map Vz)->Ch rows gs p st q w->st.length=dep q+1->#[p]->H lt=none->#[I,lt])
section
variable{rows:#[A]}{gs:#[a]}{p:Nat}{line:List Nat}{dep:Nat->Nat}{fr:Nat->Option (Nat×Int)}{H H':Hp}{into:#[N]}
def J8(fr:Nat->Option (Nat×Int))(q:Nat)(x:Nat×Int):Nat->Option (Nat×Int):=fun y=>if y=q then some x else fr y
theorem N7:J8 fr q x q=some x:=by unfold J8;rw[if_pos rfl]
theorem Li(h:y≠q):J8 fr q x y=fr y:=by unfold J8;rw[if_neg h]
theorem T2.app(F:T2 rows gs p line dep fr)(hn:q'∉line)(hp:p∈line)(hh:here∈line)(a:adjN rows gs here n q'):T2 rows gs p (line++[q']) (V4 dep q' (dep here+1)) (J8 fr q' (here,n)):=by
 have ne:∀ x∈line,x≠q':=fun x hx z=>hn (by rw[<- z];exact hx);have old:∀ x∈line,V4 dep q' (dep here+1) x=dep x:=fun x hx=>by unfold V4;rw[if_neg (ne x hx)]
 have new:V4 dep q' (dep here+1) q'=dep here+1:=by unfold V4;rw[if_pos rfl]
 refine⟨by rw[Li (ne p hp)];exact F.1,fun q hq hqp=>?_⟩;rcases zyd.mp hq with z|z
 ·obtain⟨par,m,h1,h2,h3,h4⟩:=F.2 q z hqp;exact⟨par,m,by rw[Li (ne q z)];exact h1,zyp _ h2,h3,by rw[old q z,old par h2];exact h4⟩
 ·rw[zx6.mp z];exact⟨here,n,N7,zyp _ hh,a,by rw[new,old here hh]⟩
theorem Wb.mono(e:∀ t xs,H t=Option.some (.tup xs)->H' t=Option.some (.tup xs))(h:Wb H into line fr):Wb H' into line fr :=
 ⟨h.keys,h.none,fun q hq par n hf=>let ⟨t,a,b⟩:=h.some q hq par n hf;⟨t,a,e _ _ b⟩⟩
theorem Wb.app(I:Wb H into line fr)(hn:q'∉line)(ht:H t=Option.some (.tup [.int (here:Nat),.int n])):Wb H (putK into (inl (q':Int)) (.ref t)) (line++[q']) (J8 fr q' (here,n)):=by
 have ne:∀ x∈line,x≠q':=fun x hx z=>hn (by rw[<- z];exact hx);have hv:valV into (inl (q':Int):Key)=Option.none:=by
  cases e:valV into (inl (q':Int):Key) with
  | none=>rfl
  | some y=>exact absurd ((I.has q').mp (by rw[e];rfl)) hn
 have val:∀ x∈line,valV (putK into (inl (q':Int)) (.ref t)) (inl (x:Int):Key)=valV into (inl (x:Int):Key):=fun x hx=>by
  rw[U5,if_neg fun z=>ne x hx (by have:=inl.inj z;omega)]
 have valn:valV (putK into (inl (q':Int)) (.ref t)) (inl (q':Int):Key)=Option.some (.ref t):=by rw[U5,if_pos rfl]
 refine⟨?_,fun q hq hf=>?_,fun q hq par m hf=>?_⟩
 ·rw[zha _ hv,zx7,zx7,I.keys];rfl
 ·rcases zyd.mp hq with z|z
  ·rw[Li (ne q z)] at hf;rw[val q z];exact I.none q z hf
  ·rw[zx6.mp z,N7] at hf;cases hf
 ·rcases zyd.mp hq with z|z
  ·rw[Li (ne q z)] at hf;rw[val q z];exact I.some q z par m hf
  ·rw[zx6.mp z,N7] at hf;cases hf;rw[zx6.mp z];exact⟨t,valn,ht⟩
theorem zc3(H:Hp)(p:Nat):Wb H [((inl (p:Int):Key),V.non)] [p] fun _=>none :=
 ⟨rfl,fun q hq _=>by rw[zx6.mp hq];exact Xs rfl,fun q _ par n hf=>nomatch hf⟩
theorem zc4:T2 rows gs p [p] (fun _=>0) fun _=>none:=⟨rfl,fun q hq hne=>absurd (zx6.mp hq) hne⟩
end
section
variable{rows:#[A]}{gs:#[a]}
theorem Ch.somes{q e:Nat}{st:#[H]}{w:#[C]}(h:#[Y]):w≠none->∀ s∈st,s.2≠none:=by
 induction h with
 | one q w=>intro hw s hs;simp at hs;subst hs;exact hw
 | step a h ih =>
   intro hw s hs;rcases zx8.mp hs with rfl|z
   ·exact fun z=>nomatch z
   ·exact ih hw s z
theorem Ch.near{q e:Nat}{st:#[H]}{w:#[C]}(h:#[Y]):∀ s∈st,s.1=q\/∃ m,gs[s.1]?=#[b,V.int,m]:=by
 induction h with
 | one q w=>intro s hs;simp at hs;subst hs;exact .inl rfl
 | @step q q' e n st w a h ih =>
   intro s hs;rcases zx8.mp hs with rfl|z
   ·exact .inl rfl
   ·rcases ih s z with z|z
    ·exact .inr ⟨n,by rw[z];exact a.2⟩
    ·exact .inr z
theorem Ch.single{q e:Nat}{st:#[H]}{w:#[C]}(h:#[Y])(hl:st.length<=1):st=[(q,w)]/\e=q:=by
 cases h with
 | one=>exact#[y,rfl]
 | step a h=>have:=h.pos;rw[zyk] at hl;omega
structure Tn(rows:#[A])(gs:#[a])(i:Nat):Prop where
 fill:Yr rows gs
 ahead:∀ q n,gs[q]?=#[b,V.int,n]->q<i
 stuck:∀ p,p<i->gs[p]?=some .non->Nb rows gs p
theorem Tn.non(F:Tn rows gs i)(hk:i<=k)(hr:k<rows.length):gs[k]?=some .non:=by
 have hl:k<gs.length:=by rw[F.fill.len];exact hr
 have e:=zx2 hl;rcases F.fill.one _ (zyx hl) with z|⟨n,z⟩
 ·rw[e,z]
 ·rw[z] at e;have:=F.ahead k n e;omega
theorem Tn.step{i e:Nat}{st:#[H]}{w:#[C]}(F:Tn rows gs i)(hi:i<rows.length)(c:Xw rows gs i st e w):Tn rows (Yz st gs) (i+1):=by
 have hnon:=F.non (zyc i) hi;cases w with
 | none =>
   obtain⟨h1,h2,h3⟩:=c.none rfl;have hei:e=i:=by
    have hge:=h2 i 0 .nil;rcases(show e=i\/∃ m,gs[e]?=some (V.int m) by
     obtain⟨s,hs,rfl⟩:=zya.mp c.ch.last;exact c.ch.near s hs) with z|⟨m,z⟩
    ·exact z
    ·have:=F.ahead e m z;omega
   have hst:st=[(i,none)]:=(c.ch.single (by have:=h3 0 (hei▸.nil);omega)).1;have hl:i<gs.length:=by rw[F.fill.len];exact hi
   have same:Yz st gs=gs:=by
    rw[hst];show gs.set i .non=gs;refine List.ext_getElem? fun k=>?_;by_cases hk:i=k
    ·subst hk;rw[zzb hl,hnon]
    ·rw[zy3 hk]
   rw[same];refine⟨F.fill,fun q n hq=>zz9 (F.ahead q n hq),fun p hp hpn=>?_⟩;by_cases hpi:p=i
   ·subst hpi;exact zh5 F.fill hi F.ahead h1
   ·exact F.stuck p ⋯ hpn
 | some n0 =>
   obtain⟨hf,_⟩:=c.free n0 rfl;have nd:=c.nodup;have FP':=c.fill F.fill hi;have at_:∀ k,k<gs.length->(k∉st.map (·.1)/\(Yz st gs)[k]?=gs[k]?)\/∃ w,(k,w)∈st/\(Yz st gs)[k]?=#[b,oV,w]:=fun k hk=>W5 nd hk;have lt:∀ {k:Nat} {v:V},(Yz st gs)[k]?=some v->k<gs.length:=fun {k v} hk=>by
    have:=(zx3.mp hk).1;rw[Wo] at this;exact this
   refine⟨FP',fun q n hq=>?_,fun p hp hpn=>?_⟩
   ·rcases at_ q (lt hq) with ⟨_,h2⟩|⟨w',h1,_⟩
    ·rw[h2] at hq;exact zz9 (F.ahead q n hq)
    ·rcases c.ch.near _ h1 with z|⟨m,z⟩
     ·have:q=i:=z;omega
     ·exact zz9 (F.ahead q m z)
   ·rcases at_ p (lt hpn) with ⟨h1,h2⟩|⟨w',h1,h2⟩
    ·rw[h2] at hpn;have hpi:p≠i:=fun z=>by
      obtain⟨x,r,e⟩:=c.ch.hd;exact h1 (by rw[z,e];simp)
     exact(F.stuck p ⋯ hpn).behind F.fill c.ch hf hi nd
    ·have:=c.ch.somes (by simp) _ h1;rw[h2] at hpn;cases w' with
     | none=>exact absurd rfl this
     | some m=>cases hpn
theorem D1(rows:#[A]):Tn rows (rows.map fun _=>V.non) 0:=by
 have h0:∀ (k:Nat) (n:Int),(rows.map fun _=>V.non)[k]?≠#[b,V.int,n]:=fun k n h=>by
  rw[zx5] at h;cases e:rows[k]? with
  | none=>rw[e] at h;cases h
  | some r=>rw[e] at h;cases h
 exact⟨⟨by rw[zx1],fun x hx=>by obtain⟨_,_,rfl⟩:=zya.mp hx;exact .inl rfl,fun k n h=>absurd h (h0 k n),fun j k n h=>absurd h (h0 j n)⟩,fun q n h=>absurd h (h0 q n),fun p hp=>absurd hp (zz5 _)⟩
theorem Tn.last(F:Tn rows gs rows.length):V3 rows gs:=fun p hp=>F.stuck p (by have:=(zx3.mp hp).1;rw[F.fill.len] at this;exact this) hp
end
end G
namespace G
open PySem PySem.Spec PyProof.Rows L2
section
variable{rows:#[A]}{gs:#[a]}
theorem Ch.pred{q e:Nat}{st:#[H]}{w:#[C]}(h:#[Y]):∀ q'∈st.map (·.1),q'=q\/∃ q0 n,(q0,some n)∈st/\gs[q']?=#[b,V.int,n]:=by
 induction h with
 | one q w=>intro q' hq;simp at hq;exact .inl hq
 | @step q q1 e n st w a h ih =>
   intro q' hq;rw[zyf] at hq;rcases zx8.mp hq with z|z
   ·exact .inl z
   ·rcases ih q' z with z|⟨q0,m,h1,h2⟩
    ·exact .inr ⟨q,n,zyy,by rw[z];exact a.2⟩
    ·exact .inr ⟨q0,m,zym _ h1,h2⟩
theorem Ch.reach{q e:Nat}{st:#[H]}{w:#[C]}(h:#[Y]):∀ q'∈st.map (·.1),∃ k,#[O,q,q',k]:=by
 induction h with
 | one q w=>intro q' hq;simp at hq;rw[hq];exact⟨0,.nil⟩
 | @step q q1 e n st w a h ih =>
   intro q' hq;rw[zyf] at hq;rcases zx8.mp hq with z|z
   ·rw[z];exact⟨0,.nil⟩
   ·obtain⟨k,hk⟩:=ih q' z;exact⟨k+1,.cons a hk⟩
theorem Ch.noneLast{q e:Nat}{st:#[H]}{w:#[C]}(h:#[Y]):∀ k,(k,none)∈st->k=e/\w=none:=by
 induction h with
 | one q w=>intro k hk;simp at hk;exact⟨hk.1,hk.2.symm⟩
 | @step q q1 e n st w a h ih =>
   intro k hk;rcases zx8.mp hk with z|z
   ·cases z
   ·exact ih k z
theorem Ch.along{R:Nat->Prop}(hs:∀ q n q',adjN rows gs q n q'->R q->R q'){q e:Nat}{st:#[H]}{w:#[C]}(h:#[Y]):R q->R e:=by
 induction h with
 | one q w=>exact fun z=>z
 | step a h ih=>exact fun z=>ih (hs _ _ _ a z)
theorem Ch.lastMem{q e:Nat}{st:#[H]}{w:#[C]}(h:#[Y]):(e,w)∈st:=by
 induction h with
 | one q w=>simp
 | step a h ih=>exact zym _ ih
theorem zie{st:#[H]}(nd:(st.map (·.1)).Nodup){k:Nat}{w w':#[C]}(h:(k,w)∈st)(h':(k,w')∈st):w=w':=by
 induction st with
 | nil=>cases h
 | cons s r ih =>
   rw[zyf,zys] at nd;rcases zx8.mp h with z|z<;>rcases zx8.mp h' with z'|z'
   ·rw[<- z] at z';exact(Prod.mk.inj z').2.symm
   ·exact absurd (zya.mpr ⟨_,z',by rw[<- z]⟩) nd.1
   ·exact absurd (zya.mpr ⟨_,z,by rw[<- z']⟩) nd.1
   ·exact ih nd.2 z z'
theorem zjv{st:#[H]}{xs:#[a]}(nd:(st.map (·.1)).Nodup){k:Nat}{w:#[C]}(h:(k,w)∈st)(hk:k<xs.length):(Yz st xs)[k]?=#[b,oV,w]:=by
 rcases W5 nd hk with ⟨h1,_⟩|⟨w',h1,h2⟩
 ·exact absurd (zya.mpr ⟨_,h,rfl⟩) h1
 ·rw[h2,zie nd h1 h]
theorem Ch.moved{p e:Nat}{st:#[H]}{w:#[C]}(FP:Yr rows gs)(h:Ch rows gs p st e w)(hp:p<rows.length)(hn:gs[p]?=some .non)(nd:(st.map (·.1)).Nodup){q':Nat}{n:Int}(hq:gs[q']?=#[b,V.int,n]) :
  (q'∉st.map (·.1)/\(Yz st gs)[q']?=some (V.int n))\/∃ q0,(q0,some n)∈st/\(Yz st gs)[q0]?=#[b,V.int,n]:=by
 have hl:q' < gs.length:=(zx3.mp hq).1;by_cases hm:q'∈st.map (·.1)
 ·rcases h.pred q' hm with z|⟨q0,m,h1,h2⟩
  ·rw[z,hn] at hq;cases hq
  ·rw[hq] at h2;cases h2;refine .inr ⟨q0,h1,?_⟩;have:=h.lt FP hp _ h1;exact zjv nd h1 (by rw[FP.len];exact this)
 ·rcases W5 nd hl with ⟨_,h2⟩|⟨w',h1,_⟩
  ·exact .inl ⟨hm,by rw[h2];exact hq⟩
  ·exact absurd (zya.mpr ⟨_,h1,rfl⟩) hm
end
section
variable{rows:#[A]}{gs:#[a]}{p e:Nat}{x:Int}{st:#[H]}{w:#[C]}
def without(rows:#[A])(x:Int):#[A]:=rows.map fun r=>r.filter fun n=>#[i,n≠x]
theorem S7{q:Nat}{r':#[o]}(h:(without rows x)[q]?=some r'):∃ r,rows[q]?=some r/\∀ n∈r',n∈r/\n≠x:=by
 unfold without at h;rw[zx5] at h;cases e:rows[q]? with
 | none=>rw[e] at h;cases h
 | some r =>
   rw[e] at h;cases h;exact#[q,r,fun n hn=>⟨(zy5.mp hn).1,of_decide_eq_true (zy5.mp hn).2⟩]
theorem To(FP:Yr rows gs)(hx:gs[p]?=#[l,x]):Yr (without rows x) (gs.set p .non):=FP.without hx _ fun n hn=>by
 have:=of_decide_eq_false hn;rw[Classical.not_not.mp this]
theorem zif(hx:gs[p]?=#[l,x]):(gs.set p V.non)[p]?=some .non:=by rw[zzb (zx3.mp hx).1]
theorem zek(hx:gs[p]?=#[l,x])(h:(gs.set p V.non)[q]?=#[l,n]):gs[q]?=#[l,n]/\q≠p:=by
 by_cases e:p=q
 ·subst e;rw[zif hx] at h;cases h
 ·rw[zy3 e] at h;exact⟨h,Ne.symm e⟩
theorem Lj{q:Nat}{n:Int}(hx:gs[p]?=#[l,x])(h:gs[q]?=#[l,n])(hn:n≠x):(gs.set p V.non)[q]?=#[l,n]:=by
 rw[zy3 (fun z=>by subst z;rw[hx] at h;cases h;exact hn rfl)];exact h
theorem za2(FP:Yr rows gs)(SP:V3 rows gs)(hx:gs[p]?=#[l,x])(C:Xw (without rows x) (gs.set p .non) p st e w):V3 (without rows x) (Yz st (gs.set p .non)):=by
 have FP0:=To FP hx;have hRl:(without rows x).length=rows.length:=by unfold without;rw[zx1]
 have hp:p<rows.length:=by have:=(zx3.mp hx).1;rw[FP.len] at this;exact this
 have hp0:p<(without rows x).length:=by rw[hRl];exact hp
 have nd:=C.nodup;have hpm:p∈st.map (·.1):=by obtain⟨y,r,e'⟩:=C.ch.hd;rw[e'];simp
 have moved:=fun {q':Nat} {n:Int} (hq:(gs.set p V.non)[q']?=#[b,V.int,n])=>C.ch.moved FP0 hp0 (zif hx) nd hq;have closedT:w=none->∀ q,(∃ k,Walk (without rows x) (gs.set p .non) p q k)->q<(without rows x).length/\∀ r,(without rows x)[q]?=some r->∀ n∈r,∃ q2,q2<e/\(Yz st (gs.set p .non))[q2]?=#[l,n]/\∃ k,Walk (without rows x) (gs.set p .non) p q2 k:=by
  rintro hw q ⟨k,hk⟩;obtain⟨c1,c2,c3⟩:=C.none hw;refine⟨?_,fun r hr n hn=>?_⟩
  ·cases hk with
   | nil=>exact hp0
   | snoc _ a =>
     have:=(zx3.mp a.2).1;rw[FP0.len] at this;exact this
  ·by_cases hf:∃ j:Nat,(gs.set p V.non)[j]?=some (V.int n)
   ·obtain⟨q1,hq1⟩:=hf;have w1:Walk (without rows x) (gs.set p .non) p q1 (k+1):=.snoc hk ⟨⟨r,hr,hn⟩,hq1⟩;rcases moved hq1 with ⟨m1,m2⟩|⟨q0,m1,m2⟩
    ·refine⟨q1,?_,m2,_,w1⟩;have:=c2 q1 _ w1;have hne:q1≠e:=fun z=>m1 (by rw[z];exact C.ch.last);omega
    ·obtain⟨k0,hk0⟩:=C.ch.reach q0 (zya.mpr ⟨_,m1,rfl⟩);refine⟨q0,?_,m2,k0,hk0⟩;have:=c2 q0 _ hk0;have hne:q0≠e:=fun z=>by
      have hl:=C.ch.lastMem;rw[z] at m1;rw[hw] at hl;have:=zie nd m1 hl;cases this
     omega
   ·exact absurd ⟨n,⟨r,hr,hn⟩,fun j hj=>hf ⟨j,hj⟩⟩ (c1 q k hk)
 intro p0 hpn;have hl0:p0<(gs.set p V.non).length:=by have:=(zx3.mp hpn).1;rw[Wo] at this;exact this
 rcases W5 nd hl0 with ⟨a1,a2⟩|⟨w',a1,a2⟩
 ·rw[a2] at hpn;have hpp:p≠p0:=fun z=>a1 (by rw[<- z];exact hpm);rw[zy3 hpp] at hpn;obtain⟨S0,hS,cl⟩:=SP p0 hpn;have inS:∀ q k,#[O,p0,q,k]->S0 q:=fun q k hk=>by
   induction hk with
   | nil=>exact hS
   | @snoc q q' k n h a ih =>
     obtain⟨r,h1,h2⟩:=a.1;obtain⟨q'',_,h3,h4⟩:=(cl q ih).2 r h1 n h2;rw[<- FP.inj q'' q' n h3 a.2];exact h4
  have closed0:∀ q,(∃ k,Walk rows gs p0 q k)->q<rows.length/\∀ r,rows[q]?=some r->∀ n∈r,∃ q',q' < p0/\gs[q']?=#[l,n]/\∃ k,#[O,p0,q',k]:=by
   rintro q ⟨k,hk⟩;refine⟨(cl q (inS q k hk)).1,fun r hr n hn=>?_⟩;obtain⟨q',h1,h2,_⟩:=(cl q (inS q k hk)).2 r hr n hn;exact⟨q',h1,h2,k+1,.snoc hk ⟨⟨r,hr,hn⟩,h2⟩⟩
  have lt0:∀ q,(∃ k,Walk rows gs p0 q k)->q=p0\/q<p0:=by
   rintro q ⟨k,hk⟩;cases hk with
   | nil=>exact .inl rfl
   | @snoc q1 _ k n h a =>
     obtain⟨r,h1,h2⟩:=a.1;obtain⟨q',h3,h4,_⟩:=(closed0 q1 ⟨k,h⟩).2 r h1 n h2;rw[<- FP.inj q' q n h4 a.2];exact .inr h3
  have along:∀ {q:Nat} {st':List (Nat×Option Int)} {w':Option Int},Ch (without rows x) (gs.set p .non) q st' e w'->(∃ k,Walk rows gs p0 q k)->∃ k,#[O,p0,e,k]:=fun {q st' w'} hc =>
   hc.along (R:=fun q=>∃ k,#[O,p0,q,k]) fun q n q' a ⟨k,hk⟩=>by
    obtain⟨r',h1,h2⟩:=a.1;obtain⟨r,h3,h4⟩:=S7 h1;exact⟨k+1,.snoc hk ⟨⟨r,h3,(h4 n h2).1⟩,(zek hx a.2).1⟩⟩
  by_cases hpath:∃ q∈st.map (·.1),∃ k,#[O,p0,q,k]
  ·obtain⟨q1,hq1,hk1⟩:=hpath;obtain⟨st',c1,_⟩:=C.ch.drop q1 hq1;have hRe:=along c1 hk1;cases hw:w with
   | some n0 =>
     obtain⟨⟨r',f1,f2⟩,f3⟩:=(C.free n0 hw).1;obtain⟨r,g1,g2⟩:=S7 f1;obtain⟨q',_,h2,_⟩:=(closed0 e hRe).2 r g1 n0 (g2 n0 f2).1;exact absurd (Lj hx h2 (g2 n0 f2).2) (f3 q')
   | none =>
     have clT:=closedT hw;obtain⟨_,cmax,_⟩:=C.none hw;have hep:e<p0:=by
      have hfe:∃ m,gs[e]?=#[b,V.int,m]:=by
       obtain⟨s,hs,hse⟩:=zya.mp C.ch.last;rcases C.ch.near s hs with z|⟨m,z⟩
       ·rw[<- hse,z];exact⟨x,hx⟩
       ·rw[hse] at z;exact⟨m,(zek hx z).1⟩
      obtain⟨m,hm⟩:=hfe;rcases lt0 e hRe with z|z
      ·rw[z,hpn] at hm;cases hm
      ·exact z
     refine⟨fun q=>(∃ k,Walk rows gs p0 q k)\/∃ k,Walk (without rows x) (gs.set p .non) p q k,.inl ⟨0,.nil⟩,fun q hq=>?_⟩;rcases hq with hq|hq
     ·refine⟨by rw[hRl];exact(closed0 q hq).1,fun r' hr' n hn=>?_⟩;obtain⟨r,g1,g2⟩:=S7 hr';obtain⟨q',h1,h2,h3⟩:=(closed0 q hq).2 r g1 n (g2 n hn).1;rcases moved (Lj hx h2 (g2 n hn).2) with ⟨_,m2⟩|⟨q0,m1,m2⟩
      ·exact⟨q',h1,m2,.inl h3⟩
      ·obtain⟨k0,hk0⟩:=C.ch.reach q0 (zya.mpr ⟨_,m1,rfl⟩);have:=cmax q0 k0 hk0;exact⟨q0,by omega,m2,.inr ⟨k0,hk0⟩⟩
     ·obtain⟨t1,t2⟩:=clT q hq;refine⟨t1,fun r hr n hn=>?_⟩;obtain⟨q2,h1,h2,h3⟩:=t2 r hr n hn;exact⟨q2,by omega,h2,.inr h3⟩
  ·refine⟨fun q=>∃ k,#[O,p0,q,k],⟨0,.nil⟩,fun q hq=>⟨by rw[hRl];exact(closed0 q hq).1,fun r' hr' n hn=>?_⟩⟩;obtain⟨r,g1,g2⟩:=S7 hr';obtain⟨q',h1,h2,h3⟩:=(closed0 q hq).2 r g1 n (g2 n hn).1;rcases moved (Lj hx h2 (g2 n hn).2) with ⟨_,m2⟩|⟨q0,m1,m2⟩
   ·exact⟨q',h1,m2,h3⟩
   ·rcases W5 nd (show q' < (gs.set p V.non).length from(zx3.mp (Lj hx h2 (g2 n hn).2)).1) with ⟨_,b2⟩|⟨w2,b1,_⟩
    ·exact⟨q',h1,by rw[b2];exact Lj hx h2 (g2 n hn).2,h3⟩
    ·exact absurd ⟨q',zya.mpr ⟨_,b1,rfl⟩,h3⟩ hpath
 ·rw[a2] at hpn;cases w' with
  | some n=>cases hpn
  | none =>
    obtain⟨b1,b2⟩:=C.ch.noneLast p0 a1;subst b1;exact⟨_,⟨0+(C.ch.reach p0 (zya.mpr ⟨_,a1,rfl⟩)).choose,by rw[Nat.zero_add];exact(C.ch.reach p0 (zya.mpr ⟨_,a1,rfl⟩)).choose_spec⟩,closedT b2⟩
end
end G
namespace L2
open PySem PySem.Spec PyProof.Rows
inductive zjw(x:V)(vs:#[a])(H:Hp)(Q:VK):Prop where
 | mk(d e:Addr)(kvs more:#[N])(_:x=.ref d)(_:vs=[.ref e])(_:d≠e)(_:H d=#[b,.dK,kvs])(_:H e=#[b,.dK,more])(_:kvs.length+more.length<=sizeLine)(_:Q .non (upd H d (.dK (Uo kvs more))))
theorem zf4:MtM X "dict.update" zjw:=by
 intro pins s σ H x vs v us Q I rx rv h;obtain⟨d,e,kvs,more,rfl,rfl,ne,hd,he,hz,q⟩:=h;cases rx;obtain⟨u,rfl,ru⟩:=rv.one;cases (show u=Value.ref e from ru);obtain⟨z1,lo1,vs1,r1,dd1⟩:=zam I.hok hd;obtain⟨z2,lo2,vs2,r2,dd2⟩:=zam I.hok he;refine call_meetsIn PySem.F.slot_dict_update dd1.typeIs PySem.F.entry_dict_update (PySem.F.args_dict_update_2 _ _) (meets_dict_update (Yo X.prog X.w) d e ne lo2) ⟨vs1,vs2,dd1,dd2,by rw[<- r1.length,<- r2.length];exact hz,fun h' dd1' dd2' hs=>?_⟩;have hex:∃ q,h'.get? d=some q:=let ⟨q,_,_,hq,_⟩:=dd1';⟨q,hq⟩;refine⟨.non,_,O8 (t':=s.toks) I (by rw[hd];exact True.intro) hs hex (G6 ?_ lo1 (r2.merge r1) dd1'),rfl,q⟩;exact zyg (Rg more kvs) hz
section
variable{prog:Program}{w:World}{A:Around}{E:Value->Shared->Prop}{s:Shared}{T:String}{r d:Addr}{n:Nat}{P:Nat->Value->Prop}{OK:Heap->Prop}
open PySem.W in
theorem zig(K:KdlSrc prog w T r d n P OK)(hh:A.handled=none)(hok:OK s.heap)(hn:n<=sizeLine)
  (h:∀ h' tk (acc:Array Value),(∀ b o,s.heap.get? b=some o->h'.get? b=some o)->s.heap.objs.size<=h'.objs.size->ItemsOf P acc n->Q acc.toList { s with heap:=h',toks:=tk }) :
  wpAny (model prog w) A (collect (.ref r)) Q E s:=by
 unfold collect;have hlt:=K.there _ hok;refine wpAny_bind (wpAny_runValue (codeAny_builtin entry_proto_collect' ?_));show wpAny _ _ (do again (.builtin "list.__iadd__" ⟨[<- newList [],.ref r],[]⟩)) _ _ s;refine wpAny_bind (wpAny_newList (wpAny_pure ⟨Code.quiet_builtin _ ⋯,codeAny_builtin entry_list_iadd' ?_⟩));show wpAny _ _ (Builtin.List.listExtendWith (.ref s.heap.objs.size) (.ref r) (.ref s.heap.objs.size)) _ _ { s with heap:=s.heap.push (seqObj "list" #[] 0) };have hS:(s.heap.push (seqObj "list" #[] 0)).get? s.heap.objs.size=some { cls:=.type "list",data:=.seq #[] 0 }:=Heap.get?_push_size _ rfl;rw[Around.under_plainId (show plainId "list.__iadd__"=true by decide +kernel) _];refine kdl_extend (R:=fun r s'=>match r with
   | .ok (.ret v)=>wpAny (model prog w) A (match v with
         | Value.ref a=>do
           let o <- load a
           match o.data with
            | Data.seq xs _=>pure xs.toList
            | _=>unsupported "internal:collect"
         | _=>unsupported "internal:collect") Q E s'
   | .ok _=>False
   | .error e=>E e s') (s:={ s with heap:=s.heap.push (seqObj "list" #[] 0) }) K hh (K.keep _ _ hok fun b _ o e=>#[W,_,e]) s.heap.objs.size (Nat.ne_of_gt hlt.1) (Nat.ne_of_gt hlt.2) _ 0 hS (fun h' tk acc c' hk hS' hacc=>?_) hn
 show wpAny (model prog w) A (do
   let o <- load s.heap.objs.size
   match o.data with
   | .seq xs _=>pure xs.toList
   | _=>unsupported "internal:collect") Q E _
 refine wpAny_bind (wpAny_load hS' ?_);exact wpAny_pure (h h' tk acc (fun b o e=>hk b o (zyu (Heap.lt_size e)) #[W,_,e]) (z0f (Heap.lt_size hS')) hacc)
theorem zel:∀ {its:List Value} {ns:List Int},its.length=ns.length->(∀ (j:Nat) (v:Value),its[j]?=some v->∃ t,v=.int (ns.getD j 0) t)->IntsAre its ns
 | [],[],_,_=>.nil
 | v :: its,n :: ns,hl,h=>by
   obtain⟨t,e⟩:=h 0 v rfl;rw[e];exact .cons _ t (zel (by simpa using hl) fun j u hu=>h (j+1) u hu)
 | [],_ :: _,hl,_=>by simp at hl
 | _ :: _,[],hl,_=>by simp at hl
theorem Qo(hc:X.calm=true):V2 X (.builtin "sorted") (fun xs H Q=>∃ (a:Addr) (kvs:List (Key×V)) (ns:List Int),xs=[.ref a]/\Rd H a (.dK kvs)/\kvs.map (·.1)=ns.map (inl:Int->Key)/\ns.length<64/\∀ (l:Addr) (ns':List Int),H l=none->ns'.Perm ns->ns'.Pairwise (·<=·)->Q (.ref l) (upd H l (.lst (ns'.map V.int)))):=by
 intro pins s σ H xs us Q I r h;obtain⟨a,kvs,ns,rfl,ha,hns,h64,q⟩:=h;obtain⟨u,rfl,ru⟩:=Pc r;cases (show u=Value.ref a from ru);obtain⟨hz,lo,vs,kv,o,es,ep,e1,e2⟩:=Pd I.hok ha;have hl:kvs.length=vs.length:=KV.length kv;have hnl:ns.length=kvs.length:=by have:=congrArg List.length hns;rw[zx1,zx1] at this;exact this.symm
 refine Calls.call_function_entry kind_sorted plain_sorted entry_sorted (args_sorted1 _) ?_;unfold Builtin.«sorted»;refine wpAny_bind (m:=checkCount "sorted" 1 1 _) (wpAny_pure ?_);refine wpAny_bind (zig (PySem.W.kdl_dict (knd:=Yo X.prog X.w) (kvs:=vs) (ep:=ep) lo) (I.ok.hd hc) ⟨o,es,e1,e2⟩ (by rw[<- hl];exact hz) fun h' tk acc hk hsz hacc=>?_);have hI:IntsAre acc.toList ns:=by
  refine zel (by have:=hacc.1;simp only[Array.length_toList];omega) fun j v hv=>?_;obtain⟨k,y,hk1,hk2⟩:=hacc.2 j v (by rw[<- Array.getElem?_toList];exact hv);have ek:=congrArg (·[j]?) (KV.keys kv);have en:=congrArg (·[j]?) hns;simp only[zx5,hk1,zy8] at ek en;cases hkv:kvs[j]? with
  | none=>rw[hkv] at ek;cases ek
  | some p =>
    rw[hkv] at ek en;cases hn:ns[j]? with
    | none=>rw[hn] at en;cases en
    | some m =>
      rw[hn] at en;have e3:p.1=k:=Option.some.inj ek;have e4:p.1=inl m:=Option.some.inj en;rw[<- e3,e4] at hk2;rw[zyt,hn];rcases Yv (show G1 (inl m:Key) v=true from hk2) with ⟨i,t,e5,e6⟩|⟨z,t,e5,_⟩
      ·cases e5;exact⟨t,e6⟩
      ·cases e5
 refine wpAny_bind (wpAny_newList ?_);have hoL:(h'.push (seqObj "list" acc.toList.toArray 0)).get? h'.objs.size=some (seqObj "list" acc.toList.toArray 0):=Heap.get?_push_size _ rfl;show wpAny _ _ _ _ _ { s with heap:=h'.push (seqObj "list" acc.toList.toArray 0),toks:=tk };refine wpAny_bind (wpAny_holding (wpAny_call_entry slot_list_sort ⟨_,hoL,rfl⟩ entry_list_sort (list_sort_tree hoL hI (by simp only[Array.length_toList];have:=hacc.1;omega) fun out ns' a1 a2 a3=>#[q,_,?_]) (args_list_sort _)));have hge:s.heap.objs.size<=h'.objs.size:=hsz;have hf:H h'.objs.size=none:=I.hok.fresh hge;refine wpAny_pure ⟨_,rfl,.ref h'.objs.size,upd H h'.objs.size (.lst (ns'.map V.int)),I.laid (t':=tk) (fun b u eb=>?_) hge ?_,rfl,q _ ns' hf a2 a3⟩
 ·have e0:=hk b u eb;have hb:b<(h'.push (seqObj "list" acc.toList.toArray 0)).objs.size:=Heap.lt_size (Heap.get?_push_of_some _ e0);rw[sortedHeap_old (zyu (Heap.lt_size e0)) hb];exact #[W,_,e0]
 ·obtain⟨e9,h9⟩:=sortedHeap_at (out:=out) hoL;exact⟨by rw[zx1,a2.length_eq];exact z0f (Up ⋯),out.toList,e9,Ku a1,h9⟩
end
end L2
namespace G
open PySem PySem.Spec PyProof.Rows L2
section
variable{α:Type}[DecidableEq α]{f:α->Key}
def Ff(acc:List α)(x:α):List α:=if x∈acc then acc else acc++[x]
def Bd(pl ml:List α):List α:=ml.foldl Ff pl
theorem Fg(hf:∀ a b,f a=f b->a=b)(h:kvs.map (·.1)=pl.map f)(x:α)(v:V):(putK kvs (f x) v).map (·.1)=(Ff pl x).map f:=by
 have ha:(kvs.any fun kv=>#[i,kv.1=f x])=true↔x∈pl:=by
  rw[List.any_eq_true];constructor
  ·rintro⟨kv,h1,h2⟩;have:kv.1∈kvs.map (·.1):=zya.mpr ⟨_,h1,rfl⟩;rw[h] at this;obtain⟨y,h3,h4⟩:=zya.mp this;rw[<- hf _ _ (h4.trans (of_decide_eq_true h2))];exact h3
  ·intro hx;have:f x∈kvs.map (·.1):=by rw[h];exact zya.mpr ⟨_,hx,rfl⟩
   obtain⟨kv,h1,h2⟩:=zya.mp this;exact⟨kv,h1,zx9 h2⟩
 unfold putK Ff;by_cases hx:x∈pl
 ·rw[if_pos (ha.mpr hx),if_pos hx,<- h,zzi];refine zzo fun kv _=>?_;show (if kv.1=f x then (kv.1,v) else kv).1=kv.1;split<;>rfl
 ·rw[if_neg fun z=>hx (ha.mp z),if_neg hx,zx7,zx7,h];rfl
theorem Fh(hf:∀ a b,f a=f b->a=b):∀ {more kvs:List (Key×V)} {pl ml:List α},kvs.map (·.1)=pl.map f->more.map (·.1)=ml.map f->(Uo kvs more).map (·.1)=(Bd pl ml).map f
 | [],kvs,pl,[],h,_=>h
 | p :: more,kvs,pl,x :: ml,h,h2=>by
   rw[zyf,zyf] at h2;injection h2 with e1 e2;have:=Fg hf h x p.2;rw[<- e1] at this;exact Fh hf (kvs:=putK kvs p.1 p.2) (pl:=Ff pl x) (ml:=ml) this e2
 | [],_,_,_ :: _,_,h2=>by simp at h2
 | _ :: _,_,_,[],_,h2=>by simp at h2
theorem Fi{pl:List α}{x y:α}:y∈Ff pl x↔y∈pl\/y=x:=by
 unfold Ff;by_cases h:x∈pl
 ·rw[if_pos h];exact⟨.inl,fun z=>z.elim id fun e=>by rw[e];exact h⟩
 ·rw[if_neg h];simp
theorem N8{pl:List α}{x:α}(h:pl.Nodup):(Ff pl x).Nodup:=by
 unfold Ff;by_cases hx:x∈pl
 ·rw[if_pos hx];exact h
 ·rw[if_neg hx,List.nodup_append];exact⟨h,by simp,fun a ha b hb e=>hx (by rw[zx6.mp hb] at e;rw[<- e];exact ha)⟩
theorem Be:∀ {ml pl:List α} {y:α},y∈Bd pl ml↔y∈pl\/y∈ml
 | [],pl,y=>by unfold Bd;simp
 | x :: ml,pl,y=>by
   show y∈Bd (Ff pl x) ml↔_;rw[Be,Fi,zx8,or_assoc]
theorem J9:∀ {ml pl:List α},pl.Nodup->(Bd pl ml).Nodup
 | [],pl,h=>h
 | x :: ml,pl,h=>J9 (ml:=ml) (N8 h)
end
theorem znm:∀ a b:Int,(inl a:Key)=inl b->a=b:=fun a b h=>inl.inj h
theorem zn9:∀ a b:Nat,(inl (a:Int):Key)=inl (b:Int)->a=b:=fun a b h=>by have:=inl.inj h;omega
theorem Fj{α:Type}[DecidableEq α]{a b:List α}(ha:a.Nodup)(hb:b.Nodup)(h:∀ x,x∈a↔x∈b):a.length=b.length :=
 Nat.le_antisymm (ha.length_le_of_subset fun x hx=>(h x).mp hx) (hb.length_le_of_subset fun x hx=>(h x).mpr hx)
section
variable{rows:#[A]}{gs:#[a]}
def za3(rows:#[A])(gs:#[a]):Prop:=∀ p,gs[p]?=some .non->∀ q k,#[O,p,q,k]->¬ U3 rows gs q
structure Fl(rows:#[A])(gs:#[a])(ps:List Nat)(rs:#[o]):Prop where
 up:ps.Pairwise (· < ·)
 lt:∀ p∈ps,p<rows.length
 rup:rs.Pairwise (· < ·)
 all:∀ n,n∈rs↔∃ p∈ps,∃ r,rows[p]?=some r/\n∈r
 cnt:ps.length=rs.length+(Xz gs).length
 nil:Xz gs=[]->ps=[]
 gap:∀ p,gs[p]?=some .non->p∈ps
 has:∀ n∈rs,∃ p∈ps,gs[p]?=#[l,n]
theorem T3:p∈Xz gs↔gs[p]?=some .non:=by
 unfold Xz;rw[zy5,zza];constructor
 ·exact fun h=>of_decide_eq_true h.2
 ·exact fun h=>⟨(zx3.mp h).1,zx9 h⟩
theorem zc5:(Xz gs).Nodup:=List.nodup_range.filter _
def za4(x:Option V):#[C]:=match x with|some (.int n)=>some n|_=>none
theorem Qp:za4 x=some n↔x=#[l,n]:=by
 unfold za4;constructor
 ·intro h;split at h
  ·cases h;rfl
  ·cases h
 ·intro h;rw[h]
theorem zkm:∀ {ps:List Nat},(∀ p∈ps,∃ x,gs[p]?=some x/\oneV x)->ps.length=(ps.filterMap fun p=>za4 gs[p]?).length+(ps.filter fun p=>decide (gs[p]?=some .non)).length
 | [],_=>rfl
 | p :: ps,h=>by
   have ih:=zkm (ps:=ps) fun q hq=>h q (zym _ hq);obtain⟨x,hx,ho⟩:=h p zyy;rcases ho with rfl|⟨n,rfl⟩
   ·rw[List.filterMap_cons_none (by rw[hx];rfl),zzl (by rw[hx];simp),zyk,zyk,ih];omega
   ·rw[List.filterMap_cons_some (b:=n) (by rw[hx];rfl),zzm (by rw[hx];simp),zyk,zyk,ih];omega
theorem U9(FP:Yr rows gs):∀ {ps:List Nat},ps.Nodup->(ps.filterMap fun p=>za4 gs[p]?).Nodup
 | [],_=>zzw
 | p :: ps,h=>by
   rw[zys] at h;rw[zzz];split
   ·exact U9 FP h.2
   ·rename_i n hn;rw[zys];refine⟨fun hm=>?_,U9 FP h.2⟩;obtain⟨q,hq,e⟩:=zzv.mp hm;have:=FP.inj p q n (Qp.mp hn) (Qp.mp e);rw[this] at h;exact h.1 hq
theorem zih(FP:Yr rows gs)(NA:za3 rows gs){pl:List Nat}{rl:#[o]}(hpn:pl.Nodup)(hpm:∀ q,q∈pl↔∃ g k,gs[g]?=some .non/\#[O,g,q,k])(hrn:rl.Nodup)(hrm:∀ n,n∈rl↔∃ p∈pl,∃ r,rows[p]?=some r/\n∈r)
  {pi rs:#[o]} (h1:pi.Perm (pl.map fun q:Nat=>(q:Int))) (h2:pi.Pairwise (·<=·)) (h3:rs.Perm rl) (h4:rs.Pairwise (·<=·)):∃ ps:List Nat,pi=ps.map (fun q:Nat=>(q:Int))/\Fl rows gs ps rs:=by
 have hlt:∀ q∈pl,q<rows.length:=fun q hq=>by
  obtain⟨g,k,hg,hw⟩:=(hpm q).mp hq;cases hw with
  | nil=>rw[<- FP.len];exact(zx3.mp hg).1
  | snoc _ a=>rw[<- FP.len];exact(zx3.mp a.2).1
 have hpi:∀ x∈pi,0<=x:=fun x hx=>by
  obtain⟨q,_,e⟩:=zya.mp (h1.mem_iff.mp hx);rw[<- e];omega
 have epi:pi=(pi.map Int.toNat).map (fun q:Nat=>(q:Int)):=by
  rw[zzi]
  conv=>lhs;rw[<- List.map_id pi]
  refine zzo fun x hx=>?_;show x=((x.toNat:Nat):Int);rw[zz0 (hpi x hx)]
 have hpp:(pi.map Int.toNat).Perm pl:=by
  have:=h1.map Int.toNat;rw[zzi] at this;have e:pl.map (Int.toNat∘fun q:Nat=>(q:Int))=pl:=by
   conv=>rhs;rw[<- List.map_id pl]
   exact zzo fun q _=>zyh q
  rw[e] at this;exact this
 have nps:(pi.map Int.toNat).Nodup:=hpp.nodup_iff.mpr hpn;have strictly:∀ {l:List Int},l.Pairwise (·<=·)->l.Nodup->l.Pairwise (· < ·):=fun {l} a b=>(List.Pairwise.and a b).imp fun ⟨x,y⟩=>by omega
 generalize hps:pi.map Int.toNat=ps at epi hpp nps;have npi:pi.Nodup:=h1.nodup_iff.mpr (List.pairwise_map.mpr (hpn.imp fun h z=>h ⋯));have mem:∀ q,q∈ps↔q∈pl:=fun q=>hpp.mem_iff;have rmem:∀ n,n∈rs↔n∈rl:=fun n=>h3.mem_iff;have nrs:rs.Nodup:=h3.nodup_iff.mpr hrn;have gap:∀ p,gs[p]?=some .non->p∈ps:=fun p hp=>(mem p).mpr ((hpm p).mpr ⟨p,0,hp,.nil⟩);have all:∀ n,n∈rs↔∃ p∈ps,∃ r,rows[p]?=some r/\n∈r:=fun n=>by
  rw[rmem,hrm];exact⟨fun ⟨p,a,b⟩=>⟨p,(mem p).mpr a,b⟩,fun ⟨p,a,b⟩=>⟨p,(mem p).mp a,b⟩⟩
 have has:∀ n∈rs,∃ p∈ps,gs[p]?=#[l,n]:=fun n hn=>by
  obtain⟨p,hp,r,h5,h6⟩:=(all n).mp hn;obtain⟨g,k,hg,hw⟩:=(hpm p).mp ((mem p).mp hp);by_cases hx:∃ j:Nat,gs[j]?=some (V.int n)
  ·obtain⟨j,hj⟩:=hx;exact⟨j,(mem j).mpr ((hpm j).mpr ⟨g,k+1,hg,.snoc hw ⟨⟨r,h5,h6⟩,hj⟩⟩),hj⟩
  ·exact absurd ⟨n,⟨r,h5,h6⟩,fun j hj=>hx ⟨j,hj⟩⟩ (NA g hg p k hw)
 refine⟨ps,epi,?_,fun p hp=>hlt p ((mem p).mp hp),strictly h4 nrs,all,?_,fun hz=>?_,gap,has⟩
 ·have:=strictly h2 npi;rw[epi,List.pairwise_map] at this;exact this.imp fun h=>by omega
 ·have hone:∀ p∈ps,∃ x,gs[p]?=some x/\oneV x:=fun p hp=>by
   have hl:p<gs.length:=by rw[FP.len];exact hlt p ((mem p).mp hp)
   exact⟨_,zx2 hl,FP.one _ (zyx hl)⟩
  rw[zkm hone]
  congr 1
  ·refine Fj (U9 FP nps) nrs fun n=>?_;rw[zzv];constructor
   ·rintro⟨p,hp,e⟩;have e:=Qp.mp e;obtain⟨r,h5,h6⟩:=FP.may p n e;exact(all n).mpr ⟨p,hp,r,h5,h6⟩
   ·intro hn;obtain⟨p,hp,e⟩:=has n hn;exact⟨p,hp,Qp.mpr e⟩
  ·refine Fj (nps.filter _) zc5 fun p=>?_;rw[zy5,T3];exact⟨fun h=>of_decide_eq_true h.2,fun h=>⟨gap p h,zx9 h⟩⟩
 ·cases hc:ps with
  | nil=>rfl
  | cons p r =>
    have hp:p∈ps:=by rw[hc];simp
    obtain⟨g,_,hg,_⟩:=(hpm p).mp ((mem p).mp hp);have:=T3.mpr hg;rw[hz] at this;cases this
end
inductive zem(K:Frag)(vs:#[a])(H:Hp)(Q:VK)(_:XK):Prop where
 | mk(l lg:Addr)(ls:#[t])(rows:#[A])(nu:#[o])(gs:#[a])(_:vs=[.ref l,.ref lg])(_:#[ad,l])(_:ILs H ls rows)(_:Ph rows nu)(_:#[w,H,lg,gs])(_:Yr rows gs)(_:za3 rows gs)(_:∀ t lp lr ps rs H',H' t=#[z,[.ref lp,.ref lr]]->H' lp=#[R,Vg,ps]->H' lr=#[R,rs.map,V.int]->Fl rows gs ps rs->#[p]->H t=none->H lp=none->H lr=none->lp≠lr->#[I,t])
section
variable{rows:#[A]}{gs:#[a]}{p:Nat}{line:List Nat}{dep:Nat->Nat}{fr:Nat->Option (Nat×Int)}
def byV(x:Option (Nat×Int)):V:=match x with|none=>.non|some y=>.int (y.1:Nat)
structure zon(by_:#[N])(line:List Nat)(fr:Nat->Option (Nat×Int)):Prop where
 keys:by_.map (·.1)=line.map fun q:Nat=>(inl (q:Int):Key)
 val:∀ q∈line,valV by_ (inl (q:Int):Key)=some (byV (fr q))
structure zoo(rows:#[A])(gs:#[a])(dep:Nat->Nat)(q:Nat)(x:Int)(tl:#[H])(e:Nat)(n:Int):Prop where
 ch:Ch rows gs q ((q,some x) :: tl) e (some n)
 nd:(((q,some x) :: tl).map (·.1)).Nodup
 far:∀ s∈tl,dep q<dep s.1
end
inductive Bf(K:Frag)(vs:#[a])(H:Hp)(Q:VK)(_:XK):Prop where
 | mk(t l lp lr:Addr)(ls:#[t])(rows:#[A])(nu:#[o])(gs:#[a])(ps:List Nat)(rs:#[o])(_:vs=[.ref t,.ref l,.int ((Xz gs).length:Nat)])(_:H t=#[b,.tup,[.ref lp,.ref lr]])(_:#[ad,l])(_:ILs H ls rows)(_:Ph rows nu)(_:H lp=some (.lst (Vg ps)))(_:H lr=some (.lst (rs.map V.int)))(_:Fl rows gs ps rs)(_:∀ H',Same H H'->Q (.bl true) H')
section
variable{rows:#[A]}{gs:#[a]}
def zl3(rows:#[A])(gs:#[a])(p:Nat):Prop:=∀ q k,#[O,p,q,k]->¬ U3 rows gs q
structure znn(rows:#[A])(f k:Nat)(gs:#[a]):Prop where
 fill:Yr rows gs
 seen:∀ j,j<k->(∃ n,gs[(f+j)%rows.length]?=some (.int n))\/zl3 rows gs ((f+j)%rows.length)
 later:∀ p,(∀ j,j<k->(f+j)%rows.length≠p)->p<rows.length->gs[p]?=some .non
theorem za5{a b c:#[o]}(h1:a.Perm b)(h2:a.Pairwise (·<=·))(hb:b.Nodup)(hc:c.Pairwise (· < ·))(h:∀ n,n∈b↔n∈c):a=c:=by
 have nc:c.Nodup:=hc.imp fun h z=>by omega
 have p:b.Perm c:=(List.perm_ext_iff_of_nodup hb nc).mpr h;exact(h1.trans p).eq_of_pairwise (le:=fun a b=>a<=b) (fun a b _ _ x y=>by omega) h2 (hc.imp fun h=>by omega)
end
end G
namespace PySem
theorem Bg(f:α->β):∀ (l:List α) (j:Nat),(l.map f).eraseIdx j=(l.eraseIdx j).map f
 | [],_=>rfl
 | _ :: _,0=>rfl
 | x :: l,j+1=>by
   show f x :: (l.map f).eraseIdx j=f x :: (l.eraseIdx j).map f;rw[Bg f l j]
section
variable{prog:Program}{w:World}{K:Type}[DecidableEq K]{knd:HeapKind prog w K}{A:Around}{E:Value->Shared->Prop}{s:Shared}
theorem N9(hu:knd.room A)(hkey:knd.is s.heap k a)(hm:s.heap.DictOfH knd d xs)(hj:xs[j]?=some (k,p))(hsz:xs.length<=sizeLine)
  (hQ:∀ h',h'.DictOfH knd d (xs.eraseIdx j)->Heap.SameBut d s.heap h'->Q (some (entryOfKey knd (k,p))) { s with heap:=h',toks:=s.toks+knd.draws k }) :
  wpAny (model prog w) A (Builtin.Dict.takeOut d (.ref a)) Q E s:=by
 obtain⟨o,es,ep,ho,hc,hd,he,his,hn⟩:=hm;unfold Builtin.Dict.takeOut
 try with_reducible refine wpAny_holding ?_
 refine wpAny_bind (knd.pyHash hu hkey (wpAny_bind (wpAny_dictFind_heap (s:={ s with toks:=s.toks+knd.draws k }) hu hkey ho hd he his hn ?_ ?_)))
 ·intro hno;exact absurd hj (hno j p)
 ·intro j' p' hj';have ej:=idxH_unique hn hj' hj;subst ej;refine wpAny_bind (wpAny_dictEntries (s:={ s with toks:=s.toks+knd.draws k }) ho hd ?_);rw[entry_at he j',hj];refine wpAny_bind (wpAny_updateDictKeys (hz:=by have e:=size_of_entries he;omega) (s:={ s with toks:=s.toks+knd.draws k }) ho hd (wpAny_pure (hQ _ ⟨_,_,ep+1,Heap.get?_update_self _ ho (Obj.isFreed_of_dict (Obj.data_mapDictKeys hd _)),
   hc.mapDictKeys _,Obj.data_mapDictKeys hd _,?_,?_,?_⟩ (Heap.SameBut.update ..))))
  ·obtain⟨l⟩:=es;simp only at he;simp[he,Bg]
  ·intro x hx;exact knd.keeps (his x (List.mem_of_mem_eraseIdx hx)) ho hd (Heap.SameBut.update ..)
  ·have:=hn.sublist (List.Sublist.map (·.1) (List.eraseIdx_sublist xs j'));exact this
theorem Iw(d a:Addr)(k:K) :
  MeetsIn prog w (Builtin.«dict.pop» ⟨[.ref d,.ref a],[]⟩) (fun A R s=>knd.room A.in1/\knd.is s.heap k a/\∃ xs j p,s.heap.DictOfH knd d xs/\xs.length<=sizeLine/\xs[j]?=some (k,p) /\
   ∀ h' t',h'.DictOfH knd d (xs.eraseIdx j)->Heap.SameBut d s.heap h'->R (.ok (.ret p.2)) { s with heap:=h',toks:=t' }) :=
 .of_wp fun A R s ⟨hu,hkey,xs,j,p,hm,hsz,hj,h⟩=>by
  obtain⟨o,es,ep,ho,hc,hd,he,his,hn⟩:=id hm;unfold Builtin.«dict.pop»;refine wpAny_bind ?_;unfold Builtin.Dict.keyAndDefault;refine wpAny_bind (wpAny_notOrdered_dict hm.typeIs ?_);show wpAny _ _ (pure (d,Value.ref a,none)) _ _ s;refine wpAny_pure ?_;have hp:(keyPart (Value.ref a)).isSome=false:=rfl;simp only[hp,zzj,if_false];refine wpAny_bind (wpAny_dictEntries ho hd (wpAny_bind (wpAny_pure ?_)));have hne:es.isEmpty=false:=by
   have h1:=size_of_entries he;have h2:=(zx3.mp hj).1;rw[Array.isEmpty_eq_false_iff_exists_mem];exact⟨es[0]'⋯,Array.getElem_mem _⟩
  simp only[hne,zzj,if_false];refine wpAny_bind (N9 hu hkey hm hj hsz fun h' hm' hs'=>?_);simp only[Option.isNone_some,zzj,if_false];exact wpAny_bind (wpAny_letGo (wpAny_pure #[q,p.2,h h' _ hm' hs']))
end
end PySem
namespace L2
open PySem PySem.Spec PyProof.Rows
theorem KT.drop:∀ {kvs:List (List Key×V)} {xs:List (List Key×Addr×Value)},KT H kvs xs->(xs.map (·.1)).Nodup->valV kvs k=some v->∃ j p,xs[j]?=some (k,p)/\RelV v p.2/\KT H (Wi kvs k) (xs.eraseIdx j):=fun {kvs xs} r=>by
 induction r with
 | nil=>intro _ hv;cases hv
 | @cons p q kvs xs h t ih=>
     intro nd hv
     rw[zyf,zys] at nd;obtain⟨h1,h2,h3⟩:=h;by_cases e:p.1=k
     ·rw[Xs e] at hv;cases hv;refine⟨0,q.2,by rw[<- e,h1];rfl,h3,?_⟩;show KT H (Wi (p :: kvs) k) xs;have hd:Wi (p :: kvs) k=kvs:=by
       unfold Wi;rw[zzm (by simp[e])];rw[List.filter_eq_self];intro kv hkv;refine zx9 fun z=>nd.1 ?_;have:∀ {l:List (List Key×V)} {m:List (List Key×Addr×Value)},KT H l m->kv∈l->kv.1∈m.map (·.1):=by
        intro l m q
        induction q with
        | nil=>intro hx;cases hx
        | @cons p' q' ps qs hq t ih =>
          intro hx;rcases zx8.mp hx with z|z
          ·rw[z,hq.1];exact zyy
          ·exact zym _ (ih z)
       have h9:=this t hkv;rw[z,<- e,h1] at h9;exact h9
      rw[hd];exact t
     ·rw[Xi e] at hv;obtain⟨j,pp,h4,h5,h6⟩:=ih nd.2 hv;refine⟨j+1,pp,h4,h5,?_⟩;have hd:Wi (p :: kvs) k=p :: Wi kvs k:=by
       unfold Wi;rw[zzl (by simp[e])]
      rw[hd];exact .cons ⟨h1,h2,h3⟩ h6
inductive zjx(ty:TE)(σ:L2.St)(Q:VK)(x:V)(H1:Hp):Prop where
 | mk(a)(_:x=.ref a)(_:IsD H1 a)(_:ty σ H1 fun y H2=>∃ (kvs:List (List Key×V)) (k:List Key) (b:Addr) (v:V),H2 a=#[b,.dT,kvs]/\y=.ref b/\H2 b=some (.tup (k.map kV))/\valV kvs k=some v/\Q v (upd H2 a (.dT (Wi kvs k))))
def zl4(td ty:TE):TE:=fun σ H Q=>td σ H fun x H1=>zjx ty σ Q x H1
theorem zii(hu:X.A.units+1<cLine)(ho:PE X o td)(he:PE X e ty)(m:M1 X o "pop" apos e cpos):PE X (.Call (.Attribute o "pop" apos) [e] [] cpos) (zl4 td ty):=by
 intro pins s σ H Q I h;refine wpAny_Call_method m.base m.few m.line PySem.F.plainAttrs_dict PySem.F.slot_dict_pop PySem.F.type_dict_pop (thn (ho pins s σ H _ I h) fun u s1 ⟨x,H1,I1,rx,a,ex,d,q1⟩=>?_);subst ex;obtain rfl:u=Value.ref a:=rx;obtain⟨t1,t2,_⟩:=zco I1 d;refine⟨t1,t2,?_⟩;rw[m.trees];refine Calls.callWith_builtin rfl (Calls.evalArgs_plain (Calls.spliced_cons (thn (he pins s1 σ H1 _ I1 q1) fun iv s2 ⟨y,H2,I2,ry,kvs,k,b,v,ea,ey,eb,l,q2⟩=>Calls.spliced_nil ?_)));subst ey;cases (show iv=Value.ref b from ry);obtain⟨z,hd,xs,rel,dd⟩:=zkg I2.hok ea;have hz:xs.length<=sizeLine:=by rw[<- Paired.length rel];exact z
 obtain⟨j,p,hj,rv,rel'⟩:=KT.drop rel (by obtain⟨_,_,_,_,_,_,_,_,hn⟩:=dd;exact hn) l;refine call_meetsIn PySem.F.slot_dict_pop dd.typeIs PySem.F.entry_dict_pop (PySem.F.args_dict_pop_2 _ _) (Iw (knd:=tupleKind (Yo X.prog X.w)) a b k) ⟨tupleKind_room_in1 hu,N2 I2.hok eb,xs,j,p,dd,hz,hj,fun h' t' dd' hs=>⟨v,_,?_,rv,q2⟩⟩;obtain⟨q,es,ep,hq,h2,h3,h4,_,h5⟩:=dd';refine O8 I2 (by rw[ea];exact True.intro) hs ⟨q,hq⟩ ⟨zyg (zal kvs k) z,hd,_,rel'.keeps fun c ys ec=>?_,q,es,ep,hq,h2,h3,h4,h5⟩;rw[Zj (Y2 ec ea (fun z=>nomatch z))];exact ec
end L2
namespace G
open PySem PySem.Spec PyProof.Rows L2
structure CA where
 season:Addr
 sheet:Addr
 roster:Addr
 ledger:Addr
 out:Addr
 known:Addr
 many:Addr
 unk:Addr
 manyM:Addr
 same:Addr
 noMatch:Addr
 noRound:Addr
 over:Addr
 seaOver:Addr
 away:Addr
 drawn:Addr
 notDrawn:Addr
 nothing:Addr
 manyD:Addr
theorem T4:1000000<sizeLine:=by rw[sizeLine_eq];decide
abbrev RL:=List (Int×Int×Int)
inductive Vq(H:Hp):RL->#[N]->Prop where
 | nil:Vq H [] []
 | cons {n g c:Int} {t:Addr} {R:RL} {kvs:#[N]} (h:H t=#[b,.tup,[.int g,.int c]]) (r:Vq H R kvs):Vq H ((n,g,c) :: R) ((.inl n,.ref t) :: kvs)
theorem Vq.mono(k:#[Z]):∀ {R:RL} {kvs:List (Key×V)},Vq H R kvs->Vq H' R kvs
 | _,_,.nil=>.nil
 | _,_,.cons h r=>.cons (k _ _ h) (Vq.mono k r)
theorem Vq.length:∀ {R:RL} {kvs:List (Key×V)},Vq H R kvs->kvs.length=R.length
 | _,_,.nil=>rfl
 | _,_,.cons _ r=>by simp[Vq.length r]
theorem Vq.keys:∀ {R:RL} {kvs:List (Key×V)},Vq H R kvs->(kvs.map fun kv=>kV kv.1)=R.map fun x=>V.int x.1
 | _,_,.nil=>rfl
 | _,_,.cons _ r=>by rw[zyf,zyf,Vq.keys r];rfl
theorem Vq.snoc(h:H t=#[b,.tup,[.int g,.int c]]):∀ {R:RL} {kvs:List (Key×V)},Vq H R kvs->Vq H (R++[(n,g,c)]) (kvs++[(.inl n,.ref t)])
 | _,_,.nil=>.cons h .nil
 | _,_,.cons h' r=>.cons h' (Vq.snoc h r)
theorem Vq.val_none:∀ {R:RL} {kvs:List (Key×V)},Vq H R kvs->n∉R.map (·.1)->valV kvs (inl n:Key)=none
 | _,_,.nil,_=>rfl
 | _,_,.cons (n:=m) _ r,h=>by
   rw[zyf,zx8,not_or] at h;rw[Xi fun e=>h.1 (inl.inj e).symm];exact Vq.val_none r h.2
theorem Vq.val_some:∀ {R:RL} {kvs:List (Key×V)},Vq H R kvs->(R.map (·.1)).Nodup->(n,g,c)∈R->∃ t,valV kvs (inl n:Key)=#[d,t]/\H t=#[z,[.int g,.int c]]
 | _,_,.nil,_,h=>by simp at h
 | _,_,.cons (n:=m) (g:=g') (c:=c') (t:=t) ht r,nd,h=>by
   rw[zyf,zys] at nd;by_cases e:m=n
   ·subst e;rcases zx8.mp h with q|q
    ·cases q;exact⟨t,Xs rfl,ht⟩
    ·exact absurd (zya.mpr ⟨_,q,rfl⟩) nd.1
   ·rcases zx8.mp h with q|q
    ·cases q;exact absurd rfl e
    ·obtain⟨t',h1,h2⟩:=Vq.val_some r nd.2 q;exact⟨t',by rw[Xi fun z=>e (inl.inj z)];exact h1,h2⟩
theorem Vq.isSome(e:Vq H R kvs)(nd:(R.map (·.1)).Nodup):(valV kvs (inl n:Key)).isSome=#[i,n∈R.map (·.1)]:=by
 by_cases h:n∈R.map (·.1)
 ·obtain⟨⟨m,g,c⟩,q,rfl⟩:=zya.mp h;obtain⟨t,h1,_⟩:=e.val_some nd q;rw[h1,zx9 h];rfl
 ·rw[e.val_none h,zye h];rfl
theorem Vq.unsnoc:∀ {R:RL} {kvs:List (Key×V)},Vq H (R++[(n,g,c)]) kvs->n∉R.map (·.1)->Vq H R (Wi kvs (inl n)):=fun {R}=>by
 induction R with
 | nil=>
  intro kvs q _;have q:Vq H [(n,g,c)] kvs:=q;cases q with
  | cons h r=>
   cases r;unfold Wi;rw[zzm (by simp)];exact .nil
 | cons p R ih=>
  obtain⟨m,g',c'⟩:=p;intro kvs q hn;have q:Vq H ((m,g',c') :: (R++[(n,g,c)])) kvs:=q;cases q with
  | cons h r=>
    rw[zyf,zx8,not_or] at hn;unfold Wi;rw[zzl (by
     refine zx9 fun z=>hn.1 ?_;exact(inl.inj z).symm)]
    exact .cons h (ih r hn.2)
structure Xe(C:Addr)(H:Hp)(p d:Addr)(R:RL):Prop where
 ex:∃ dx kvs,H p=some (.ins C dx [("entries",.ref d)])/\H d=#[b,.dK,kvs]/\Vq H R kvs
 nd:(R.map (·.1)).Nodup
theorem Vr:List.lookup ("entries":Str) ([("entries",V.ref d)]:List (Str×V))=#[b,.ref,d]:=by simp only[zy2,beq_self_eq_true]
theorem Xe.no{d:Addr}{m:Str}(h:¬ m="entries"):List.lookup m ([("entries",V.ref d)]:List (Str×V))=none:=by
 have e:(m == "entries")=false:=zyr.mpr h;simp only[zy2,e,List.lookup_nil]
theorem Xe.keep(h:Xe C H p d R)(kp:∀ o,H p=#[c]->H' p=#[c])(kd:∀ o,H d=#[c]->H' d=#[c])(kt:#[Z]):Xe C H' p d R:=by
 obtain⟨⟨dx,kvs,h1,h2,h3⟩,nd⟩:=h;exact⟨⟨dx,kvs,kp _ h1,kd _ h2,h3.mono kt⟩,nd⟩
theorem Xe.same(h:Xe C H p d R)(e:#[p]):Xe C H' p d R:=h.keep (fun _ q=>e _ _ q) (fun _ q=>e _ _ q) fun _ _ q=>e _ _ q
def badI(n g c:Int):Prop:=n<1\/999<n\/g<1\/9<g\/c<1\/99<c
instance {n g c:Int}:Decidable (badI n g c):=by unfold badI;infer_instance
def Ag(n g c:Int):Prop:=Yf n/\Yf g/\Yf c
inductive Ll(x:Addr)(vs:#[a])(H:Hp)(Q:VK)(E:XK):Prop where
 | mk(v)(lo)(m)(_:vs=[.int v,.int lo,.int m])(_:Yf v)(_:Yf lo)(_:Yf m)(_:(if v<lo\/m<v then #[D,x] else Q .non H))
inductive zen(ca:CA)(vs:#[a])(H:Hp)(Q:VK)(_:XK):Prop where
 | mk(p)(dx)(_:vs=[.ref p])(_:H p=some (.ins ca.roster dx []))(_:∀ d,H d=none->Q .non (upd (upd H d (.dK [])) p (.ins ca.roster dx [("entries",.ref d)])))
inductive Ma(ca:CA)(vs:#[a])(H:Hp)(Q:VK)(E:XK):Prop where
 | mk(p)(d)(R)(n)(g)(c)(_:vs=[.ref p,.int n,.int g,.int c])(_:Xe ca.roster H p d R)(_:Ag n g c)(_:if badI n g c then #[D,ca.out] else if n∈R.map (·.1) then #[D,ca.known] else if 30<=R.length then #[D,ca.many] else Q .non H)
inductive V5(ca:CA)(vs:#[a])(H:Hp)(Q:VK)(E:XK):Prop where
 | mk(p)(d)(R)(n)(_:vs=[.ref p,.int n])(_:Xe ca.roster H p d R)(_:Yf n)(_:if n∈R.map (·.1) then Q .non H else #[D,ca.unk])
inductive zij(ca:CA)(vs:#[a])(H:Hp)(Q:VK)(E:XK):Prop where
 | mk(p)(d)(R)(n)(g)(c)(_:vs=[.ref p,.int n,.int g,.int c])(_:Xe ca.roster H p d R)(_:Ag n g c)(_:R.length<=1000)(_:if badI n g c then #[D,ca.out] else if n∈R.map (·.1) then #[D,ca.known] else if 30<=R.length then #[D,ca.many] else ∀ H',Xe ca.roster H' p d (R++[(n,g,c)])->(∀ b o,H b=some o->b≠d->H' b=some o)->Q .non H')
inductive za6(ca:CA)(vs:#[a])(H:Hp)(Q:VK)(_:XK):Prop where
 | mk(p)(d)(R)(n)(g)(c)(_:vs=[.ref p,.int n])(_:Xe ca.roster H p d (R++[(n,g,c)]))(_:∀ H',Xe ca.roster H' p d R->(∀ b o,H b=some o->b≠d->H' b=some o)->Q .non H')
inductive Mb(ca:CA)(vs:#[a])(H:Hp)(Q:VK)(_:XK):Prop where
 | mk(p)(d)(R)(_:vs=[.ref p])(_:Xe ca.roster H p d R)(_:∀ l,H l=none->Q (.ref l) (upd H l (.lst (R.map fun x=>V.int x.1))))
inductive Fm(ca:CA)(vs:#[a])(H:Hp)(Q:VK)(E:XK):Prop where
 | mk(p)(d)(R)(n)(_:vs=[.ref p,.int n])(_:Xe ca.roster H p d R)(_:Yf n)(_:(n∉R.map (·.1)->#[D,ca.unk]))(_:∀ g c t,(n,g,c)∈R->H t=#[z,[.int g,.int c]]->Q (.ref t) H)
inductive Fn(ca:CA)(vs:#[a])(H:Hp)(Q:VK)(E:XK):Prop where
 | mk(p)(d)(R)(n)(_:vs=[.ref p,.int n])(_:Xe ca.roster H p d R)(_:Yf n)(_:(n∉R.map (·.1)->∀ H',#[p]->E (.ref ca.unk) none H'))(_:∀ g c t H',(n,g,c)∈R->H' t=some (.tup (pV (n,g,c)))->#[p]->H t=none->#[I,t])
structure Z3 where
 ms:List (Int×Int×Int)
 may:#[A]
 gv:#[a]
 gaps:List (Int×#[H])
inductive X5(ok:Addr->Prop)(H:Hp):#[a]->List (Int×#[H])->Prop where
 | nil:X5 ok H [] []
 | cons {t l:Addr} {n:Int} {us:#[a]} {st:#[H]} {ts:#[a]} {G:List (Int×#[H])} (h:H t=#[b,.tup,[.int n,.ref l]]) (hl:#[w,H,l,us]) (tl:Z8 H us (st.map Vz)) (o:ok l) (r:X5 ok H ts G):X5 ok H (.ref t :: ts) ((n,st) :: G)
theorem X5.keep(k:∀ x o,ok x->H x=#[c]->H' x=#[c])(kt:#[Z]):∀ {ts:List V} {G:List (Int×List (Nat×Option Int))},X5 ok H ts G->X5 ok H' ts G
 | _,_,.nil=>.nil
 | _,_,.cons h hl tl o r=>.cons (kt _ _ h) (k _ _ o hl) (tl.mono kt) o (X5.keep k kt r)
theorem X5.imp(k:#[al]):∀ {ts:List V} {G:List (Int×List (Nat×Option Int))},X5 ok H ts G->X5 ok' H ts G
 | _,_,.nil=>.nil
 | _,_,.cons h hl tl o r=>.cons h hl tl (k _ ⟨_,hl⟩ o) (X5.imp k r)
theorem X5.length:∀ {ts:List V} {G:List (Int×List (Nat×Option Int))},X5 ok H ts G->ts.length=G.length
 | _,_,.nil=>rfl
 | _,_,.cons _ _ _ _ r=>by simp[X5.length r]
theorem X5.snoc{ok:Addr->Prop}{H:Hp}{t l:Addr}{n:Int}{us:#[a]}{st:#[H]}(h:H t=#[b,.tup,[.int n,.ref l]])(hl:#[w,H,l,us])(tl:Z8 H us (st.map Vz))(o:ok l):∀ {ts:List V} {G:List (Int×List (Nat×Option Int))},X5 ok H ts G->X5 ok H (ts++[.ref t]) (G++[(n,st)])
 | _,_,.nil=>.cons h hl tl o .nil
 | _,_,.cons h' hl' tl' o' r=>.cons h' hl' tl' o' (X5.snoc h hl tl o r)
theorem X5.get:∀ {ts:List V} {G:List (Int×List (Nat×Option Int))} {i:Nat} {x:V},X5 ok H ts G->ts[i]?=some x->∃ t l n us st,x=.ref t/\G[i]?=some (n,st)/\H t=#[z,[.int n,.ref l]]/\H l=#[r,us]/\Z8 H us (st.map Vz)/\ok l
 | _,_,_,_,.nil,e=>by simp at e
 | _,_,0,_,.cons h hl tl o _,e=>by simp at e;subst e;exact⟨_,_,_,_,_,rfl,rfl,h,hl,tl,o⟩
 | _,_,i+1,x,.cons _ _ _ _ r,e=>by
   obtain⟨t,l,n,us,st,h1,h2,h3⟩:=X5.get (i:=i) (x:=x) r (by simpa using e);exact⟨t,l,n,us,st,h1,by simpa using h2,h3⟩
def shF(l1 l2 l3 l4:Addr):List (Str×V):=[("listed",.ref l1),("lists",.ref l2),("given",.ref l3),("gaps",.ref l4)]
structure ShAt(C:Addr)(ok:Addr->Prop)(H:Hp)(q:Addr)(s:Z3):Prop where
 ex:∃ dx l1 l2 l3 l4 ts ls gts,H q=some (.ins C dx (shF l1 l2 l3 l4))/\H l1=#[r,ts]/\Z8 H ts (s.ms.map pV)/\H l2=#[R,ls.map,V.ref]/\ILs H ls s.may/\H l3=#[r,s.gv]/\H l4=#[r,gts]/\X5 ok H gts s.gaps/\(ok q/\ok l1/\ok l2/\ok l3/\ok l4/\∀ x∈ls,ok x)
theorem ShAt.keep(h:ShAt C ok H q s)(k:∀ x o,ok x->H x=#[c]->H' x=#[c])(kt:#[Z]):ShAt C ok H' q s:=by
 obtain⟨dx,l1,l2,l3,l4,ts,ls,gts,a1,a2,a3,a4,a5,a6,a7,a8,o1,o2,o3,o4,o5,o6⟩:=h;exact⟨dx,l1,l2,l3,l4,ts,ls,gts,k _ _ o1 a1,k _ _ o2 a2,a3.mono kt,k _ _ o3 a4,a5.keep fun x hx o q=>k _ _ (o6 x hx) q,k _ _ o4 a6,k _ _ o5 a7,a8.keep k kt,o1,o2,o3,o4,o5,o6⟩
theorem ShAt.imp(h:ShAt C ok H q s)(k:#[al]):ShAt C ok' H q s:=by
 obtain⟨dx,l1,l2,l3,l4,ts,ls,gts,a1,a2,a3,a4,a5,a6,a7,a8,o1,o2,o3,o4,o5,o6⟩:=h;exact⟨dx,l1,l2,l3,l4,ts,ls,gts,a1,a2,a3,a4,a5,a6,a7,a8.imp k,k _ ⟨_,a1⟩ o1,k _ ⟨_,a2⟩ o2,k _ ⟨_,a4⟩ o3,k _ ⟨_,a6⟩ o4,k _ ⟨_,a7⟩ o5,fun x hx=>k _ (let ⟨_,z⟩:=a5.has hx;⟨_,z⟩) (o6 x hx)⟩
theorem ShAt.same(h:ShAt C ok H q s)(e:#[p]):ShAt C ok H' q s:=h.keep (fun _ _ _ q=>e _ _ q) fun _ _ q=>e _ _ q
def ShO(C:Addr)(ok:Addr->Prop)(H:Hp)(v:V)(s:Option Z3):Prop:=match s with|none=>v=.non|some s=>∃ q,v=.ref q/\ShAt C ok H q s
theorem ShO.keep(h:ShO C ok H v s)(k:∀ x o,ok x->H x=#[c]->H' x=#[c])(kt:#[Z]):ShO C ok H' v s:=by
 cases s with
 | none=>exact h
 | some s=>obtain⟨q,e,h⟩:=h;exact⟨q,e,h.keep k kt⟩
theorem ShO.imp(h:ShO C ok H v s)(k:#[al]):ShO C ok' H v s:=by
 cases s with
 | none=>exact h
 | some s=>obtain⟨q,e,h⟩:=h;exact⟨q,e,h.imp k⟩
inductive ShL(C:Addr)(ok:Addr->Prop)(H:Hp):#[a]->List Z3->Prop where
 | nil:ShL C ok H [] []
 | cons {q:Addr} {s:Z3} {vs:#[a]} {ss:List Z3} (h:ShAt C ok H q s) (r:ShL C ok H vs ss):ShL C ok H (.ref q :: vs) (s :: ss)
theorem ShL.keep(k:∀ x o,ok x->H x=#[c]->H' x=#[c])(kt:#[Z]):∀ {vs:List V} {ss:List Z3},ShL C ok H vs ss->ShL C ok H' vs ss
 | _,_,.nil=>.nil
 | _,_,.cons h r=>.cons (h.keep k kt) (ShL.keep k kt r)
theorem ShL.imp(k:#[al]):∀ {vs:List V} {ss:List Z3},ShL C ok H vs ss->ShL C ok' H vs ss
 | _,_,.nil=>.nil
 | _,_,.cons h r=>.cons (h.imp k) (ShL.imp k r)
theorem ShL.length:∀ {vs:List V} {ss:List Z3},ShL C ok H vs ss->vs.length=ss.length
 | _,_,.nil=>rfl
 | _,_,.cons _ r=>by simp[ShL.length r]
theorem ShL.snoc(h:ShAt C ok H q s):∀ {vs:List V} {ss:List Z3},ShL C ok H vs ss->ShL C ok H (vs++[.ref q]) (ss++[s])
 | _,_,.nil=>.cons h .nil
 | _,_,.cons h' r=>.cons h' (ShL.snoc h r)
theorem ShL.getR:∀ {vs:List V} {ss:List Z3} {i:Nat} {s:Z3},ShL C ok H vs ss->ss[i]?=some s->∃ q,vs[i]?=#[d,q]/\ShAt C ok H q s
 | _,_,_,_,.nil,e=>by simp at e
 | _,_,0,_,.cons h _,e=>by simp at e;subst e;exact#[q,_,h]
 | _,_,i+1,x,.cons _ r,e=>by
   obtain⟨t,h1,h2⟩:=ShL.getR (i:=i) (s:=x) r (by simpa using e);exact⟨t,by simpa using h1,h2⟩
abbrev Tp:=Str×Int×Int
def W2(d:Tp):#[a]:=[.str d.1,.int d.2.1,.int d.2.2]
inductive Uk(C:Addr)(ok:Addr->Prop)(H:Hp):#[a]->List (Tp×Option Z3)->Prop where
 | nil:Uk C ok H [] []
 | cons {t u:Addr} {v:V} {d:Tp} {s:Option Z3} {vs:#[a]} {ss:List (Tp×Option Z3)} (h:H t=#[b,.tup,[.ref u,v]]) (hu:H u=some (.tup (W2 d))) (hs:ShO C ok H v s) (r:Uk C ok H vs ss):Uk C ok H (.ref t :: vs) ((d,s) :: ss)
theorem Uk.keep(k:∀ x o,ok x->H x=#[c]->H' x=#[c])(kt:#[Z]):∀ {vs:List V} {ss:List (Tp×Option Z3)},Uk C ok H vs ss->Uk C ok H' vs ss
 | _,_,.nil=>.nil
 | _,_,.cons h hu hs r=>.cons (kt _ _ h) (kt _ _ hu) (hs.keep k kt) (Uk.keep k kt r)
theorem Uk.length:∀ {vs:List V} {ss:List (Tp×Option Z3)},Uk C ok H vs ss->vs.length=ss.length
 | _,_,.nil=>rfl
 | _,_,.cons _ _ _ r=>by simp[Uk.length r]
theorem Uk.snoc(h:H t=#[b,.tup,[.ref u,v]])(hu:H u=some (.tup (W2 d)))(hs:ShO C ok H v s):∀ {vs:List V} {ss:List (Tp×Option Z3)},Uk C ok H vs ss->Uk C ok H (vs++[.ref t]) (ss++[(d,s)])
 | _,_,.nil=>.cons h hu hs .nil
 | _,_,.cons h' hu' hs' r=>.cons h' hu' hs' (Uk.snoc h hu hs r)
theorem Uk.unsnoc:∀ {vs:List V} {ss:List (Tp×Option Z3)},Uk C ok H vs (ss++[(d,s)])->∃ vs' t u v,vs=vs'++[.ref t]/\H t=#[z,[.ref u,v]]/\H u=some (.tup (W2 d))/\ShO C ok H v s/\Uk C ok H vs' ss:=fun {vs ss}=>by
 induction ss generalizing vs with
 | nil=>
  intro q;have q:Uk C ok H vs [(d,s)]:=q;cases q with
  | cons h hu hs r=>cases r;exact⟨[],_,_,_,rfl,h,hu,hs,.nil⟩
 | cons x ss ih=>
  intro q;have q:Uk C ok H vs (x :: (ss++[(d,s)])):=q;cases q with
  | cons h hu hs r=>obtain⟨vs',t,u,v,e,a1,a2,a3,a4⟩:=ih r;exact⟨_ :: vs',t,u,v,by rw[e];rfl,a1,a2,a3,.cons h hu hs a4⟩
theorem Uk.get:∀ {vs:List V} {ss:List (Tp×Option Z3)} {i:Nat} {x:V},Uk C ok H vs ss->vs[i]?=some x->∃ t u v d s,x=.ref t/\ss[i]?=some (d,s)/\H t=#[z,[.ref u,v]]/\H u=some (.tup (W2 d))
 | _,_,_,_,.nil,e=>by simp at e
 | _,_,0,_,.cons h hu _ _,e=>by simp at e;subst e;exact⟨_,_,_,_,_,rfl,rfl,h,hu⟩
 | _,_,i+1,x,.cons _ _ _ r,e=>by
   obtain⟨t,u,v,d,s,h1,h2,h3⟩:=Uk.get (i:=i) (x:=x) r (by simpa using e);exact⟨t,u,v,d,s,h1,by simpa using h2,h3⟩
structure Sea where
 len:Nat
 rest:Nat
 ppl:RL
 led:#[T]
 out:List (Int×Int)
 old:List Z3
 cur:Option Z3
 std:List (Tp×Option Z3)
structure SAd where
 p:Addr
 pr:Addr
 dr:Addr
 pl:Addr
 lr:Addr
 ld:Addr
 da:Addr
 ls:Addr
 lt:Addr
def SAd.fp(A:SAd):#[t]:=[A.p,A.dr,A.lr,A.ld,A.da,A.ls,A.lt]
def seaF(A:SAd)(len rest:Nat)(v:V):List (Str×V):=[("length",.int len),("rest",.int rest),("roster",.ref A.pr),("ledger",.ref A.pl),("absent",.ref A.da),("sheets",.ref A.ls),("sheet",v),("standing",.ref A.lt)]
def Og(kvs:List (List Key×V))(out:List (Int×Int)):Prop:=(∀ at_ n:Int,(valV kvs [inl at_,inl n]).isSome=decide ((at_,n)∈out))/\kvs.length<=out.length
structure Zy(ca:CA)(H:Hp)(A:SAd)(S:Sea):Prop where
 obj:∃ dx v,H A.p=some (.ins ca.season dx (seaF A S.len S.rest v))/\ShO ca.sheet (·∉A.fp) H v S.cur
 ros:Xe ca.roster H A.pr A.dr S.ppl
 led:Ul ca.ledger H A.pl A.lr A.ld S.led
 out:∃ kvs,H A.da=#[b,.dT,kvs]/\Og kvs S.out
 old:∃ vs,H A.ls=#[r,vs]/\ShL ca.sheet (·∉A.fp) H vs S.old
 std:∃ vs,H A.lt=#[r,vs]/\Uk ca.sheet (·∉A.fp) H vs S.std
 nd:A.fp.Nodup
 np:A.pr∉A.fp/\A.pl∉A.fp
def FrS(A:SAd)(H H':Hp):Prop:=∀ b o,H b=#[c]->b∉A.fp->H' b=#[c]
end G
namespace L2
open PySem PySem.Spec PyProof.Rows
theorem za7{X:Cx}{K:Frag}(hK:X.K=K):OpR X (binaryOp .Add) (zki K):=hK▸zjl
end L2
namespace G
open PySem PySem.Spec PyProof.Rows L2
theorem it2{p:Prop}[Decidable p]{A B A' B':Prop}(h:if p then A else B)(h1:p->A->A')(h2:¬ p->B->B'):if p then A' else B':=by
 by_cases z:p
 ·rw[if_pos z] at h ⊢;exact h1 z h
 ·rw[if_neg z] at h ⊢;exact h2 z h
theorem zf5{κ:Type}[DecidableEq κ]{kvs:List (κ×V)}{k:κ}{v:V}(h:valV kvs k=none):putK kvs k v=kvs++[(k,v)]:=by
 unfold putK;rw[if_neg];intro z;rw[Ry,h] at z;cases z
inductive za8(C:Addr)(vs:#[a])(H:Hp)(Q:VK)(_:XK):Prop where
 | mk(p lr ld:Addr)(Rs:#[T])(b:Addr)(ts:#[a])(rs:List Row)(_:vs=[.ref p,.ref b])(_:Ul C H p lr ld Rs)(_:#[w,H,b,ts])(_:b≠lr)(_:Z8 H ts (rs.map row4))(_:2*(tot Rs+rs.length)<=100000)(_:Rs.length<=1000)(_:∀ H',Ul C H' p lr ld (Rs++[rs])->(∀ b o,H b=some o->b≠lr->b≠ld->H' b=some o)->Q .non H')
def zeo(ok:Addr->Prop)(H:Hp):Prop:=∀ x,H x=none->ok x
inductive Ln(ca:CA)(vs:#[a])(H:Hp)(Q:VK)(_:XK):Prop where
 | mk(q)(dx)(l1)(l2)(l3)(l4)(_:vs=[.ref q,.ref l1,.ref l2,.ref l3,.ref l4])(_:H q=some (.ins ca.sheet dx []))(_:∀ H',H'=upd H q (.ins ca.sheet dx (shF l1 l2 l3 l4))->Q .non H')
theorem Ts:List.lookup ("listed":Str) (shF l1 l2 l3 l4)=#[b,.ref,l1]:=by unfold shF;simp only[zy2,beq_self_eq_true]
theorem za9:List.lookup ("lists":Str) (shF l1 l2 l3 l4)=#[b,.ref,l2]:=by
 have e:(("lists":Str) == "listed")=false:=by decide +kernel
 unfold shF;simp only[zy2,e,beq_self_eq_true]
theorem T5:List.lookup ("given":Str) (shF l1 l2 l3 l4)=#[b,.ref,l3]:=by
 have e:(("given":Str) == "listed")=false:=by decide +kernel
 have e2:(("given":Str) == "lists")=false:=by decide +kernel
 unfold shF;simp only[zy2,e,e2,beq_self_eq_true]
theorem Ah:List.lookup ("gaps":Str) (shF l1 l2 l3 l4)=#[b,.ref,l4]:=by
 have e:(("gaps":Str) == "listed")=false:=by decide +kernel
 have e2:(("gaps":Str) == "lists")=false:=by decide +kernel
 have e3:(("gaps":Str) == "given")=false:=by decide +kernel
 unfold shF;simp only[zy2,e,e2,e3,beq_self_eq_true]
theorem Wx{l1 l2 l3 l4:Addr}{m:Str}(h1:¬ m="listed")(h2:¬ m="lists")(h3:¬ m="given")(h4:¬ m="gaps"):List.lookup m (shF l1 l2 l3 l4)=none:=by
 have e1:(m == "listed")=false:=zyr.mpr h1;have e2:(m == "lists")=false:=zyr.mpr h2;have e3:(m == "given")=false:=zyr.mpr h3;have e4:(m == "gaps")=false:=zyr.mpr h4;unfold shF;simp only[zy2,e1,e2,e3,e4,List.lookup_nil]
theorem zoa:putF "lists" y [(("listed":Str),x)]=([("listed",x),("lists",y)]:List (Str×V)):=by
 have n1:¬ (("listed":Str)="lists"):=by decide +kernel
 simp only[putF,if_neg n1]
theorem zob:putF "given" z [(("listed":Str),x),("lists",y)]=([("listed",x),("lists",y),("given",z)]:List (Str×V)):=by
 have n1:¬ (("listed":Str)="given"):=by decide +kernel
 have n2:¬ (("lists":Str)="given"):=by decide +kernel
 simp only[putF,if_neg n1,if_neg n2]
theorem zoc:putF "gaps" w [(("listed":Str),x),("lists",y),("given",z)]=([("listed",x),("lists",y),("given",z),("gaps",w)]:List (Str×V)):=by
 have n1:¬ (("listed":Str)="gaps"):=by decide +kernel
 have n2:¬ (("lists":Str)="gaps"):=by decide +kernel
 have n3:¬ (("given":Str)="gaps"):=by decide +kernel
 simp only[putF,if_neg n1,if_neg n2,if_neg n3]
theorem Mc(hq:H1 q=none)(hdx:H1 dx=none)(ne:dx≠q):Same H1 (upd (upd (upd H1 dx (.own q)) q (.ins C dx [])) q (.ins C dx (shF l1 l2 l3 l4)))/\upd (upd (upd H1 dx (.own q)) q (.ins C dx [])) q (.ins C dx (shF l1 l2 l3 l4)) q=some (.ins C dx (shF l1 l2 l3 l4)):=by
 refine⟨fun b o e=>?_,Ze⟩;rw[Zj (Zh e hq),Zj (Zh e hq),Zj (Zh e hdx)];exact e
inductive zba(ca:CA)(vs:#[a])(H:Hp)(Q:VK)(_:XK):Prop where
 | mk(ok:Addr->Prop)(q l2:Addr)(ls:#[t])(rows:#[A])(s:Z3)(_:vs=[.ref q,.ref l2])(_:ShAt ca.sheet ok H q s)(_:#[ad,l2])(_:ILs H ls rows)(_:ok l2)(_:(∀ x∈ls,ok x))(_:zeo ok H)(_:∀ q' H',ShAt ca.sheet ok H' q' { s with may:=rows }->#[p]->H q'=none->#[I,q'])
inductive zbb(ca:CA)(vs:#[a])(H:Hp)(Q:VK)(_:XK):Prop where
 | mk(ok:Addr->Prop)(q l2:Addr)(ls:#[t])(rows:#[A])(nu:#[o])(s:Z3)(n:Int)(p:Nat)(_:vs=[.ref q,.int n,.ref l2])(_:ShAt ca.sheet ok H q s)(_:#[ad,l2])(_:ILs H ls rows)(_:ok l2)(_:(∀ x∈ls,ok x))(_:zeo ok H)(_:Ph rows nu)(_:(∀ x∈s.gv,oneV x))(_:s.gv[p]?=#[l,n])(_:(∀ j:Nat,s.gv[j]?=#[l,n]->j=p))(_:Yr rows (s.gv.set p .non))(_:s.gaps.length<=1000)(_:∀ q' st e w H',ShAt ca.sheet ok H' q' ⟨s.ms,rows,Yz st (s.gv.set p .non),s.gaps++[(n,st)]⟩->Xw rows (s.gv.set p .non) p st e w->#[p]->H q'=none->#[I,q'])
inductive zep(ca:CA)(vs:#[a])(H:Hp)(Q:VK)(_:XK):Prop where
 | mk(ok:Addr->Prop)(l1 l2:Addr)(ts:#[a])(ls:#[t])(ms:List (Int×Int×Int))(rows:#[A])(nu:#[o])(_:vs=[.ref l1,.ref l2])(_:#[w,H,l1,ts])(_:Z8 H ts (ms.map pV))(_:#[ad,l2])(_:ILs H ls rows)(_:ok l1)(_:ok l2)(_:(∀ x∈ls,ok x))(_:zeo ok H)(_:Ph rows nu)(_:∀ q gv H',ShAt ca.sheet ok H' q ⟨ms,rows,gv,[]⟩->Yr rows gv->V3 rows gv->#[p]->H q=none->#[I,q])
inductive Oh(ca:CA)(vs:#[a])(H:Hp)(Q:VK)(_:XK):Prop where
 | mk(ok:Addr->Prop)(q:Addr)(s:Z3)(_:vs=[.ref q])(_:ShAt ca.sheet ok H q s)(_:∀ l ts H',H' l=#[r,ts]->Z8 H' ts (s.ms.map pV)->#[p]->H l=none->#[I,l])
inductive Fo(ca:CA)(vs:#[a])(H:Hp)(Q:VK)(_:XK):Prop where
 | mk(ok:Addr->Prop)(q:Addr)(s:Z3)(_:vs=[.ref q])(_:ShAt ca.sheet ok H q s)(_:∀ l H',H' l=#[r,s.gv]->#[p]->H l=none->#[I,l])
inductive Nd(ca:CA)(vs:#[a])(H:Hp)(Q:VK)(_:XK):Prop where
 | mk(ok:Addr->Prop)(q:Addr)(s:Z3)(n:Int)(_:vs=[.ref q,.int n])(_:ShAt ca.sheet ok H q s)(_:(∀ x∈s.gv,oneV x))(_:s.gv.length<=100)(_:∀ H',Same H H'->Q (oN (Wa s.gv n)) H')
inductive zbc(ca:CA)(vs:#[a])(H:Hp)(Q:VK)(_:XK):Prop where
 | mk(ok:Addr->Prop)(q:Addr)(s:Z3)(_:vs=[.ref q])(_:ShAt ca.sheet ok H q s)(_:(∀ x∈s.gv,oneV x))(_:s.gv.length<=100)(_:#[am,l,(Xz s.gv).map,fun i=>V.int (i:Nat),Q,l])
inductive zeq(ca:CA)(vs:#[a])(H:Hp)(Q:VK)(_:XK):Prop where
 | mk(ok:Addr->Prop)(q:Addr)(s:Z3)(nu:#[o])(_:vs=[.ref q])(_:ShAt ca.sheet ok H q s)(_:Ph s.may nu)(_:Yr s.may s.gv)(_:za3 s.may s.gv)(_:∀ t lp lr ps rs H',H' t=#[z,[.ref lp,.ref lr]]->H' lp=#[R,Vg,ps]->H' lr=#[R,rs.map,V.int]->Fl s.may s.gv ps rs->#[p]->H t=none->H lp=none->H lr=none->lp≠lr->#[I,t])
inductive zer(ca:CA)(vs:#[a])(H:Hp)(Q:VK)(E:XK):Prop where
 | mk(ok:Addr->Prop)(q:Addr)(s:Z3)(i:Int)(_:vs=[.ref q,.int i])(_:ShAt ca.sheet ok H q s)(_:Yf i)(_:s.may.length=s.ms.length)(_:(i<0\/(s.ms.length:Int)<=i->#[D,ca.noMatch]))(_:∀ (k:Nat) r,i=(k:Int)->s.may[k]?=some r->∀ l H',H' l=#[R,r.map,V.int]->#[p]->H l=none->#[I,l])
inductive K4(ca:CA)(vs:#[a])(H:Hp)(Q:VK)(E:XK):Prop where
 | mk(ok:Addr->Prop)(q:Addr)(s:Z3)(i:Int)(_:vs=[.ref q,.int i])(_:ShAt ca.sheet ok H q s)(_:Yf i)(_:(if i<0\/(s.ms.length:Int)<=i then #[D,ca.noMatch] else Q .non H))
inductive Ia(ca:CA)(vs:#[a])(H:Hp)(Q:VK)(E:XK):Prop where
 | mk(ok:Addr->Prop)(q:Addr)(s:Z3)(i:Int)(_:vs=[.ref q,.int i])(_:ShAt ca.sheet ok H q s)(_:Yf i)(_:(i<0\/(s.ms.length:Int)<=i->#[D,ca.noMatch]))(_:∀ (k:Nat) m t,i=(k:Int)->s.ms[k]?=some m->H t=some (.tup (pV m))->Q (.ref t) H)
def Fp(m:Int×Int×Int)(x:V):Row:=⟨m.1,m.2.1,m.2.2,za4 (some x)⟩
def Ya(s:Z3):List Row:=List.zipWith Fp s.ms s.gv
inductive zbd(ca:CA)(vs:#[a])(H:Hp)(Q:VK)(_:XK):Prop where
 | mk(ok:Addr->Prop)(q:Addr)(s:Z3)(_:vs=[.ref q])(_:ShAt ca.sheet ok H q s)(_:(∀ x∈s.gv,oneV x))(_:s.gv.length=s.ms.length)(_:s.ms.length<=1000)(_:∀ l ts H',H' l=#[r,ts]->Z8 H' ts ((Ya s).map row4)->#[p]->H l=none->#[I,l])
inductive Md(ca:CA)(vs:#[a])(H:Hp)(Q:VK)(_:XK):Prop where
 | mk(ok:Addr->Prop)(q:Addr)(s:Z3)(_:vs=[.ref q])(_:ShAt ca.sheet ok H q s)(_:s.gaps.length<=1000)(_:∀ l ts H',H' l=#[r,ts]->X5 (fun x=>H x=none/\x≠l) H' ts s.gaps->#[p]->H l=none->#[I,l])
theorem Me{K:Frag}{a:Addr}{xs:#[a]}{xo:List Str}{js:List Nat}{g:TG}{tt:TT}{te:TE}{σ:L2.St}{H:Hp}{Q:VK}(Pv:Nat->#[a]->Hp->Prop)(h0:Pv 0 [] H)(hl:∀ i ys H,i<=xs.length->Pv i ys H->SqL K H a xs)(hz:xs.length<=sizeLine)(hy:∀ i ys H,Pv i ys H->ys.length<=i)
  (hs:∀ i x ys H,xs[i]?=some x->Pv i ys H->g x (cs0 xo js σ) H fun σ2 H1=>Qn xo js σ σ2/\tt σ2 H1 fun b H2=>if b=true then te σ2 H2 fun y H3=>Pv (i+1) (ys++[y]) H3 else Pv (i+1) ys H2)
  (hd:∀ ys H,Pv xs.length ys H->∀ p,H p=none->Q (.ref p) (upd H p (.lst ys))):Ae (Itl K a) xo js g tt te σ H Q:=by
 refine⟨fun i m ys H=>m=xs.length-i/\i<=xs.length/\Pv i ys H,⟨xs.length,by simp,zyv _,h0⟩,?_⟩;rintro i m ys H ⟨rfl,hi,p⟩;have q:=hl i ys H hi p;have ly:=hy i ys H p;by_cases hlt:i<xs.length
 ·refine .inr ⟨⟨xs,xs[i],q,by simp[hlt]⟩,by omega,Pv (i+1),fun ys' H' p'=>⟨xs.length-(i+1),by omega,rfl,hlt,p'⟩,fun x H' y=>?_⟩;obtain⟨e,y⟩:=y;subst e;exact hs i x ys _ (y xs q) p
 ·have e:i=xs.length:=by omega
  subst e;exact .inl ⟨⟨xs,q,zyc _⟩,by omega,hd ys H p⟩
theorem zf6{K:Frag}{a b:Addr}{xs zs:#[a]}{xo:List Str}{js:List Nat}{g:TG}{tt:TT}{te:TE}{σ:L2.St}{H:Hp}{Q:VK}(Pv:Nat->#[a]->Hp->Prop)(h0:Pv 0 [] H)(he:xs.length=zs.length)(hl:∀ i ys H,i<=xs.length->Pv i ys H->SqL K H a xs/\SqL K H b zs)(hz:xs.length<=sizeLine)(hy:∀ i ys H,Pv i ys H->ys.length<=i)
  (hs:∀ i x z t ys H,xs[i]?=some x->zs[i]?=some z->Pv i ys H->H t=none->g (.ref t) (cs0 xo js σ) (upd H t (.tup [x,z])) fun σ2 H1=>Qn xo js σ σ2/\tt σ2 H1 fun b H2=>if b=true then te σ2 H2 fun y H3=>Pv (i+1) (ys++[y]) H3 else Pv (i+1) ys H2)
  (hd:∀ ys H,Pv xs.length ys H->∀ p,H p=none->Q (.ref p) (upd H p (.lst ys))):Ae (Itz K a b) xo js g tt te σ H Q:=by
 refine⟨fun i m ys H=>m=xs.length-i/\i<=xs.length/\Pv i ys H,⟨xs.length,by simp,zyv _,h0⟩,?_⟩;rintro i m ys H ⟨rfl,hi,p⟩;obtain⟨q1,q2⟩:=hl i ys H hi p;have ly:=hy i ys H p;by_cases hlt:i<xs.length
 ·refine .inr ⟨⟨xs,zs,xs[i],zs[i]'⋯,q1,q2,by simp[hlt],by rw[zx2 ⋯]⟩,by omega,Pv (i+1),fun ys' H' p'=>⟨xs.length-(i+1),by omega,rfl,hlt,p'⟩,fun x H' y=>?_⟩;obtain⟨t,y,z,h1,h2,h3,rfl,rfl⟩:=y;exact hs i y z t ys _ (h2 xs q1) (h3 zs q2) p h1
 ·have e:i=xs.length:=by omega
  subst e;exact .inl ⟨⟨xs,zs,q1,q2,.inl (zyc _)⟩,by omega,hd ys H p⟩
theorem zl5(m:Int×Int×Int)(h:oneV x):row4 (Fp m x)=[V.int m.1,V.int m.2.1,V.int m.2.2,x]:=by
 rcases h with rfl|⟨i,rfl⟩<;>rfl
theorem zf7(hm:s.ms[i]?=some m)(hx:s.gv[i]?=some x):(Ya s).take (i+1)=(Ya s).take i++[Fp m x]:=by
 have:(Ya s)[i]?=some (Fp m x):=by
  unfold Ya;rw[List.getElem?_zipWith,hm,hx]
 rw[zzd,this];rfl
theorem zbe(h:s.gv.length=s.ms.length):(Ya s).length=s.ms.length:=by
 unfold Ya;rw[z0c,h,Nat.min_self]
section
variable{ca:CA}{H H':Hp}{A:SAd}{S:Sea}{l:Nat}{r:Nat}{v:V}
theorem zbf(A:SAd)(l r:Nat)(v:V):List.lookup ("length":Str) (seaF A l r v)=#[l,l]/\List.lookup ("rest":Str) (seaF A l r v)=#[l,r]/\List.lookup ("roster":Str) (seaF A l r v)=#[d,A.pr]/\List.lookup ("ledger":Str) (seaF A l r v)=#[d,A.pl]/\List.lookup ("absent":Str) (seaF A l r v)=#[d,A.da]/\List.lookup ("sheets":Str) (seaF A l r v)=#[d,A.ls]/\List.lookup ("sheet":Str) (seaF A l r v)=some v/\List.lookup ("standing":Str) (seaF A l r v)=#[d,A.lt]:=by
 have d:∀ a b:Str,#[i,a=b]=false->(a == b)=false:=fun a b h=>zyr.mpr (of_decide_eq_false h);have e1:=d "rest" "length" ⋯;have e2:=d "roster" "length" ⋯;have e3:=d "roster" "rest" ⋯;have f1:=d "ledger" "length" ⋯;have f2:=d "ledger" "rest" ⋯;have f3:=d "ledger" "roster" ⋯;have g1:=d "absent" "length" ⋯;have g2:=d "absent" "rest" ⋯;have g3:=d "absent" "roster" ⋯;have g4:=d "absent" "ledger" ⋯;have h1:=d "sheets" "length" ⋯;have h2:=d "sheets" "rest" ⋯;have h3:=d "sheets" "roster" ⋯;have h4:=d "sheets" "ledger" ⋯;have h5:=d "sheets" "absent" ⋯;have i1:=d "sheet" "length" ⋯;have i2:=d "sheet" "rest" ⋯;have i3:=d "sheet" "roster" ⋯;have i4:=d "sheet" "ledger" ⋯;have i5:=d "sheet" "absent" ⋯;have i6:=d "sheet" "sheets" ⋯;have j1:=d "standing" "length" ⋯;have j2:=d "standing" "rest" ⋯;have j3:=d "standing" "roster" ⋯;have j4:=d "standing" "ledger" ⋯;have j5:=d "standing" "absent" ⋯;have j6:=d "standing" "sheets" ⋯;have j7:=d "standing" "sheet" ⋯;unfold seaF;refine⟨?_,?_,?_,?_,?_,?_,?_,?_⟩<;>simp only[zy2,beq_self_eq_true,e1,e2,e3,f1,f2,f3,g1,g2,g3,g4,h1,h2,h3,h4,h5,i1,i2,i3,i4,i5,i6,j1,j2,j3,j4,j5,j6,j7]
theorem Bh:List.lookup ("length":Str) (seaF A l r v)=#[b,.int,l]:=(zbf A l r v).1
theorem zes:List.lookup ("rest":Str) (seaF A l r v)=#[b,.int,r]:=(zbf A l r v).2.1
theorem X1:List.lookup ("roster":Str) (seaF A l r v)=#[b,.ref,A.pr]:=(zbf A l r v).2.2.1
theorem V0:List.lookup ("ledger":Str) (seaF A l r v)=#[b,.ref,A.pl]:=(zbf A l r v).2.2.2.1
theorem R4:List.lookup ("absent":Str) (seaF A l r v)=#[b,.ref,A.da]:=(zbf A l r v).2.2.2.2.1
theorem Bi:List.lookup ("sheets":Str) (seaF A l r v)=#[b,.ref,A.ls]:=(zbf A l r v).2.2.2.2.2.1
theorem W6:List.lookup ("sheet":Str) (seaF A l r v)=some v:=(zbf A l r v).2.2.2.2.2.2.1
theorem U6:List.lookup ("standing":Str) (seaF A l r v)=#[b,.ref,A.lt]:=(zbf A l r v).2.2.2.2.2.2.2
theorem Z6(h:(["length","rest","roster","ledger","absent","sheets","sheet","standing"]:List Str).all (fun x=>!#[i,m=x])=true):List.lookup m (seaF A l r v)=none:=by
 simp only[List.all_cons,List.all_nil,Bool.and_true,zzn,Bool.not_eq_true',decide_eq_false_iff_not] at h;obtain⟨h1,h2,h3,h4,h5,h6,h7,h8⟩:=h;have e:∀ x:Str,¬ m=x->(m == x)=false:=fun x z=>zyr.mpr z;unfold seaF;simp only[zy2,e _ h1,e _ h2,e _ h3,e _ h4,e _ h5,e _ h6,e _ h7,e _ h8,List.lookup_nil]
theorem Zy.same(h:#[E])(e:#[p]):Zy ca H' A S:=by
 obtain⟨⟨dx,v,a1,a2⟩,b,c,⟨kvs,d1,d2⟩,⟨vs,f1,f2⟩,⟨us,g1,g2⟩,nd,np⟩:=h;have k:∀ x o,x∉A.fp->H x=#[c]->H' x=#[c]:=fun _ _ _ q=>e _ _ q;have kt:#[Z]:=fun _ _ q=>e _ _ q;exact⟨⟨dx,v,e _ _ a1,a2.keep k kt⟩,b.same e,c.same e,⟨kvs,e _ _ d1,d2⟩,⟨vs,e _ _ f1,f2.keep k kt⟩,⟨us,e _ _ g1,g2.keep k kt⟩,nd,np⟩
theorem FrS.of(A:SAd)(e:#[p]):FrS A H H':=fun b o q _=>e b o q
theorem FrS.trans(h1:FrS A H H')(h2:FrS A H' H2):FrS A H H2:=fun b o e n=>h2 b o (h1 b o e n) n
theorem Zy.there(h:#[E]):∀ x∈A.fp,∃ o,H x=#[c]:=by
 obtain⟨⟨dx,v,a1,_⟩,⟨⟨_,_,_,b2,_⟩,_⟩,⟨_,⟨rs,c2,_⟩,⟨ks,c3,_⟩⟩,⟨kvs,d1,_⟩,⟨vs,f1,_⟩,⟨us,g1,_⟩,nd,np⟩:=h;intro x hx;simp only[SAd.fp,zx8,zy4,or_false] at hx;rcases hx with rfl|rfl|rfl|rfl|rfl|rfl|rfl
 ·exact⟨_,a1⟩
 ·exact⟨_,b2⟩
 ·exact⟨_,c2⟩
 ·exact⟨_,c3⟩
 ·exact⟨_,d1⟩
 ·exact⟨_,f1⟩
 ·exact⟨_,g1⟩
theorem Zy.newOk(h:#[E]):zeo (·∉A.fp) H:=fun x hx hm=>by
 obtain⟨o,e⟩:=h.there x hm;rw[e] at hx;cases hx
theorem Zy.tups(h:#[E])(f:FrS A H H'):#[Z]:=fun t xs e=>f t _ e fun hm=>by
 obtain⟨⟨dx,v,a1,_⟩,⟨⟨_,_,_,b2,_⟩,_⟩,⟨_,⟨rs,c2,_⟩,⟨ks,c3,_⟩⟩,⟨kvs,d1,_⟩,⟨vs,f1,_⟩,⟨us,g1,_⟩,nd,np⟩:=h;simp only[SAd.fp,zx8,zy4,or_false] at hm;rcases hm with rfl|rfl|rfl|rfl|rfl|rfl|rfl
 ·rw[a1] at e;cases e
 ·rw[b2] at e;cases e
 ·rw[c2] at e;cases e
 ·rw[c3] at e;cases e
 ·rw[d1] at e;cases e
 ·rw[f1] at e;cases e
 ·rw[g1] at e;cases e
end
def atV(S:Sea):Int:=(S.led.length:Int)+1
inductive Vm(ca:CA)(vs:#[a])(H:Hp)(Q:VK)(_:XK):Prop where
 | mk(A:SAd)(S:Sea)(_:vs=[.ref A.p])(_:#[E])(_:Q (.int (atV S)) H)
inductive K5(ca:CA)(vs:#[a])(H:Hp)(Q:VK)(E:XK):Prop where
 | mk(A:SAd)(S:Sea)(_:vs=[.ref A.p])(_:#[E])(_:if S.len<=S.led.length then #[D,ca.seaOver] else Q .non H)
inductive K6(ca:CA)(vs:#[a])(H:Hp)(Q:VK)(E:XK):Prop where
 | mk(A:SAd)(S:Sea)(_:vs=[.ref A.p])(_:#[E])(_:if S.len<=S.led.length then #[D,ca.seaOver] else if S.cur.isSome then #[D,ca.drawn] else Q .non H)
inductive Gy(ca:CA)(vs:#[a])(H:Hp)(Q:VK)(E:XK):Prop where
 | mk(A:SAd)(S:Sea)(at_:Int)(_:vs=[.ref A.p,.int at_])(_:#[E])(_:Yf at_)(_:if at_<1\/(S.len:Int)<at_ then #[D,ca.noRound] else Q .non H)
inductive Ai(ca:CA)(vs:#[a])(H:Hp)(Q:VK)(E:XK):Prop where
 | mk(A:SAd)(S:Sea)(_:vs=[.ref A.p])(_:#[E])(_:if 100<=S.std.length then #[D,ca.manyD] else Q .non H)
inductive Aj(ca:CA)(vs:#[a])(H:Hp)(Q:VK)(_:XK):Prop where
 | mk(A:SAd)(S:Sea)(w:Str)(n at_:Int)(_:vs=[.ref A.p,.str w,.int n,.int at_])(_:#[E])(_:S.std.length<=1000)(_:∀ H',Zy ca H' A { S with std:=S.std++[((w,n,at_),S.cur)] }->FrS A H H'->Q .non H')
inductive T6(ca:CA)(vs:#[a])(H:Hp)(Q:VK)(E:XK):Prop where
 | mk(A:SAd)(S:Sea)(_:vs=[.ref A.p])(_:#[E])(_:(S.cur=none->E (.ref ca.notDrawn) none H))(_:∀ s q,S.cur=some s->ShAt ca.sheet (·∉A.fp) H q s->Q (.ref q) H)
def Wq(S:Sea)(at_:Int):Option Z3:=if at_<=S.led.length then S.old[(at_-1).toNat]? else if (S.led.length:Int)+1<at_ then none else S.cur
inductive Uq(ca:CA)(vs:#[a])(H:Hp)(Q:VK)(E:XK):Prop where
 | mk(A:SAd)(S:Sea)(at_:Int)(_:vs=[.ref A.p,.int at_])(_:#[E])(_:Yf at_)(_:S.old.length=S.led.length)(_:if at_<1\/(S.len:Int)<at_ then #[D,ca.noRound] else (Wq S at_=none->#[D,ca.notDrawn])/\∀ s q,Wq S at_=some s->ShAt ca.sheet (·∉A.fp) H q s->Q (.ref q) H)
def pIn(out:List (Int×Int))(at_:Int)(m:P3):Bool:=#[i,(at_,m.1)∈out]
def Fq(S:Sea)(m:P3):#[o]:=(S.ppl.filter fun x=>(whyS S.led x.1 x.2.1 x.2.2 m.1 m.2.1 m.2.2 (pIn S.out (atV S) x) S.rest).isEmpty).map (·.1)
def mayS(S:Sea)(ms:List P3):#[A]:=ms.map (Fq S)
inductive Mf(ca:CA)(vs:#[a])(H:Hp)(Q:VK)(_:XK):Prop where
 | mk(A:SAd)(S:Sea)(l:Addr)(ts:#[a])(ms:List P3)(_:vs=[.ref A.p,.ref l])(_:#[E])(_:#[w,H,l,ts])(_:Z8 H ts (ms.map pV))(_:ms.length<=100)(_:S.ppl.length<=100)(_:(∀ x∈S.ppl,Yf x.1))(_:∀ l' ls H',H' l'=#[R,ls.map,V.ref]->ILs H' ls (mayS S ms)->#[p]->H l'=none->(∀ x∈ls,H x=none)->#[I,l'])
def badM(m:P3):Prop:=m.1<1\/99<m.1\/m.2.1<1\/99<m.2.1\/m.2.2<1\/9<m.2.2
def Qq(Ms:List P3):Prop:=∃ m∈Ms,badM m
def Qr(Ms:List P3):Prop:=∃ m∈Ms,m.1=m.2.1
def Fs(m:P3):Prop:=Yf m.1/\Yf m.2.1/\Yf m.2.2
theorem Bj{p:P3->Prop}{Ms:List P3}{i:Nat}{m:P3}(e:Ms[i]?=some m)(h:∀ x∈Ms.take i,¬ p x)(hm:¬ p m):∀ x∈Ms.take (i+1),¬ p x:=fun x hx=>by
 rw[zzd,e] at hx;rcases zyd.mp hx with q|q
 ·exact h x q
 ·simp at q;subst q;exact hm
inductive zbg(K:Frag)(ca:CA)(vs:#[a])(H:Hp)(Q:VK)(E:XK):Prop where
 | mk(b)(ts)(_:vs=[.ref b])(_:SqL K H b ts)(_:ts.length<=1000)(_:(20<ts.length->#[D,ca.manyM]))(_:(ts.length<=20->Q .non H))
inductive Bl(K:Frag)(ca:CA)(vs:#[a])(H:Hp)(Q:VK)(E:XK):Prop where
 | mk(b:Addr)(ts:#[a])(Ms:List P3)(_:vs=[.ref b])(_:SqL K H b ts)(_:Z8 H ts (Ms.map pV))(_:(∀ m∈Ms,Fs m))(_:(Qq Ms->#[D,ca.out]))(_:(¬ Qq Ms->Q .non H))
inductive zbh(K:Frag)(ca:CA)(vs:#[a])(H:Hp)(Q:VK)(E:XK):Prop where
 | mk(b:Addr)(ts:#[a])(Ms:List P3)(_:vs=[.ref b])(_:SqL K H b ts)(_:Z8 H ts (Ms.map pV))(_:(∀ m∈Ms,Fs m))(_:(Qr Ms->#[D,ca.same]))(_:(¬ Qr Ms->Q .non H))
inductive Ft(K:Frag)(ca:CA)(vs:#[a])(H:Hp)(Q:VK)(E:XK):Prop where
 | mk(b:Addr)(ts:#[a])(Ms:List P3)(_:vs=[.ref b])(_:SqL K H b ts)(_:Z8 H ts (Ms.map pV))(_:(∀ m∈Ms,Fs m))(_:Ms.length<=1000)(_:(20<Ms.length->#[D,ca.manyM]))(_:(Ms.length<=20->Qq Ms->#[D,ca.out]))(_:(Ms.length<=20->¬ Qq Ms->Qr Ms->#[D,ca.same]))(_:(Ms.length<=20->¬ Qq Ms->¬ Qr Ms->∀ l,H l=none->Q (.ref l) (upd H l (.lst ts))))
theorem Og.isSome(h:Og kvs out)(i n:Int):(valV kvs [inl i,inl n]).isSome=#[i,(i,n)∈out]:=h.1 i n
theorem Fu{A:SAd}(nd:A.fp.Nodup):(A.p≠A.dr/\A.p≠A.lr/\A.p≠A.ld/\A.p≠A.da/\A.p≠A.ls/\A.p≠A.lt)/\(A.dr≠A.lr/\A.dr≠A.ld/\A.dr≠A.da/\A.dr≠A.ls/\A.dr≠A.lt)/\(A.lr≠A.ld/\A.lr≠A.da/\A.lr≠A.ls/\A.lr≠A.lt)/\(A.ld≠A.da/\A.ld≠A.ls/\A.ld≠A.lt)/\(A.da≠A.ls/\A.da≠A.lt)/\A.ls≠A.lt:=by
 simp only[SAd.fp,zys,zx8,zy4,or_false,not_or] at nd;obtain⟨⟨n1,n2,n3,n4,n5,n6⟩,⟨n7,n8,n9,n10,n11⟩,⟨n12,n13,n14,n15⟩,⟨n16,n17,n18⟩,⟨n19,n20⟩,n21,_⟩:=nd;exact⟨⟨n1,n2,n3,n4,n5,n6⟩,⟨n7,n8,n9,n10,n11⟩,⟨n12,n13,n14,n15⟩,⟨n16,n17,n18⟩,⟨n19,n20⟩,n21⟩
theorem Ak{R:RL}(nd:(R.map (·.1)).Nodup){x y:P3}(hx:x∈R)(hy:y∈R)(h:x.1=y.1):x=y:=by
 induction R with
 | nil=>cases hx
 | cons z R ih =>
   rw[zyf,zys] at nd;rcases zx8.mp hx with e|e<;>rcases zx8.mp hy with e'|e'
   ·rw[e,e']
   ·exact absurd (zya.mpr ⟨y,e',by rw[<- h,e]⟩) nd.1
   ·exact absurd (zya.mpr ⟨x,e,by rw[h,e']⟩) nd.1
   ·exact ih nd.2 e e'
def outV(S:Sea):#[a]:=(S.ppl.filter (pIn S.out (atV S))).map fun x=>V.int x.1
theorem zik(S:Sea):∀ x∈outV S,oneV x:=fun x hx=>by
 unfold outV at hx;obtain⟨m,_,rfl⟩:=zya.mp hx;exact .inr ⟨_,rfl⟩
theorem zjy(hx:x∈S.ppl):inV (.int x.1) (outV S)=pIn S.out (atV S) x:=by
 unfold outV;rw[show ((S.ppl.filter (pIn S.out (atV S))).map fun x=>V.int x.1)=((S.ppl.filter (pIn S.out (atV S))).map (·.1)).map V.int by rw[zzi];rfl,zeg];unfold pIn;by_cases h:(atV S,x.1)∈S.out
 ·rw[zx9 h,zx9];exact zya.mpr ⟨x,zy5.mpr ⟨hx,zx9 h⟩,rfl⟩
 ·rw[zye h,zye];intro z;obtain⟨y,h1,h2⟩:=zya.mp z;have:=of_decide_eq_true (zy5.mp h1).2;rw[h2] at this;exact h this
theorem zl6(S:Sea)(m:P3):((S.ppl.filter (Od S.led m.1 m.2.1 m.2.2 (outV S) S.rest)).map fun x=>V.int x.1)=(Fq S m).map V.int:=by
 unfold Fq;rw[zzi];have:S.ppl.filter (Od S.led m.1 m.2.1 m.2.2 (outV S) S.rest)=S.ppl.filter fun x=>(whyS S.led x.1 x.2.1 x.2.2 m.1 m.2.1 m.2.2 (pIn S.out (atV S) x) S.rest).isEmpty:=by
  refine List.filter_congr fun x hx=>?_;unfold Od;rw[zjy hx]
 rw[this];rfl
theorem atI_last:atI (xs++[x]) (-1)=some x:=by
 have hl:(xs++[x]).length=xs.length+1:=by rw[zx4];rfl
 unfold atI ixN;rw[if_neg ⋯,if_pos ⋯];show (xs++[x])[((-1:Int)+(xs++[x]).length).toNat]?=_;rw[show ((-1:Int)+(xs++[x]).length).toNat=xs.length by omega,zyz (zyc _),Nat.sub_self];rfl
theorem X5.unsnoc{ok:Addr->Prop}{H:Hp}{n:Int}{st:#[H]}:∀ {vs:List V} {G:List (Int×List (Nat×Option Int))},X5 ok H vs (G++[(n,st)])->∃ vs' t l us,vs=vs'++[.ref t]/\H t=#[z,[.int n,.ref l]]/\H l=#[r,us]/\Z8 H us (st.map Vz)/\ok l:=fun {vs G}=>by
 induction G generalizing vs with
 | nil=>
  intro q;have q:X5 ok H vs [(n,st)]:=q;cases q with
  | cons h hl tl o r=>cases r;exact⟨[],_,_,_,rfl,h,hl,tl,o⟩
 | cons x G ih=>
  intro q;have q:X5 ok H vs (x :: (G++[(n,st)])):=q;cases q with
  | cons h hl tl o r=>obtain⟨vs',t,l,us,e,a⟩:=ih r;exact⟨_ :: vs',t,l,us,by rw[e];rfl,a⟩
def Pj(S:Sea):Prop:=(∀ x∈S.ppl,¬ badI x.1 x.2.1 x.2.2)/\S.ppl.length<=30
theorem Pj.small(h:Pj S):∀ x∈S.ppl,Yf x.1:=fun x hx=>by
 have:=h.1 x hx;unfold badI at this;exact Yi ⋯ ⋯
theorem Pj.may(h:Pj S)(nd:(S.ppl.map (·.1)).Nodup)(hm:ms.length<=20):Ph (mayS S ms) (S.ppl.map (·.1)):=by
 refine⟨by unfold mayS;rw[zx1];exact hm,by rw[zx1];exact h.2,nd,fun n hn=>?_,fun r hr=>?_⟩
 ·obtain⟨x,hx,rfl⟩:=zya.mp hn;have:=h.1 x hx;unfold badI at this;omega
 ·unfold mayS at hr;obtain⟨m,_,rfl⟩:=zya.mp hr;unfold Fq;exact⟨nd.sublist (List.Sublist.map _ List.filter_sublist),fun n hn=>by
   obtain⟨x,hx,rfl⟩:=zya.mp hn;exact zya.mpr ⟨x,(zy5.mp hx).1,rfl⟩⟩
section
variable{ca:CA}{H H':Hp}{A:SAd}{S:Sea}
theorem Ib(h:#[E])(hx:x∈A.fp):A.pr≠x/\A.pl≠x:=⟨fun z=>h.np.1 (by rw[z];exact hx),fun z=>h.np.2 (by rw[z];exact hx)⟩
theorem FrS.one(hx:x∈A.fp)(k:∀ b o,H b=#[c]->b≠x->H' b=#[c]):FrS A H H':=fun b o e hb=>k b o e fun z=>hb (by rw[z];exact hx)
theorem Zy.setRos(h:#[E])(r:Xe ca.roster H' A.pr A.dr R)(k:∀ b o,H b=#[c]->b≠A.dr->H' b=#[c]):Zy ca H' A { S with ppl:=R }/\FrS A H H':=by
 have f:FrS A H H':=.one (by simp[SAd.fp]) k;have kt:=h.tups f;have ko:∀ x o,x∉A.fp->H x=#[c]->H' x=#[c]:=fun x o hx e=>f x o e hx;obtain⟨⟨n1,n2,n3,n4,n5,n6⟩,⟨n7,n8,n9,n10,n11⟩,⟨n12,n13,n14,n15⟩,⟨n16,n17,n18⟩,⟨n19,n20⟩,n21⟩:=Fu h.nd;have np:=Ib h (show A.dr∈A.fp by simp[SAd.fp]);obtain⟨⟨dx,v,a1,a2⟩,b,c,⟨kvs,d1,d2⟩,⟨vs,f1,f2⟩,⟨us,g1,g2⟩,nd,np'⟩:=h;exact⟨⟨⟨dx,v,k _ _ a1 n1,a2.keep ko kt⟩,r,c.keep (fun o e=>k _ o e np.2) (fun o e=>k _ o e (Ne.symm n7)) (fun o e=>k _ o e (Ne.symm n8)) kt,⟨kvs,k _ _ d1 (Ne.symm n9),d2⟩,⟨vs,k _ _ f1 (Ne.symm n10),f2.keep ko kt⟩,⟨us,k _ _ g1 (Ne.symm n11),g2.keep ko kt⟩,nd,np'⟩,f⟩
theorem Zy.setOut{out:List (Int×Int)}{kvs:List (List Key×V)}(h:#[E])(hd:H' A.da=#[b,.dT,kvs])(ok:Og kvs out)(k:∀ b o,H b=#[c]->b≠A.da->H' b=#[c]):Zy ca H' A { S with out:=out }/\FrS A H H':=by
 have f:FrS A H H':=.one (by simp[SAd.fp]) k;have kt:=h.tups f;have ko:∀ x o,x∉A.fp->H x=#[c]->H' x=#[c]:=fun x o hx e=>f x o e hx;obtain⟨⟨n1,n2,n3,n4,n5,n6⟩,⟨n7,n8,n9,n10,n11⟩,⟨n12,n13,n14,n15⟩,⟨n16,n17,n18⟩,⟨n19,n20⟩,n21⟩:=Fu h.nd;have np:=Ib h (show A.da∈A.fp by simp[SAd.fp]);obtain⟨⟨dx,v,a1,a2⟩,b,c,⟨kvs',d1,d2⟩,⟨vs,f1,f2⟩,⟨us,g1,g2⟩,nd,np'⟩:=h;exact⟨⟨⟨dx,v,k _ _ a1 n4,a2.keep ko kt⟩,b.keep (fun o e=>k _ o e np.1) (fun o e=>k _ o e n9) kt,c.keep (fun o e=>k _ o e np.2) (fun o e=>k _ o e n13) (fun o e=>k _ o e n16) kt,⟨kvs,hd,ok⟩,⟨vs,k _ _ f1 (Ne.symm n19),f2.keep ko kt⟩,⟨us,k _ _ g1 (Ne.symm n20),g2.keep ko kt⟩,nd,np'⟩,f⟩
theorem Zy.setCur(h:#[E])(hp:∃ dx,H' A.p=some (.ins ca.season dx (seaF A S.len S.rest v)))(sh:ShO ca.sheet (·∉A.fp) H' v cur)(k:∀ b o,H b=#[c]->b≠A.p->H' b=#[c]):Zy ca H' A { S with cur:=cur }/\FrS A H H':=by
 have f:FrS A H H':=.one (by simp[SAd.fp]) k;have kt:=h.tups f;have ko:∀ x o,x∉A.fp->H x=#[c]->H' x=#[c]:=fun x o hx e=>f x o e hx;obtain⟨⟨n1,n2,n3,n4,n5,n6⟩,⟨n7,n8,n9,n10,n11⟩,⟨n12,n13,n14,n15⟩,⟨n16,n17,n18⟩,⟨n19,n20⟩,n21⟩:=Fu h.nd;have np:=Ib h (show A.p∈A.fp by simp[SAd.fp]);obtain⟨⟨dx,v',a1,a2⟩,b,c,⟨kvs',d1,d2⟩,⟨vs,f1,f2⟩,⟨us,g1,g2⟩,nd,np'⟩:=h;obtain⟨dx',hp⟩:=hp;exact⟨⟨⟨dx',v,hp,sh⟩,b.keep (fun o e=>k _ o e np.1) (fun o e=>k _ o e (Ne.symm n1)) kt,c.keep (fun o e=>k _ o e np.2) (fun o e=>k _ o e (Ne.symm n2)) (fun o e=>k _ o e (Ne.symm n3)) kt,⟨kvs',k _ _ d1 (Ne.symm n4),d2⟩,⟨vs,k _ _ f1 (Ne.symm n5),f2.keep ko kt⟩,⟨us,k _ _ g1 (Ne.symm n6),g2.keep ko kt⟩,nd,np'⟩,f⟩
theorem Zy.setStd{std:List (Tp×Option Z3)}{us:#[a]}(h:#[E])(hd:#[w,H',A.lt,us])(ok:Uk ca.sheet (·∉A.fp) H' us std)(k:∀ b o,H b=#[c]->b≠A.lt->H' b=#[c]):Zy ca H' A { S with std:=std }/\FrS A H H':=by
 have f:FrS A H H':=.one (by simp[SAd.fp]) k;have kt:=h.tups f;have ko:∀ x o,x∉A.fp->H x=#[c]->H' x=#[c]:=fun x o hx e=>f x o e hx;obtain⟨⟨n1,n2,n3,n4,n5,n6⟩,⟨n7,n8,n9,n10,n11⟩,⟨n12,n13,n14,n15⟩,⟨n16,n17,n18⟩,⟨n19,n20⟩,n21⟩:=Fu h.nd;have np:=Ib h (show A.lt∈A.fp by simp[SAd.fp]);obtain⟨⟨dx,v,a1,a2⟩,b,c,⟨kvs,d1,d2⟩,⟨vs,f1,f2⟩,⟨us',g1,g2⟩,nd,np'⟩:=h;exact⟨⟨⟨dx,v,k _ _ a1 n6,a2.keep ko kt⟩,b.keep (fun o e=>k _ o e np.1) (fun o e=>k _ o e n11) kt,c.keep (fun o e=>k _ o e np.2) (fun o e=>k _ o e n15) (fun o e=>k _ o e n18) kt,⟨kvs,k _ _ d1 n20,d2⟩,⟨vs,k _ _ f1 n21,f2.keep ko kt⟩,⟨us,hd,ok⟩,nd,np'⟩,f⟩
theorem Zy.setOld{old:List Z3}{us:#[a]}(h:#[E])(hd:#[w,H',A.ls,us])(ok:ShL ca.sheet (·∉A.fp) H' us old)(k:∀ b o,H b=#[c]->b≠A.ls->H' b=#[c]):Zy ca H' A { S with old:=old }/\FrS A H H':=by
 have f:FrS A H H':=.one (by simp[SAd.fp]) k;have kt:=h.tups f;have ko:∀ x o,x∉A.fp->H x=#[c]->H' x=#[c]:=fun x o hx e=>f x o e hx;obtain⟨⟨n1,n2,n3,n4,n5,n6⟩,⟨n7,n8,n9,n10,n11⟩,⟨n12,n13,n14,n15⟩,⟨n16,n17,n18⟩,⟨n19,n20⟩,n21⟩:=Fu h.nd;have np:=Ib h (show A.ls∈A.fp by simp[SAd.fp]);obtain⟨⟨dx,v,a1,a2⟩,b,c,⟨kvs,d1,d2⟩,⟨vs,f1,f2⟩,⟨us',g1,g2⟩,nd,np'⟩:=h;exact⟨⟨⟨dx,v,k _ _ a1 n5,a2.keep ko kt⟩,b.keep (fun o e=>k _ o e np.1) (fun o e=>k _ o e n10) kt,c.keep (fun o e=>k _ o e np.2) (fun o e=>k _ o e n14) (fun o e=>k _ o e n17) kt,⟨kvs,k _ _ d1 n19,d2⟩,⟨us,hd,ok⟩,⟨us',k _ _ g1 (Ne.symm n21),g2.keep ko kt⟩,nd,np'⟩,f⟩
theorem Zy.setLed(h:#[E])(l:Ul ca.ledger H' A.pl A.lr A.ld Rs)(k:∀ b o,H b=#[c]->b≠A.lr->b≠A.ld->H' b=#[c]):Zy ca H' A { S with led:=Rs }/\FrS A H H':=by
 have f:FrS A H H':=fun b o e hb=>k b o e #[ah,hb] #[ah,hb];have kt:=h.tups f;have ko:∀ x o,x∉A.fp->H x=#[c]->H' x=#[c]:=fun x o hx e=>f x o e hx;obtain⟨⟨n1,n2,n3,n4,n5,n6⟩,⟨n7,n8,n9,n10,n11⟩,⟨n12,n13,n14,n15⟩,⟨n16,n17,n18⟩,⟨n19,n20⟩,n21⟩:=Fu h.nd;have np:=Ib h (show A.lr∈A.fp by simp[SAd.fp]);have np2:=Ib h (show A.ld∈A.fp by simp[SAd.fp]);obtain⟨⟨dx,v,a1,a2⟩,b,c,⟨kvs,d1,d2⟩,⟨vs,f1,f2⟩,⟨us',g1,g2⟩,nd,np'⟩:=h;exact⟨⟨⟨dx,v,k _ _ a1 n2 n3,a2.keep ko kt⟩,b.keep (fun o e=>k _ o e np.1 np2.1) (fun o e=>k _ o e n7 n8) kt,l,⟨kvs,k _ _ d1 (Ne.symm n13) (Ne.symm n16),d2⟩,⟨vs,k _ _ f1 (Ne.symm n14) (Ne.symm n17),f2.keep ko kt⟩,⟨us',k _ _ g1 (Ne.symm n15) (Ne.symm n18),g2.keep ko kt⟩,nd,np'⟩,f⟩
theorem Mg:putF "sheet" v' (seaF A l r v)=seaF A l r v':=by
 have n1:¬ (("length":Str)="sheet"):=by decide +kernel
 have n2:¬ (("rest":Str)="sheet"):=by decide +kernel
 have n3:¬ (("roster":Str)="sheet"):=by decide +kernel
 have n4:¬ (("ledger":Str)="sheet"):=by decide +kernel
 have n5:¬ (("absent":Str)="sheet"):=by decide +kernel
 have n6:¬ (("sheets":Str)="sheet"):=by decide +kernel
 simp only[putF,seaF,if_neg n1,if_neg n2,if_neg n3,if_neg n4,if_neg n5,if_neg n6,if_true]
theorem FrS.free(f:FrS A H H')(h:Zy ca H' A S')(hl:H' l=none):H l=none:=by
 cases e:H l with
 | none=>rfl
 | some o =>
   by_cases hm:l∈A.fp
   ·obtain⟨o',e'⟩:=h.there l hm;rw[e'] at hl;cases hl
   ·rw[f l o e hm] at hl;cases hl
theorem ShAt.ins(h:ShAt ca.sheet (·∉A.fp) H q s):∃ dx l1 l2 l3 l4,H q=some (.ins ca.sheet dx (shF l1 l2 l3 l4)):=by
 obtain⟨dx,l1,l2,l3,l4,_,_,_,a1,_⟩:=h;exact⟨dx,l1,l2,l3,l4,a1⟩
theorem Zy.newSheet(h:#[E])(hp:H A.p=some (.ins ca.season dx (seaF A S.len S.rest v)))(sh:ShAt ca.sheet (·∉A.fp) H q s) :
  Zy ca (upd H A.p (.ins ca.season dx (putF "sheet" (.ref q) (seaF A S.len S.rest v)))) A { S with cur:=some s }/\FrS A H (upd H A.p (.ins ca.season dx (putF "sheet" (.ref q) (seaF A S.len S.rest v))))/\ShAt ca.sheet (·∉A.fp) (upd H A.p (.ins ca.season dx (putF "sheet" (.ref q) (seaF A S.len S.rest v)))) q s:=by
 have k:∀ b o,H b=#[c]->b≠A.p->upd H A.p (.ins ca.season dx (putF "sheet" (.ref q) (seaF A S.len S.rest v))) b=#[c]:=fun b o e n=>by rw[Zj n];exact e
 have sh':=sh.keep (H':=upd H A.p (.ins ca.season dx (putF "sheet" (.ref q) (seaF A S.len S.rest v)))) (fun x o hx e=>k x o e #[ah,hx]) fun t xs e=>k t _ e (Y2 e hp (fun z=>nomatch z));obtain⟨h1,h2⟩:=h.setCur (cur:=some s) (v:=.ref q) ⟨dx,by rw[Ze];exact congrArg (fun x=>some (HO.ins ca.season dx x)) Mg⟩ #[q,q,sh'] k;exact⟨h1,h2,sh'⟩
theorem D2:putF "standing" (.ref x) (seaF A l r v)=seaF { A with lt:=x } l r v:=by
 have n1:¬ (("length":Str)="standing"):=by decide +kernel
 have n2:¬ (("rest":Str)="standing"):=by decide +kernel
 have n3:¬ (("roster":Str)="standing"):=by decide +kernel
 have n4:¬ (("ledger":Str)="standing"):=by decide +kernel
 have n5:¬ (("absent":Str)="standing"):=by decide +kernel
 have n6:¬ (("sheets":Str)="standing"):=by decide +kernel
 have n7:¬ (("sheet":Str)="standing"):=by decide +kernel
 simp only[putF,seaF,if_neg n1,if_neg n2,if_neg n3,if_neg n4,if_neg n5,if_neg n6,if_neg n7,if_true]
end
def zil(r q:Nat):Sea:=⟨r,q,[],[],[],[],none,[]⟩
inductive zet(ca:CA)(vs:#[a])(H:Hp)(Q:VK)(E:XK):Prop where
 | mk(p dx:Addr)(r q:Int)(_:vs=[.ref p,.int r,.int q])(_:H p=some (.ins ca.season dx []))(_:Yf r)(_:Yf q)(_:if r<0\/60<r then #[D,ca.out] else if q<0\/10<q then #[D,ca.out] else ∀ A H',A.p=p->Zy ca H' A (zil r.toNat q.toNat)->(∀ b o,H b=some o->b≠p->H' b=some o)->(∀ x∈A.fp,x≠p->H x=none)->Q .non H')
inductive zeu(ca:CA)(vs:#[a])(H:Hp)(Q:VK)(E:XK):Prop where
 | mk(A:SAd)(S:Sea)(n g c:Int)(_:vs=[.ref A.p,.int n,.int g,.int c])(_:#[E])(_:Ag n g c)(_:S.std.length<=1000)(_:S.ppl.length<=1000)(_:if S.len<=S.led.length then #[D,ca.seaOver] else if S.cur.isSome then #[D,ca.drawn] else if badI n g c then #[D,ca.out] else if n∈S.ppl.map (·.1) then #[D,ca.known] else if 30<=S.ppl.length then #[D,ca.many] else if 100<=S.std.length then #[D,ca.manyD] else ∀ H',Zy ca H' A { S with ppl:=S.ppl++[(n,g,c)],std:=S.std++[(((("enrol":Str),n,atV S):Tp),S.cur)] }->FrS A H H'->Q .non H')
def zim(S:Sea)(ms:List P3)(gv:#[a]):Sea:={ S with cur:=some ⟨ms,mayS S ms,gv,[]⟩,std:=S.std++[(((("draw up":Str),(ms.length:Int),atV S):Tp),S.cur)] }
inductive zbi(K:Frag)(ca:CA)(vs:#[a])(H:Hp)(Q:VK)(E:XK):Prop where
 | mk(A:SAd)(S:Sea)(b:Addr)(ts:#[a])(ms:List P3)(_:vs=[.ref A.p,.ref b])(_:#[E])(_:SqL K H b ts)(_:Z8 H ts (ms.map pV))(_:(∀ m∈ms,Fs m))(_:ms.length<=1000)(_:S.std.length<=1000)(_:Pj S)(_:if S.len<=S.led.length then #[D,ca.seaOver] else if S.cur.isSome then #[D,ca.drawn] else (20<ms.length->#[D,ca.manyM])/\(ms.length<=20->Qq ms->#[D,ca.out])/\(ms.length<=20->¬ Qq ms->Qr ms->#[D,ca.same])/\(ms.length<=20->¬ Qq ms->¬ Qr ms->(100<=S.std.length->∀ H',Same H H'->E (.ref ca.manyD) none H')/\(S.std.length<100->∀ l gv H',H' l=some (.lst gv)->Zy ca H' A (zim S ms gv)->Yr (mayS S ms) gv->V3 (mayS S ms) gv->FrS A H H'->H l=none->Q (.ref l) H')))
inductive zbj(ca:CA)(vs:#[a])(H:Hp)(Q:VK)(_:XK):Prop where
 | mk(A:SAd)(S:Sea)(n:Int)(s:Z3)(nu:#[o])(_:vs=[.ref A.p,.int n])(_:#[E])(_:S.cur=some s)(_:Pj S)(_:s.ms.length<=20)(_:(∀ x∈s.gv,oneV x))(_:s.gv.length<=100)(_:s.gaps.length<=500)(_:Ph (mayS S s.ms) nu)(_:(Wa s.gv n=none->∀ l H',H' l=#[r,[]]->Zy ca H' A { S with cur:=some { s with may:=mayS S s.ms } }->FrS A H H'->H l=none->#[I,l]))(_:∀ p,Wa s.gv n=some p->s.gv[p]?=#[l,n]/\(∀ j:Nat,s.gv[j]?=some (.int n)->j=p)/\Yr (mayS S s.ms) (s.gv.set p .non)/\∀ l us st e w H',H' l=#[r,us]->Z8 H' us (st.map Vz)->Xw (mayS S s.ms) (s.gv.set p .non) p st e w->Zy ca H' A { S with cur:=some ⟨s.ms,mayS S s.ms,Yz st (s.gv.set p .non),s.gaps++[(n,st)]⟩ }->FrS A H H'->H l=none->#[I,l])
def X6(S:Sea)(i n:Int):Sea:={ S with out:=S.out++[(i,n)],std:=S.std++[((("away":Str),n,i),S.cur)] }
inductive zin(ca:CA)(vs:#[a])(H:Hp)(Q:VK)(E:XK):Prop where
 | mk(A:SAd)(S:Sea)(i n:Int)(_:vs=[.ref A.p,.int i,.int n])(_:#[E])(_:Yf i)(_:Yf n)(_:S.std.length<=1000)(_:S.out.length<=100000)(_:Pj S)(_:(∀ s,S.cur=some s->s.ms.length<=20/\Yr s.may s.gv/\s.may=mayS S s.ms/\s.gaps.length<=500))(_:if i<1\/(S.len:Int)<i then #[D,ca.noRound] else if i<=S.led.length then #[D,ca.over] else if n∈S.ppl.map (·.1) then (if (i,n)∈S.out then ∀ H',Same H H'->E (.ref ca.away) none H' else if 100<=S.std.length then ∀ H',Same H H'->E (.ref ca.manyD) none H' else (S.cur=none\/atV S<i->∀ l H',H' l=some (.lst [])->Zy ca H' A (X6 S i n)->FrS A H H'->H l=none->Q (.ref l) H')/\(∀ s,i=atV S->S.cur=some s->Wa s.gv n=none->∀ l H',H' l=some (.lst [])->Zy ca H' A { X6 S i n with cur:=some { s with may:=mayS (X6 S i n) s.ms } }->FrS A H H'->H l=none->Q (.ref l) H')/\(∀ s p,i=atV S->S.cur=some s->Wa s.gv n=some p->∀ l us st e w H',H' l=some (.lst us)->Z8 H' us (st.map Vz)->Xw (mayS (X6 S i n) s.ms) (s.gv.set p .non) p st e w->Zy ca H' A { X6 S i n with cur:=some ⟨s.ms,mayS (X6 S i n) s.ms,Yz st (s.gv.set p .non),s.gaps++[(n,st)]⟩ }->FrS A H H'->H l=none->Q (.ref l) H')) else #[D,ca.unk])
theorem Og.put(h:Og kvs out)(i n:Int):Og (putK kvs [inl i,inl n] (.bl true)) (out++[(i,n)]):=by
 refine⟨fun j m=>?_,?_⟩
 ·rw[U5];by_cases e:j=i/\m=n
  ·rw[if_pos (Na.mpr e),zx9 (by rw[e.1,e.2];simp)];rfl
  ·rw[if_neg fun z=>e (Na.mp z),h.1 j m];by_cases hm:(j,m)∈out
   ·rw[zx9 hm,zx9 (zyp _ hm)]
   ·rw[zye hm,zye];intro z;rcases zyd.mp z with q|q
    ·exact hm q
    ·have:=zx6.mp q;exact e (by cases this;exact⟨rfl,rfl⟩)
 ·have:=X4 kvs ([inl i,inl n]:List Key) (.bl true);have:=h.2;rw[zx4];show _<=out.length+1;omega
theorem Og.drop(h:Og kvs (out++[(i,n)]))(hn:(i,n)∉out):Og (Wi kvs [inl i,inl n]) out:=by
 have hv:∀ k:List Key,valV (Wi kvs [inl i,inl n]) k=if k=[inl i,inl n] then none else valV kvs k:=fun k=>by
  clear h
  induction kvs with
  | nil=>unfold Wi;simp[valV]
  | cons x kvs ih =>
    by_cases ex:x.1=[inl i,inl n]
    ·rw[zfn ex,ih];by_cases e:k=[inl i,inl n]
     ·rw[if_pos e,if_pos e]
     ·rw[if_neg e,if_neg e,Xi fun z=>e (z.symm.trans ex)]
    ·rw[zfo ex];by_cases ek:x.1=k
     ·rw[Xs ek,Xs ek,if_neg fun z=>ex (ek.trans z)]
     ·rw[Xi ek,Xi ek,ih]
 refine⟨fun j m=>?_,?_⟩
 ·rw[hv];by_cases e:j=i/\m=n
  ·rw[if_pos (Na.mpr e),zye (by rw[e.1,e.2];exact hn)];rfl
  ·rw[if_neg fun z=>e (Na.mp z),h.1 j m];by_cases hm:(j,m)∈out
   ·rw[zx9 hm,zx9 (zyp _ hm)]
   ·rw[zye hm,zye];intro z;rcases zyd.mp z with q|q
    ·exact hm q
    ·have:=zx6.mp q;exact e (by cases this;exact⟨rfl,rfl⟩)
 ·have h1:=h.1 i n;rw[zx9 (show (i,n)∈out++[(i,n)] by simp)] at h1;have h2:=h.2;rw[zx4] at h2;have h2:kvs.length<=out.length+1:=h2;have h3:(Wi kvs [inl i,inl n]).length<kvs.length:=by
   unfold Wi;rw[List.length_filter_lt_length_iff_exists];obtain⟨v,hv'⟩:=zzh.mp h1;unfold valV at hv';obtain⟨x,hx,_⟩:=zz2.mp hv';refine⟨x,List.mem_of_find?_eq_some hx,?_⟩;have:=List.find?_some hx;intro z;exact of_decide_eq_true z (of_decide_eq_true this)
  omega
theorem Qs(h:Wa gv n=some p):gv[p]?=#[l,n]:=by
 unfold Wa at h;have h2:#[i,gv[p]?=#[b,V.int,n]]=true:=List.find?_some (p:=fun i=>decide (gv[i]?=some (V.int n))) h;exact of_decide_eq_true h2
theorem T7:mayS (X6 S (atV S) n) ms=without (mayS S ms) n:=by
 unfold mayS without;rw[zzi];refine zzo fun m _=>?_;show Fq (X6 S (atV S) n) m=(Fq S m).filter fun x=>#[i,x≠n];unfold Fq;rw[List.filter_map,List.filter_filter]
 congr 1
 refine List.filter_congr fun x _=>?_;show (whyS S.led x.1 x.2.1 x.2.2 m.1 m.2.1 m.2.2 (pIn (S.out++[(atV S,n)]) (atV S) x) S.rest).isEmpty=(#[i,x.1≠n]&&(whyS S.led x.1 x.2.1 x.2.2 m.1 m.2.1 m.2.2 (pIn S.out (atV S) x) S.rest).isEmpty);unfold pIn;by_cases e:x.1=n
 ·have h1:#[i,(atV S,x.1)∈S.out++[(atV S,n)]]=true:=zx9 (by rw[e];simp);rw[h1,zye fun z=>z e,Bool.false_and];unfold whyS bw;simp
 ·have h1:#[i,(atV S,x.1)∈S.out++[(atV S,n)]]=#[i,(atV S,x.1)∈S.out]:=by
   by_cases hm:(atV S,x.1)∈S.out
   ·rw[zx9 hm,zx9 (zyp _ hm)]
   ·rw[zye hm,zye];intro z;rcases zyd.mp z with q|q
    ·exact hm q
    ·have:=zx6.mp q;cases this;exact e rfl
  rw[h1,zx9 e,Bool.true_and]
def Al(S:Sea)(s:Z3):Sea:={ S with led:=S.led++[Ya s],old:=S.old++[s],cur:=none,std:=[] }
inductive zew(ca:CA)(vs:#[a])(H:Hp)(Q:VK)(E:XK):Prop where
 | mk(A:SAd)(S:Sea)(_:vs=[.ref A.p])(_:#[E])(_:2*(tot S.led+1000)<=100000)(_:S.led.length<=1000)(_:S.old.length<=1000)(_:(∀ s,S.cur=some s->(∀ x∈s.gv,oneV x)/\s.gv.length=s.ms.length/\s.ms.length<=1000))(_:if S.len<=S.led.length then #[D,ca.seaOver] else (S.cur=none->E (.ref ca.notDrawn) none H)/\∀ s x H',S.cur=some s->Zy ca H' { A with lt:=x } (Al S s)->FrS A H H'->H x=none->Q (.int (atV S)) H')
theorem Zy.freshStd(h:#[E])(hx:H x=none)(hp:H A.p=some (.ins ca.season dx (seaF A S.len S.rest v)))(hv:ShO ca.sheet (·∉A.fp) H v S.cur)
  (e:H'=upd (upd H x (.lst [])) A.p (.ins ca.season dx (putF "standing" (.ref x) (seaF A S.len S.rest v)))):Zy ca H' { A with lt:=x } { S with std:=[] }/\FrS A H H':=by
 have hpx:A.p≠x:=Zh hp hx;have k:∀ b o,H b=#[c]->b≠A.p->H' b=#[c]:=fun b o q n=>by rw[e,Zj n,Zj (Zh q hx)];exact q
 have f:FrS A H H':=.one (by simp[SAd.fp]) k;have kt:=h.tups f;have hnx:∀ y,(∃ o,H y=some o)->y≠x:=fun y ⟨o,q⟩=>Zh q hx;have okk:∀ y,(∃ o,H' y=some o)->y∉A.fp->(∃ o,H y=some o)->y∉({ A with lt:=x }:SAd).fp:=fun y _ hy hH hm=>by
  simp only[SAd.fp,zx8,zy4,or_false] at hm hy;rcases hm with q|q|q|q|q|q|q
  ·exact hy (.inl q)
  ·exact hy (.inr (.inl q))
  ·exact hy (.inr (.inr (.inl q)))
  ·exact hy (.inr (.inr (.inr (.inl q))))
  ·exact hy (.inr (.inr (.inr (.inr (.inl q)))))
  ·exact hy (.inr (.inr (.inr (.inr (.inr (.inl q))))))
  ·exact hnx y hH q
 have ok2:∀ y,(∃ o,H y=some o)->y∉A.fp->y∉({ A with lt:=x }:SAd).fp:=fun y hH hy hm=>by
  simp only[SAd.fp,zx8,zy4,or_false] at hm hy;rcases hm with q|q|q|q|q|q|q
  ·exact hy (.inl q)
  ·exact hy (.inr (.inl q))
  ·exact hy (.inr (.inr (.inl q)))
  ·exact hy (.inr (.inr (.inr (.inl q))))
  ·exact hy (.inr (.inr (.inr (.inr (.inl q)))))
  ·exact hy (.inr (.inr (.inr (.inr (.inr (.inl q))))))
  ·exact hnx y hH q
 have ko:∀ y o,y∉({ A with lt:=x }:SAd).fp->H y=#[c]->H' y=#[c]:=fun y o hy q=>k y o q #[ah,hy];have there:=h.there;obtain⟨⟨n1,n2,n3,n4,n5,n6⟩,⟨n7,n8,n9,n10,n11⟩,⟨n12,n13,n14,n15⟩,⟨n16,n17,n18⟩,⟨n19,n20⟩,n21⟩:=Fu h.nd;have np:=Ib h (show A.p∈A.fp by simp[SAd.fp]);have npp:=h.np;obtain⟨⟨dx',v',a1,a2⟩,b,c,⟨kvs',d1,d2⟩,⟨vs,f1,f2⟩,⟨us,g1,g2⟩,nd,np'⟩:=h;have hpr:∃ o,H A.pr=#[c]:=by obtain⟨⟨_,_,q,_⟩,_⟩:=b;exact⟨_,q⟩
 have hpl:∃ o,H A.pl=#[c]:=by obtain⟨⟨_,q⟩,_⟩:=c;exact⟨_,q⟩
 refine⟨⟨⟨dx,v,?_,(hv.imp ok2).keep ko kt⟩,b.keep (fun o q=>k _ o q np.1) (fun o q=>k _ o q (Ne.symm n1)) kt,c.keep (fun o q=>k _ o q np.2) (fun o q=>k _ o q (Ne.symm n2)) (fun o q=>k _ o q (Ne.symm n3)) kt,⟨kvs',k _ _ d1 (Ne.symm n4),d2⟩,⟨vs,k _ _ f1 (Ne.symm n5),(f2.imp ok2).keep ko kt⟩,⟨[],?_,?_⟩,?_,⟨ok2 _ hpr npp.1,ok2 _ hpl npp.2⟩⟩,f⟩
 ·rw[e,Ze];exact congrArg (fun z=>some (HO.ins ca.season dx z)) D2
 ·show #[w,H',x,[]];rw[e,Zj (Ne.symm hpx),Ze]
 ·exact .nil
 ·show [A.p,A.dr,A.lr,A.ld,A.da,A.ls,x].Nodup;have m:∀ y∈A.fp,y≠x:=fun y hy=>hnx y (there y hy);simp only[zys,zx8,zy4,or_false,not_or];exact⟨⟨n1,n2,n3,n4,n5,m _ (by simp[SAd.fp])⟩,⟨n7,n8,n9,n10,m _ (by simp[SAd.fp])⟩,⟨n12,n13,n14,m _ (by simp[SAd.fp])⟩,⟨n16,n17,m _ (by simp[SAd.fp])⟩,⟨n19,m _ (by simp[SAd.fp])⟩,m _ (by simp[SAd.fp]),by simp,zzw⟩
def zc6(S:Sea)(d:Tp)(ppl:RL)(out:List (Int×Int)):Prop:=(d.1="enrol"/\(∃ g c,S.ppl=ppl++[(d.2.1,g,c)])/\out=S.out)\/(d.1="away"/\ppl=S.ppl/\S.out=out++[(d.2.2,d.2.1)]/\(d.2.2,d.2.1)∉out)\/(d.1="draw up"/\ppl=S.ppl/\out=S.out)
inductive Qt(ca:CA)(vs:#[a])(H:Hp)(Q:VK)(E:XK):Prop where
 | mk(A:SAd)(S:Sea)(_:vs=[.ref A.p])(_:#[E])(_:(S.std=[]->#[D,ca.nothing]))(_:∀ std d s,S.std=std++[(d,s)]->∃ ppl out,zc6 S d ppl out/\∀ t H',H' t=some (.tup (W2 d))->Zy ca H' A { S with ppl:=ppl,out:=out,cur:=s,std:=std }->FrS A H H'->#[I,t])
inductive Am(ca:CA)(vs:#[a])(H:Hp)(Q:VK)(_:XK):Prop where
 | mk(A:SAd)(S:Sea)(_:vs=[.ref A.p])(_:#[E])(_:S.std.length<=1000)(_:∀ l ts H',H' l=#[r,ts]->Z8 H' ts (S.std.map fun x=>W2 x.1)->#[p]->H l=none->#[I,l])
inductive Fv(ca:CA)(vs:#[a])(H:Hp)(Q:VK)(_:XK):Prop where
 | mk(A:SAd)(S:Sea)(_:vs=[.ref A.p])(_:#[E])(_:#[am,l,S.ppl.map,fun x=>V.int x.1,Q,l])
inductive Bm(ca:CA)(vs:#[a])(H:Hp)(Q:VK)(E:XK):Prop where
 | mk(A:SAd)(S:Sea)(n:Int)(_:vs=[.ref A.p,.int n])(_:#[E])(_:Yf n)(_:(n∉S.ppl.map (·.1)->#[D,ca.unk]))(_:∀ g c t,(n,g,c)∈S.ppl->H t=#[z,[.int g,.int c]]->Q (.ref t) H)
inductive Fw(ca:CA)(vs:#[a])(H:Hp)(Q:VK)(E:XK):Prop where
 | mk(A:SAd)(S:Sea)(i n:Int)(_:vs=[.ref A.p,.int i,.int n])(_:#[E])(_:Yf i)(_:Yf n)(_:if i<1\/(S.len:Int)<i then #[D,ca.noRound] else if n∈S.ppl.map (·.1) then ∀ H',#[p]->Q (.bl (decide ((i,n)∈S.out))) H' else #[D,ca.unk])
def S8(ca:CA)(H:Hp)(S:Sea)(i:Int)(E:XK)(k:Z3->Prop):Prop:=Yf i/\S.old.length=S.led.length/\if i<1\/(S.len:Int)<i then #[D,ca.noRound] else (Wq S i=none->#[D,ca.notDrawn])/\∀ s,Wq S i=some s->k s
inductive Bn(ca:CA)(vs:#[a])(H:Hp)(Q:VK)(E:XK):Prop where
 | mk(A:SAd)(S:Sea)(i:Int)(_:vs=[.ref A.p,.int i])(_:#[E])(_:S8 ca H S i E fun s=>∀ l ts H',H' l=#[r,ts]->Z8 H' ts (s.ms.map pV)->#[p]->H l=none->#[I,l])
inductive zc7(ca:CA)(vs:#[a])(H:Hp)(Q:VK)(E:XK):Prop where
 | mk(A:SAd)(S:Sea)(i:Int)(_:vs=[.ref A.p,.int i])(_:#[E])(_:S8 ca H S i E fun s=>∀ l H',H' l=#[r,s.gv]->#[p]->H l=none->#[I,l])
inductive zbk(ca:CA)(vs:#[a])(H:Hp)(Q:VK)(E:XK):Prop where
 | mk(A:SAd)(S:Sea)(i:Int)(_:vs=[.ref A.p,.int i])(_:#[E])(_:S8 ca H S i E fun s=>(∀ x∈s.gv,oneV x)/\s.gv.length<=100/\∀ l H',H' l=#[R,(Xz s.gv).map,fun i=>V.int (i:Nat)]->#[p]->H l=none->#[I,l])
inductive zkn(ca:CA)(vs:#[a])(H:Hp)(Q:VK)(E:XK):Prop where
 | mk(A:SAd)(S:Sea)(i:Int)(_:vs=[.ref A.p,.int i])(_:#[E])(_:S8 ca H S i E fun s=>(∃ nu,Ph s.may nu)/\Yr s.may s.gv/\za3 s.may s.gv/\∀ t lp lr ps rs H',H' t=#[z,[.ref lp,.ref lr]]->H' lp=#[R,Vg,ps]->H' lr=#[R,rs.map,V.int]->Fl s.may s.gv ps rs->#[p]->H t=none->H lp=none->H lr=none->lp≠lr->#[I,t])
inductive Lo(ca:CA)(vs:#[a])(H:Hp)(Q:VK)(E:XK):Prop where
 | mk(A:SAd)(S:Sea)(i:Int)(_:vs=[.ref A.p,.int i])(_:#[E])(_:S8 ca H S i E fun s=>s.gaps.length<=1000/\∀ l ts H',H' l=#[r,ts]->X5 (fun x=>H x=none/\x≠l) H' ts s.gaps->#[p]->H l=none->#[I,l])
inductive zex(ca:CA)(vs:#[a])(H:Hp)(Q:VK)(E:XK):Prop where
 | mk(A:SAd)(S:Sea)(i n:Int)(_:vs=[.ref A.p,.int i,.int n])(_:#[E])(_:Yf n)(_:S8 ca H S i E fun s=>(∀ x∈s.gv,oneV x)/\s.gv.length<=100/\if n∈S.ppl.map (·.1) then ∀ H',#[p]->Q (oN (Wa s.gv n)) H' else #[D,ca.unk])
inductive zko(ca:CA)(vs:#[a])(H:Hp)(Q:VK)(E:XK):Prop where
 | mk(A:SAd)(S:Sea)(i:Int)(_:vs=[.ref A.p,.int i])(_:#[E])(_:Yf i)(_:(S.cur=none->E (.ref ca.notDrawn) none H))(_:∀ s,S.cur=some s->s.may.length=s.ms.length/\(i<0\/(s.ms.length:Int)<=i->#[D,ca.noMatch])/\∀ (k:Nat) r,i=(k:Int)->s.may[k]?=some r->∀ l H',H' l=#[R,r.map,V.int]->#[p]->H l=none->#[I,l])
inductive Ie(ca:CA)(vs:#[a])(H:Hp)(Q:VK)(E:XK):Prop where
 | mk(A:SAd)(S:Sea)(n i:Int)(_:vs=[.ref A.p,.int n,.int i])(_:#[E])(_:Yf n)(_:Yf i)(_:S.led.length<S.len)(_:S.led.length<=1000)(_:(S.cur=none->E (.ref ca.notDrawn) none H))(_:∀ s,S.cur=some s->(n∉S.ppl.map (·.1)->∀ H',Same H H'->E (.ref ca.unk) none H')/\(n∈S.ppl.map (·.1)->(i<0\/(s.ms.length:Int)<=i->∀ H',Same H H'->E (.ref ca.noMatch) none H')/\∀ (k:Nat) m g c,i=(k:Int)->s.ms[k]?=some m->(n,g,c)∈S.ppl->∀ l H',H' l=some (.lst ((whyS S.led n g c m.1 m.2.1 m.2.2 (pIn S.out (atV S) (n,g,c)) S.rest).map V.str))->Same H H'->H l=none->Q (.ref l) H'))
theorem T8(ks:List Str):∀ {fs:List (Str×V)},fs.map (·.1)=ks->(ks.all fun x=>!#[i,x=f])=true->putF f v fs=fs++[(f,v)]:=by
 intro fs hk h;subst hk
 induction fs with
 | nil=>rfl
 | cons x fs ih =>
   rw[zyf,List.all_cons,zzn,Bool.not_eq_true',decide_eq_false_iff_not] at h;obtain⟨k,y⟩:=x;show (if k=f then _ else _)=_;rw[if_neg h.1,ih h.2];rfl
def sF1(l:V):List (Str×V):=[("length",l)]
def sF2(l r:V):List (Str×V):=[("length",l),("rest",r)]
def sF3(l r a:V):List (Str×V):=[("length",l),("rest",r),("roster",a)]
def sF4(l r a b:V):List (Str×V):=[("length",l),("rest",r),("roster",a),("ledger",b)]
def sF5(l r a b c:V):List (Str×V):=[("length",l),("rest",r),("roster",a),("ledger",b),("absent",c)]
def sF6(l r a b c d:V):List (Str×V):=[("length",l),("rest",r),("roster",a),("ledger",b),("absent",c),("sheets",d)]
def sF7(l r a b c d e:V):List (Str×V):=[("length",l),("rest",r),("roster",a),("ledger",b),("absent",c),("sheets",d),("sheet",e)]
def sF8(l r a b c d e f:V):List (Str×V):=[("length",l),("rest",r),("roster",a),("ledger",b),("absent",c),("sheets",d),("sheet",e),("standing",f)]
theorem pF1:putF "length" l []=sF1 l:=rfl
theorem pF2:putF "rest" r (sF1 l)=sF2 l r:=T8 ["length"] rfl ⋯
theorem pF3:putF "roster" a (sF2 l r)=sF3 l r a:=T8 ["length","rest"] rfl ⋯
theorem pF4:putF "ledger" b (sF3 l r a)=sF4 l r a b:=T8 ["length","rest","roster"] rfl ⋯
theorem pF5:putF "absent" c (sF4 l r a b)=sF5 l r a b c:=T8 ["length","rest","roster","ledger"] rfl ⋯
theorem pF6:putF "sheets" d (sF5 l r a b c)=sF6 l r a b c d:=T8 ["length","rest","roster","ledger","absent"] rfl ⋯
theorem pF7:putF "sheet" e (sF6 l r a b c d)=sF7 l r a b c d e:=T8 ["length","rest","roster","ledger","absent","sheets"] rfl ⋯
theorem pF8:putF "standing" f (sF7 l r a b c d e)=sF8 l r a b c d e f:=T8 ["length","rest","roster","ledger","absent","sheets","sheet"] rfl ⋯
theorem V6.free{p:Addr}{H H':Hp}{x:Addr}(hb:∀ b o,H b=#[c]->b≠p->H' b=#[c])(hp:∃ o,H' p=#[c])(hx:H' x=none):H x=none:=by
 cases e:H x with
 | none=>rfl
 | some o =>
   by_cases z:x=p
   ·subst z;obtain⟨o',q⟩:=hp;rw[q] at hx;cases hx
   ·rw[hb x o e z] at hx;cases hx
def V6(p:Addr)(H H':Hp):Prop:=∀ b o,H b=#[c]->b≠p->H' b=#[c]
theorem V6.trans(a:V6 p H1 H2)(b:V6 p H2 H3):V6 p H1 H3:=fun x o e n=>b x o (a x o e n) n
theorem V6.of(a:Same H1 H2):V6 p H1 H2:=fun x o e _=>a x o e
theorem V6.put:V6 p H (upd H p o):=fun x o e n=>by rw[Zj n];exact e
end G
namespace L2
open PySem PySem.Spec PyProof.Rows
theorem zc8:V2 X (.type "dict") (fun xs H Q=>∃ a kvs,xs=[.ref a]/\Rd H a (.dK kvs)/\∀ p,H p=none->Q (.ref p) (upd H p (.dK kvs))):=by
 intro pins s σ H xs us Q I r h;obtain⟨a,kvs,rfl,ha,q⟩:=h;obtain⟨u,rfl,ru⟩:=Pc r;cases (show u=Value.ref a from ru);exact zhh I ha fun p s' hp I'=>⟨.ref p,_,I',rfl,q p hp⟩
end L2
namespace G
open PySem PySem.Spec PyProof.Rows L2
def Ig:#[o]:=[0,1,2,3,4,5,6,7,8,9,10,0,0,0,1,1,1,2,2,0,1,3]
inductive zbl(K:Frag)(vs:#[a])(H:Hp)(Q:VK)(_:XK):Prop where
 | mk(b:Addr)(ns:#[o])(_:vs=[.ref b])(_:SqL K H b (ns.map V.int))(_:∀ (q:Nat) H',q=(Ig.getD (Xm ns 1%22).toNat 0).toNat->q<=10->#[p]->Q (.int q) H')
def Oi(ns:#[o]):Int:=if Xm ns 0/2%2=0 then 60 else 1+Xm ns 1/22%60
inductive Fx(K:Frag)(vs:#[a])(H:Hp)(Q:VK)(_:XK):Prop where
 | mk(b:Addr)(ns:#[o])(_:vs=[.ref b])(_:SqL K H b (ns.map V.int))(_:∀ (r:Nat) H',r=(Oi ns).toNat->1<=r->r<=60->#[p]->Q (.int r) H')
inductive zbm(K:Frag)(vs:#[a])(H:Hp)(Q:VK)(_:XK):Prop where
 | mk(b:Addr)(ns:#[o])(k:Nat)(_:vs=[.ref b,.int k])(_:SqL K H b (ns.map V.int))(_:k<ns.length)(_:∀ c H',#[p]->Q (.int c) H')
structure Mh(H:Hp)(t lc ln:Addr)(cs nu:#[o]):Prop where
 tup:H t=#[b,.tup,[.ref lc,.ref ln]]
 clubs:H lc=some (.lst (cs.map V.int))
 nums:H ln=some (.lst (nu.map V.int))
 few:3<=cs.length/\cs.length<=10
 cnd:cs.Nodup
 crng:∀ c∈cs,1<=c/\c<=99
 nfew:1<=nu.length/\nu.length<=30
 nnd:nu.Nodup
 nrng:∀ n∈nu,1<=n/\n<=999
theorem Mh.same{H H':Hp}{t lc ln:Addr}{cs nu:#[o]}(h:Mh H t lc ln cs nu)(e:#[p]):Mh H' t lc ln cs nu:=⟨e _ _ h.tup,e _ _ h.clubs,e _ _ h.nums,h.few,h.cnd,h.crng,h.nfew,h.nnd,h.nrng⟩
inductive zbn(K:Frag)(vs:#[a])(H:Hp)(Q:VK)(_:XK):Prop where
 | mk(b:Addr)(ns:#[o])(cr:Nat)(_:vs=[.ref b,.int cr])(_:SqL K H b (ns.map V.int))(_:1<=cr)(_:cr<=30)(_:∀ t lc ln cs nu H',Mh H' t lc ln cs nu->nu.length=cr->#[p]->H t=none->H lc=none->H ln=none->#[I,t])
theorem zbo(c:Int)(hi:i<10)(hj:j<10)(h:C7 c i=C7 c j):i=j:=by
 unfold C7 at h;have hs:B6 c=1\/B6 c=2\/B6 c=5\/B6 c=10\/B6 c=50\/B6 c=97\/B6 c=98:=by
  unfold B6;have h0:0<=c%7:=by omega
  have h1:c%7<7:=by omega
  generalize c%7=r at h0 h1;obtain⟨k,rfl⟩:∃ k:Nat,r=k:=⟨r.toNat,by omega⟩;rw[zyh];have hk:k<7:=by omega
  match k,hk with
  | 0,_=>simp
  | 1,_=>simp
  | 2,_=>simp
  | 3,_=>simp
  | 4,_=>simp
  | 5,_=>simp
  | 6,_=>simp
 generalize c/7=x at h;rcases hs with e|e|e|e|e|e|e<;>rw[e] at h<;>omega +splitMinMax
theorem zbp(c:Int)(hm:m<=10):(Oa c m).Nodup:=by
 unfold Oa;rw[zzs,List.pairwise_map];refine List.Pairwise.imp_of_mem (fun {i j} hi hj (hne:i≠j) z=>?_) (zzs.mp List.nodup_range);exact hne (zbo c (by have:=zza.mp hi;omega) (by have:=zza.mp hj;omega) z)
theorem zf8(c:Int)(m:Nat):∀ n∈Oa c m,1<=n/\n<=99:=fun n hn=>by
 unfold Oa at hn;obtain⟨j,_,rfl⟩:=zya.mp hn;unfold C7;omega
theorem zbq(c:Int)(hm:m<=40):(J5 c m).Nodup:=by
 unfold J5;rw[zzs,List.pairwise_map];refine List.Pairwise.imp_of_mem (fun {i j} hi hj (hne:i≠j) z=>?_) (zzs.mp List.nodup_range);exact hne (zh1 c (by have:=zza.mp hi;omega) (by have:=zza.mp hj;omega) z)
theorem zf9(c:Int)(m:Nat):∀ n∈J5 c m,1<=n/\n<=999:=fun n hn=>by
 unfold J5 at hn;obtain⟨j,_,rfl⟩:=zya.mp hn;unfold zfr;omega
inductive Wj where
 | enrol (n g c:Int)|away (i n:Int)|draw (ms:List P3)|close|back
def Wy(ok:Addr->Prop)(H:Hp)(t:Addr):Wj->Prop
 | .enrol n g c=>H t=#[b,.tup,[.str "enrol",.int n,.int g,.int c]]
 | .away i n=>H t=#[b,.tup,[.str "away",.int i,.int n]]
 | .draw ms=>∃ l ts,H t=#[z,[.str "draw up",.ref l]]/\H l=#[r,ts]/\Z8 H ts (ms.map pV)/\ok l
 | .close=>H t=#[b,.tup,[.str "close"]]
 | .back=>H t=#[b,.tup,[.str "take back"]]
def zio(S:Sea):Prop:=∀ s,S.cur=some s->s.ms.length<=20/\Yr s.may s.gv/\V3 s.may s.gv/\s.may=mayS S s.ms/\s.gaps.length<=S.std.length
def Pk(S S':Sea):Prop:=∃ d:Tp,S'.std=S.std++[(d,S.cur)]/\zc6 S' d S.ppl S.out/\S'.len=S.len/\S'.rest=S.rest/\S'.led=S.led/\S'.old=S.old
def Ih(S:Sea):Wj->Prop
 | .enrol n g c=>S.led.length<S.len/\S.cur=none/\¬ badI n g c/\n∉S.ppl.map (·.1)/\S.ppl.length<30
 | .away i n=>(S.led.length:Int)<i/\i<=S.len/\n∈S.ppl.map (·.1)/\(i,n)∉S.out
 | .draw ms=>S.led.length<S.len/\S.cur=none/\ms.length<=20/\(∀ m∈ms,¬ badM m)/\∀ m∈ms,m.1≠m.2.1
 | .close=>S.led.length<S.len/\S.cur≠none
 | .back=>S.std≠[]
inductive R6(H':Hp)(S:Sea):Wj->Sea->V->Prop where
 | enrol (n g c:Int):R6 H' S (.enrol n g c) { S with ppl:=S.ppl++[(n,g,c)],std:=S.std++[(((("enrol":Str),n,atV S):Tp),S.cur)] } .non
 | awayN {i n:Int} {l:Addr} (h:S.cur=none\/atV S<i) (hl:#[w,H',l,[]]):R6 H' S (.away i n) (X6 S i n) (.ref l)
 | awayF {n:Int} {s:Z3} {l:Addr} (h:S.cur=some s) (hp:Wa s.gv n=none) (hl:#[w,H',l,[]]):R6 H' S (.away (atV S) n) { X6 S (atV S) n with cur:=some { s with may:=mayS (X6 S (atV S) n) s.ms } } (.ref l)
 | awayC {n:Int} {s:Z3} {p e:Nat} {l:Addr} {us:#[a]} {st:#[H]} {w:#[C]} (h:S.cur=some s) (hp:Wa s.gv n=some p) (hl:#[w,H',l,us]) (tl:Z8 H' us (st.map Vz)) (CR:Xw (mayS (X6 S (atV S) n) s.ms) (s.gv.set p .non) p st e w) :
   R6 H' S (.away (atV S) n) { X6 S (atV S) n with cur:=some ⟨s.ms,mayS (X6 S (atV S) n) s.ms,Yz st (s.gv.set p .non),s.gaps++[(n,st)]⟩ } (.ref l)
 | draw {ms:List P3} {gv:#[a]} {l:Addr} (hl:#[w,H',l,gv]) (F:Yr (mayS S ms) gv) (T:V3 (mayS S ms) gv):R6 H' S (.draw ms) (zim S ms gv) (.ref l)
 | close {s:Z3} (h:S.cur=some s):R6 H' S .close (Al S s) (.int (atV S))
 | back {S0:Sea} {d:Tp} {t:Addr} (h:S.std=S0.std++[(d,S0.cur)]) (ht:H' t=some (.tup (W2 d))) (hs:Pk S0 S):R6 H' S .back S0 (.ref t)
def Fy(A A':SAd)(H:Hp):Prop:=∃ x,A'={ A with lt:=x }/\(x=A.lt\/H x=none)
inductive zl7(K:Frag)(ca:CA)(vs:#[a])(H:Hp)(Q:VK)(_:XK):Prop where
 | mk(A:SAd)(S:Sea)(t:Addr)(d:Wj)(_:vs=[.ref A.p,.ref t])(_:#[E])(_:Wy (·∉A.fp) H t d)(_:Ih S d)(_:zio S)(_:Pj S)(_:S.std.length<100)(_:S.out.length<=100000)(_:2*(tot S.led+1000)<=100000)(_:S.led.length<=1000)(_:S.old.length<=1000)(_:S.len<=1000)(_:(∀ i n,d=.away i n->Yf n))(_:(d=.back->∃ S0,Pk S0 S))(_:∀ v A' S' H',R6 H' S d S' v->Zy ca H' A' S'->Fy A A' H->FrS A H H'->(∀ l,v=.ref l->(∃ xs,H' l=some (.lst xs))->H l=none)->Q v H')
abbrev Xy(b:List Stmt)(i:Nat):Stmt:=b.getD i (.Pass ⟨0,0,0,0⟩)
def zjz:Stmt->Expr|.Return (some e) _=>e|_=>.Constant .none 0 ⟨0,0,0,0⟩
def stP:Stmt->Pos|.Return _ p=>p|.Assign _ _ p=>p|_=>⟨0,0,0,0⟩
def ziq:Stmt->List Expr|.Assign ts _ _=>ts|_=>[]
def Nj:Stmt->Expr|.Assign _ v _=>v|_=>.Constant .none 0 ⟨0,0,0,0⟩
def zbr:Expr->Expr|.Subscript a _ _=>a|e=>e
def zj0:Expr->Expr|.Subscript _ b _=>b|e=>e
def zj1:Expr->Pos|.Subscript _ _ p=>p|_=>⟨0,0,0,0⟩
def zga:Expr->List Expr|.List es _=>es|_=>[]
def zgb:Expr->Pos|.List _ p=>p|_=>⟨0,0,0,0⟩
def Ii:#[o]->TA
 | []=>Iu
 | x :: xs=>Jy (tC (.int x)) (Ii xs)
theorem Bo:∀ (xs:List Int) (σ:L2.St) (H:Hp) (Q:List V->Hp->Prop),Q (xs.map V.int) H->Ii xs σ H Q
 | [],_,_,_,h=>h
 | x :: xs,σ,H,Q,h=>Bo xs σ H (fun ys H2=>Q (.int x :: ys) H2) h
structure F3(es:List Expr)(xs:#[o]):Prop where
 len:es.length=xs.length
 same:List.zipWith (fun i (e:Expr)=>Expr.Constant (.int i) 0 e.pos) xs es=es
theorem Nf(xs:#[o])(h:F3 es xs):PA X es (Ii xs):=by
 obtain⟨h1,h2⟩:=h
 induction xs generalizing es with
 | nil =>
   have:=zze.mp h1;subst this;exact Zb
 | cons x xs ih =>
   cases es with
   | nil=>cases h1
   | cons e es =>
     rw[List.zipWith_cons_cons] at h2;obtain⟨e1,e2⟩:=List.cons.inj h2;rw[<- e1];exact Za Zf (ih (Nat.succ.inj h1) e2) rfl
theorem zbs(xs:#[o])(hz:xs.length<=1000)(h:∀ l,H l=none->Q (.ref l) (upd H l (.lst (xs.map V.int)))):zck (Ii xs) σ H Q:=by
 refine Bo xs σ H _ ⟨?_,h⟩;rw[zx1];exact szN hz
theorem zey{K:Frag}(xs:#[o]){ti:TE}{σ:L2.St}{H:Hp}{Q:VK}(hz:xs.length<=1000)(h:∀ l H1,H1 l=#[R,xs.map,V.int]->Same H H1->H l=none->ti σ H1 fun y H2=>Bw K (.ref l) y H2 Q):tOp (Bw K) (zck (Ii xs)) ti σ H Q :=
 zbs xs hz fun l hl=>h l _ Ze (Zk hl) hl
theorem zl8{K:Frag}(xs:#[o]){ti:TE}{D:Pq}{σ:L2.St}{H:Hp}(hz:xs.length<=1000)(h:∀ l H1,H1 l=#[R,xs.map,V.int]->Same H H1->H l=none->ti σ H1 fun y H2=>Bw K (.ref l) y H2 D.rt):zml (tOp (Bw K) (zck (Ii xs)) ti) D σ H:=zey (Q:=D.rt) xs hz h
theorem zl9{K:Frag}(xs:#[o]){ti:TE}{i:Nat}{u:TS}{D:Pq}{σ:L2.St}{H:Hp}(hz:xs.length<=1000)(h:∀ l H1,H1 l=#[R,xs.map,V.int]->Same H H1->H l=none->ti σ H1 fun y H2=>Bw K (.ref l) y H2 fun x H3=>u D (σ.set i (some x)) H3):Z0 (ze6 (tOp (Bw K) (zck (Ii xs)) ti) (Wu i)) u D σ H:=zey xs hz h
theorem zbt(xs:#[o])(hz:xs.length<=1000)(h:∀ l H1,H1 l=#[R,xs.map,V.int]->Same H H1->H l=none->u D (σ.set i #[d,l]) H1):Z0 (ze6 (zck (Ii xs)) (Wu i)) u D σ H :=
 zbs (σ:=σ) (H:=H) (Q:=fun x H3=>u D (σ.set i (some x)) H3) xs hz fun l hl=>h l _ Ze (Zk hl) hl
theorem zc9:#[i,V.str a=V.str a]=true:=zx9 rfl
theorem Nk(h:#[i,a=b]=false):#[i,V.str a=V.str b]=false:=zye fun z=>of_decide_eq_false h (V.str.inj z)
theorem Fy.refl(A:SAd)(H:Hp):Fy A A H:=#[q,A.lt,.inl rfl]
abbrev zir:=List (Int×#[H])
structure Pg where
 len:Nat
 rest:Nat
 ppl:RL
 out:List (Int×Int)
 over:List Z3
 deed:Option Tp
 lis:Option (List P3)
 gv:#[a]
 mv:zir
def pgF(len rest:Nat)(lp lo lv:Addr)(dv li:V)(lg lm:Addr):#[N]:=[(.inr "rounds",.int len),(.inr "rest",.int rest),(.inr "people",.ref lp),(.inr "out",.ref lo),(.inr "over",.ref lv),(.inr "deed",dv),(.inr "listed",li),(.inr "goes",.ref lg),(.inr "moves",.ref lm)]
def oiV(x:Int×Int):#[a]:=[.int x.1,.int x.2]
def Lp(ok:Addr->Prop)(H:Hp)(v:V):Option (List P3)->Prop
 | none=>v=.non
 | some ms=>∃ l ts,v=.ref l/\H l=#[r,ts]/\Z8 H ts (ms.map pV)/\ok l
def zbu(H:Hp)(v:V):Option Tp->Prop
 | none=>v=.non
 | some d=>∃ t,v=.ref t/\H t=some (.tup (W2 d))
inductive Xf(ok:Addr->Prop)(H:Hp):#[a]->List Z3->Prop where
 | nil:Xf ok H [] []
 | cons {t l g m y:Addr} {ts mts:#[a]} {ls:#[t]} {s:Z3} {vs:#[a]} {ss:List Z3} (h:H t=#[b,.tup,[.ref l,.ref g,.ref m,.ref y]]) (hl:#[w,H,l,ts]) (tl:Z8 H ts (s.ms.map pV)) (hg:#[w,H,g,s.gv]) (hm:#[w,H,m,mts]) (gm:X5 ok H mts s.gaps)
   (hy:#[ad,y]) (iy:ILs H ls s.may) (o:ok l/\ok g/\ok m/\ok y/\∀ x∈ls,ok x) (r:Xf ok H vs ss):Xf ok H (.ref t :: vs) (s :: ss)
theorem Lp.keep(h:Lp ok H v x)(k:∀ x o,ok x->H x=#[c]->H' x=#[c])(kt:#[Z]):Lp ok H' v x:=by
 cases x with
 | none=>exact h
 | some ms=>obtain⟨l,ts,e,a,b,o⟩:=h;exact⟨l,ts,e,k _ _ o a,b.mono kt,o⟩
theorem Lp.imp(h:Lp ok H v x)(k:#[al]):Lp ok' H v x:=by
 cases x with
 | none=>exact h
 | some ms=>obtain⟨l,ts,e,a,b,o⟩:=h;exact⟨l,ts,e,a,b,k _ ⟨_,a⟩ o⟩
theorem zbu.keep(h:zbu H v x)(kt:#[Z]):zbu H' v x:=by
 cases x with
 | none=>exact h
 | some d=>obtain⟨t,e,a⟩:=h;exact⟨t,e,kt _ _ a⟩
theorem Xf.keep(k:∀ x o,ok x->H x=#[c]->H' x=#[c])(kt:#[Z]):∀ {vs:List V} {ss:List Z3},Xf ok H vs ss->Xf ok H' vs ss
 | _,_,.nil=>.nil
 | _,_,.cons h hl tl hg hm gm hy iy o r=>.cons (kt _ _ h) (k _ _ o.1 hl) (tl.mono kt) (k _ _ o.2.1 hg) (k _ _ o.2.2.1 hm) (gm.keep k kt) (k _ _ o.2.2.2.1 hy) (iy.keep fun x hx _ q=>k _ _ (o.2.2.2.2 x hx) q) o (Xf.keep k kt r)
theorem Xf.imp(k:#[al]):∀ {vs:List V} {ss:List Z3},Xf ok H vs ss->Xf ok' H vs ss
 | _,_,.nil=>.nil
 | _,_,.cons h hl tl hg hm gm hy iy o r=>.cons h hl tl hg hm (gm.imp k) hy iy ⟨k _ ⟨_,hl⟩ o.1,k _ ⟨_,hg⟩ o.2.1,k _ ⟨_,hm⟩ o.2.2.1,k _ ⟨_,hy⟩ o.2.2.2.1,fun x hx=>k _ (let ⟨_,z⟩:=iy.has hx;⟨_,z⟩) (o.2.2.2.2 x hx)⟩ (Xf.imp k r)
theorem Xf.length:∀ {vs:List V} {ss:List Z3},Xf ok H vs ss->vs.length=ss.length
 | _,_,.nil=>rfl
 | _,_,.cons _ _ _ _ _ _ _ _ _ r=>by simp[Xf.length r]
theorem Xf.snoc(h:H t=#[b,.tup,[.ref l,.ref g,.ref m,.ref y]])(hl:#[w,H,l,ts])(tl:Z8 H ts (s.ms.map pV))(hg:#[w,H,g,s.gv])(hm:#[w,H,m,mts])(gm:X5 ok H mts s.gaps)
   (hy:#[ad,y]) (iy:ILs H ls s.may) (o:ok l/\ok g/\ok m/\ok y/\∀ x∈ls,ok x):∀ {vs:List V} {ss:List Z3},Xf ok H vs ss->Xf ok H (vs++[.ref t]) (ss++[s])
 | _,_,.nil=>.cons h hl tl hg hm gm hy iy o .nil
 | _,_,.cons h' hl' tl' hg' hm' gm' hy' iy' o' r=>.cons h' hl' tl' hg' hm' gm' hy' iy' o' (Xf.snoc h hl tl hg hm gm hy iy o r)
theorem Xf.get:∀ {vs:List V} {ss:List Z3} {i:Nat} {x:V},Xf ok H vs ss->vs[i]?=some x->∃ t l g m y ts s,x=.ref t/\ss[i]?=some s/\H t=#[z,[.ref l,.ref g,.ref m,.ref y]]/\H l=#[r,ts]/\Z8 H ts (s.ms.map pV)/\H g=#[r,s.gv]/\ok l/\ok g
 | _,_,_,_,.nil,e=>by simp at e
 | _,_,0,_,.cons h hl tl hg _ _ _ _ o _,e=>by simp at e;subst e;exact⟨_,_,_,_,_,_,_,rfl,rfl,h,hl,tl,hg,o.1,o.2.1⟩
 | _,_,i+1,x,.cons _ _ _ _ _ _ _ _ _ r,e=>by
   obtain⟨t,l,g,m,y,ts,s,h1,h2,h3⟩:=Xf.get (i:=i) (x:=x) r (by simpa using e);exact⟨t,l,g,m,y,ts,s,h1,by simpa using h2,h3⟩
structure PgAt(ok:Addr->Prop)(H:Hp)(d:Addr)(P:Pg):Prop where
 ex:∃ lp lo lv dv li lg lm pts ots vts mts,H d=#[b,.dK,pgF P.len P.rest lp lo lv dv li lg lm]/\H lp=#[r,pts]/\Z8 H pts (P.ppl.map pV)/\H lo=#[r,ots]/\Z8 H ots (P.out.map oiV)/\H lv=#[r,vts]/\Xf ok H vts P.over/\zbu H dv P.deed/\Lp ok H li P.lis/\H lg=#[r,P.gv]/\H lm=#[r,mts]/\X5 ok H mts P.mv /\
  (ok d/\ok lp/\ok lo/\ok lv/\ok lg/\ok lm)
theorem PgAt.keep(h:PgAt ok H d P)(k:∀ x o,ok x->H x=#[c]->H' x=#[c])(kt:#[Z]):PgAt ok H' d P:=by
 obtain⟨lp,lo,lv,dv,li,lg,lm,pts,ots,vts,mts,a1,a2,a3,a4,a5,a6,a7,a8,a9,b1,b2,b3,o1,o2,o3,o4,o5,o6⟩:=h;exact⟨lp,lo,lv,dv,li,lg,lm,pts,ots,vts,mts,k _ _ o1 a1,k _ _ o2 a2,a3.mono kt,k _ _ o3 a4,a5.mono kt,k _ _ o4 a6,a7.keep k kt,a8.keep kt,a9.keep k kt,k _ _ o5 b1,k _ _ o6 b2,b3.keep k kt,o1,o2,o3,o4,o5,o6⟩
theorem PgAt.imp(h:PgAt ok H d P)(k:#[al]):PgAt ok' H d P:=by
 obtain⟨lp,lo,lv,dv,li,lg,lm,pts,ots,vts,mts,a1,a2,a3,a4,a5,a6,a7,a8,a9,b1,b2,b3,o1,o2,o3,o4,o5,o6⟩:=h;exact⟨lp,lo,lv,dv,li,lg,lm,pts,ots,vts,mts,a1,a2,a3,a4,a5,a6,a7.imp k,a8,a9.imp k,b1,b2,b3.imp k,k _ ⟨_,a1⟩ o1,k _ ⟨_,a2⟩ o2,k _ ⟨_,a4⟩ o3,k _ ⟨_,a6⟩ o4,k _ ⟨_,b1⟩ o5,k _ ⟨_,b2⟩ o6⟩
theorem PgAt.same(h:PgAt ok H d P)(e:#[p]):PgAt ok H' d P:=h.keep (fun _ _ _ q=>e _ _ q) fun _ _ q=>e _ _ q
section
variable{len rest:Nat}{lp lo lv lg lm:Addr}{dv li:V}
theorem zda:putK (pgF len rest lp lo lv dv li lg lm) (.inr "people") (.ref x)=pgF len rest x lo lv dv li lg lm:=rfl
theorem zj2:putK (pgF len rest lp lo lv dv li lg lm) (.inr "out") (.ref x)=pgF len rest lp x lv dv li lg lm:=rfl
theorem zis:putK (pgF len rest lp lo lv dv li lg lm) (.inr "over") (.ref x)=pgF len rest lp lo x dv li lg lm:=rfl
theorem F5:putK (pgF len rest lp lo lv dv li lg lm) (.inr "deed") v=pgF len rest lp lo lv v li lg lm:=rfl
theorem F6:putK (pgF len rest lp lo lv dv li lg lm) (.inr "listed") v=pgF len rest lp lo lv dv v lg lm:=rfl
theorem zbv:putK (pgF len rest lp lo lv dv li lg lm) (.inr "goes") (.ref x)=pgF len rest lp lo lv dv li x lm:=rfl
theorem Bp:putK (pgF len rest lp lo lv dv li lg lm) (.inr "moves") (.ref x)=pgF len rest lp lo lv dv li lg x:=rfl
end
theorem zdb{len rest:Nat}{lp lo lv lg lm:Addr}{dv li:V}:(pgF len rest lp lo lv dv li lg lm).length<sizeLine:=by rw[sizeLine_eq];show 9<_;decide
def pg6(len rest:Nat)(lp lo lv:Addr)(dv:V):#[N]:=[(.inr "rounds",.int len),(.inr "rest",.int rest),(.inr "people",.ref lp),(.inr "out",.ref lo),(.inr "over",.ref lv),(.inr "deed",dv)]
theorem zgc{len rest:Nat}{lp lo lv:Addr}{dv:V}:Uo [] (pg6 len rest lp lo lv dv)=pg6 len rest lp lo lv dv:=rfl
theorem zj3{len rest:Nat}{lp lo lv:Addr}{dv x y z:V}:putK (putK (putK (pg6 len rest lp lo lv dv) (.inr "listed") x) (.inr "goes") y) (.inr "moves") z=pg6 len rest lp lo lv dv++[(.inr "listed",x),(.inr "goes",y),(.inr "moves",z)]:=rfl
theorem K7{len rest:Nat}{lp lo lv:Addr}{dv x y:V}:(pg6 len rest lp lo lv dv).length<sizeLine/\(putK (pg6 len rest lp lo lv dv) (.inr "listed") x).length<sizeLine/\(putK (putK (pg6 len rest lp lo lv dv) (.inr "listed") x) (.inr "goes") y).length<sizeLine:=by
 rw[sizeLine_eq];exact⟨by show 6<_;decide,by show 7<_;decide,by show 8<_;decide⟩
def zdc(r q:Nat):Pg:=⟨r,q,[],[],[],none,none,[],[]⟩
inductive zez(vs:#[a])(H:Hp)(Q:VK)(_:XK):Prop where
 | mk(r q:Nat)(_:vs=[.int r,.int q])(_:∀ d H',PgAt (fun x=>H x=none) H' d (zdc r q)->#[p]->H d=none->#[I,d])
def K8(P:Pg):Prop:=P.over.length<=100/\P.rest<=100/\∀ s∈P.over,s.ms.length<=20/\s.gv.length=s.ms.length/\∀ x∈s.gv,oneV x
def zit(kvs:List (List Key×V))(P:Pg):Prop:=∀ n c:Int,(valV kvs [inl n,inl c]).isSome=S5 (P.over.map Ya) n c P.rest
inductive An(K:Frag)(vs:#[a])(H:Hp)(Q:VK)(_:XK):Prop where
 | mk(ok:Addr->Prop)(d:Addr)(P:Pg)(_:vs=[.ref d])(_:PgAt ok H d P)(_:K8 P)(_:∀ m kvs H',H' m=#[b,.dT,kvs]->zit kvs P->#[p]->H m=none->#[I,m])
theorem ziu(xs:#[a])(n r:Nat):Ks xs (some (if ((n:Int)-r)>0 then (n:Int)-r else 0)) none=xs.drop ((n:Int)-r).toNat:=by
 have e:(if ((n:Int)-r)>0 then (n:Int)-r else 0)=((((n:Int)-r).toNat:Nat):Int):=by split<;>omega
 rw[e];exact zfy xs _
theorem Xf.drop:∀ (k:Nat) {vs:List V} {ss:List Z3},Xf ok H vs ss->Xf ok H (vs.drop k) (ss.drop k)
 | 0,_,_,h=>h
 | _+1,_,_,.nil=>.nil
 | k+1,_,_,.cons _ _ _ _ _ _ _ _ _ r=>Xf.drop k r
def HitI(ss:List Z3)(i j:Nat)(n c:Int):Prop:=(∃ s∈ss.take i,∃ r∈Ya s,hit n c r=true)\/∃ s,ss[i]?=some s/\∃ r∈(Ya s).take j,hit n c r=true
def Mi(kvs:List (List Key×V))(ss:List Z3)(i j:Nat):Prop:=∀ n c:Int,(valV kvs [inl n,inl c]).isSome=true↔HitI ss i j n c
theorem Xq{α:Type}{l:List α}{j:Nat}{x:α}(h:l[j]?=some x):l.take (j+1)=l.take j++[x]:=by rw[zzd,h];rfl
theorem Mi.zero(ss:List Z3):Mi [] ss 0 0:=fun n c=>by
 unfold HitI;simp[zg9]
theorem Mi.next{kvs:List (List Key×V)}{ss:List Z3}{i:Nat}{s:Z3}(h:Mi kvs ss i (Ya s).length)(hs:ss[i]?=some s):Mi kvs ss (i+1) 0:=fun n c=>by
 rw[h n c];unfold HitI;rw[Xq hs,hs];constructor
 ·rintro(⟨s',h1,h2⟩|⟨s',h1,r,h2,h3⟩)
  ·exact .inl ⟨s',zyp _ h1,h2⟩
  ·cases h1;exact .inl ⟨s,zyq _ (zz1 _),r,zzx h2,h3⟩
 ·rintro(⟨s',h1,r,h2,h3⟩|⟨s',h1,r,h2,h3⟩)
  ·rcases zyd.mp h1 with h1|h1
   ·exact .inl ⟨s',h1,r,h2,h3⟩
   ·cases zx6.mp h1;exact .inr ⟨_,rfl,r,by rw[zyi];exact h2,h3⟩
  ·simp at h2
theorem HitI.succ{ss:List Z3}{i j:Nat}{n c:Int}{s:Z3}{r:Row}(hs:ss[i]?=some s)(hr:(Ya s)[j]?=some r):HitI ss i (j+1) n c↔HitI ss i j n c\/hit n c r=true:=by
 unfold HitI;rw[hs];constructor
 ·rintro(z|⟨s',h1,r',h2,h3⟩)
  ·exact .inl (.inl z)
  ·cases h1;rw[Xq hr] at h2;rcases zyd.mp h2 with h2|h2
   ·exact .inl (.inr ⟨_,rfl,r',h2,h3⟩)
   ·cases zx6.mp h2;exact .inr h3
 ·rintro((z|⟨s',h1,r',h2,h3⟩)|z)
  ·exact .inl z
  ·cases h1;exact .inr ⟨_,rfl,r',by rw[Xq hr];exact zyp _ h2,h3⟩
  ·exact .inr ⟨_,rfl,r,by rw[Xq hr];exact zyq _ (zz1 _),z⟩
theorem Mi.none(h:Mi kvs ss i j)(hs:ss[i]?=some s)(hr:(Ya s)[j]?=some r)(hw:r.w=none):Mi kvs ss i (j+1):=fun n c=>by
 rw[h n c,HitI.succ hs hr];unfold hit;rw[hw];simp
theorem Mi.some(h:Mi kvs ss i j)(hs:ss[i]?=some s)(hr:(Ya s)[j]?=some r)(hw:r.w=some w):Mi (putK (putK kvs [inl w,inl r.h] v) [inl w,inl r.g] v') ss i (j+1):=fun n c=>by
 rw[HitI.succ hs hr,<- h n c,U5,U5];unfold hit;rw[hw];by_cases e1:([inl n,inl c]:List Key)=[inl w,inl r.g]
 ·rw[if_pos e1];have:=e1;simp at this;obtain⟨rfl,rfl⟩:=this;simp
 ·rw[if_neg e1];by_cases e2:([inl n,inl c]:List Key)=[inl w,inl r.h]
  ·rw[if_pos e2];have:=e2;simp at this;obtain⟨rfl,rfl⟩:=this;simp
  ·rw[if_neg e2];constructor
   ·exact .inl
   ·rintro(z|z)
    ·exact z
    ·exfalso
     simp at z e1 e2;obtain⟨z1,z2|z2⟩:=z
     ·exact e2 z1.symm z2.symm
     ·exact e1 z1.symm z2.symm
theorem Mi.all(h:Mi kvs (P.over.drop k) (P.over.drop k).length 0)(hk:k=((P.over.length:Int)-P.rest).toNat):zit kvs P:=fun n c=>by
 apply z0d.mpr;rw[h n c,zfx (Int.natCast_nonneg _),zx1,<- hk,<- List.map_drop];unfold HitI;rw[zyi];constructor
 ·rintro(⟨s,h1,h2⟩|⟨s,h1,r,h2,_⟩)
  ·exact⟨Ya s,zya.mpr ⟨s,h1,rfl⟩,h2⟩
  ·simp at h2
 ·rintro⟨rs,h1,h2⟩;obtain⟨s,h3,rfl⟩:=zya.mp h1;exact .inl ⟨s,h3,h2⟩
end G
namespace L2
open PySem PySem.Spec PyProof.Rows G
def Um(x:Int×Int):Dt:=.tup [.int x.1,.int x.2]
theorem F7{K:Frag}{H:Hp}:∀ {ts:List V} {ps:List (Int×Int)},Z8 H ts (ps.map oiV)->S4 K H ts (ps.map Um)
 | _,[],h=>by cases h;exact .nil
 | _,p :: ps,h=>by
   rw[zyf] at h;cases h with
   | cons e r=>exact .cons (.tup (SqT.of e) (.cons (.int _) (.cons (.int _) .nil))) (F7 r)
theorem K9:∀ ps:List (Int×Int),PyData.canLayAll0 (Wl (ps.map Um))=true
 | []=>rfl
 | p :: ps=>by
   rw[zyf,Wl,PyData.canLayAll0,K9 ps];rfl
theorem Ja:∀ ps:List (Int×Int),((Wl (ps.map Um)).any fun y=>PyData.eqv y (toPy (Um (a,b))))=decide ((a,b)∈ps)
 | []=>by simp[Wl]
 | p :: ps=>by
   rw[zyf,Wl,zz7,Ja ps,Ld];obtain⟨p1,p2⟩:=p;have e:eqD (Um (p1,p2)) (Um (a,b))=#[i,(a,b)=(p1,p2)]:=by
    rw[Um,Um,eqD,Kv,Kv,Kv,eqD,eqD];by_cases h1:p1=a
    ·by_cases h2:p2=b
     ·subst h1;subst h2;simp
     ·rw[zye fun z=>h2 (Prod.mk.inj z).2.symm];simp[h2]
    ·rw[zye fun z=>h1 (Prod.mk.inj z).1.symm];simp[h1]
   rw[e,<- Bool.decide_or];exact decide_eq_decide.mpr zx8.symm
inductive zj4(K:Frag)(neg:Bool)(x:V)(y:V)(H:Hp)(Q:VK):Prop where
 | mk(t p:Addr)(ts:#[a])(a b:Int)(ps:List (Int×Int))(_:x=.ref t)(_:y=.ref p)(_:SqT K H t [.int a,.int b])(_:SqL K H p ts)(_:Z8 H ts (ps.map oiV))(_:Q (.bl (if neg then !#[i,(a,b)∈ps] else #[i,(a,b)∈ps])) H)
section
variable{X:Cx}{K:Frag}
theorem zbw(hu:X.A.units+64<cLine):OpR X (compareOp .In) (zj4 X.K false):=by
 intro pins s σ H x y v u Q I rx ry h;obtain⟨t,p,ts,a,b,ps,rfl,rfl,ht,hp,tl,q⟩:=h;obtain⟨as,r1⟩:=Is.reads I (Is.tup ht (.cons (.int a) (.cons (.int b) .nil)):Is X.K H (.ref t) (Um (a,b))) rx;have r1:Reads s.heap v (toPy (Um (a,b))) as:=r1;obtain⟨bs,r2⟩:=Is.reads I (Is.lst hp (F7 tl)) ry;rw[toPy] at r2;have hd:(toPy (Um (a,b))).depth=1:=rfl;refine SeqAt.in_list_reads r2 r1 (K9 ps) rfl ?_ ?_
 ·have:=Nat.min_le_right (PyData.depthAll (Wl (ps.map Um))) (toPy (Um (a,b))).depth;rw[hd] at this ⊢;omega
 ·rw[Ja];exact⟨.bl _,H,I,rfl,q⟩
theorem F8(hu:X.A.units+64<cLine):OpR X (compareOp .NotIn) (zj4 X.K true):=by
 intro pins s σ H x y v u Q I rx ry h;obtain⟨t,p,ts,a,b,ps,rfl,rfl,ht,hp,tl,q⟩:=h;obtain⟨as,r1⟩:=Is.reads I (Is.tup ht (.cons (.int a) (.cons (.int b) .nil)):Is X.K H (.ref t) (Um (a,b))) rx;have r1:Reads s.heap v (toPy (Um (a,b))) as:=r1;obtain⟨bs,r2⟩:=Is.reads I (Is.lst hp (F7 tl)) ry;rw[toPy] at r2;have hd:(toPy (Um (a,b))).depth=1:=rfl;refine SeqAt.notIn_list_reads r2 r1 (K9 ps) rfl ?_ ?_
 ·have:=Nat.min_le_right (PyData.depthAll (Wl (ps.map Um))) (toPy (Um (a,b))).depth;rw[hd] at this ⊢;omega
 ·rw[Ja];exact⟨.bl _,H,I,rfl,q⟩
theorem Lq(hK:X.K=K)(hu:X.A.units+64<cLine):OpR X (compareOp .In) (zj4 K false):=hK▸zbw hu
theorem Iy(hK:X.K=K)(hu:X.A.units+64<cLine):OpR X (compareOp .NotIn) (zj4 K true):=hK▸F8 hu
end
end L2
namespace G
open PySem PySem.Spec PyProof.Rows L2
def whyP(P:Pg)(x m:P3):List Str:=whyS (P.over.map Ya) x.1 x.2.1 x.2.2 m.1 m.2.1 m.2.2 #[i,((P.over.length:Int)+1,x.1)∈P.out] P.rest
inductive Ea(K:Frag)(vs:#[a])(H:Hp)(Q:VK)(_:XK):Prop where
 | mk(ok:Addr->Prop)(d m t1 t2:Addr)(P:Pg)(kvs:List (List Key×V))(x y:P3)(_:vs=[.ref d,.ref m,.ref t1,.ref t2])(_:PgAt ok H d P)(_:H m=#[b,.dT,kvs])(_:zit kvs P)(_:H t1=some (.tup (pV x)))(_:H t2=some (.tup (pV y)))(_:#[am,l,(whyP P x y).map,V.str,Q,l])
def Pt(P:Pg)(ms:List P3):#[A]:=ms.map fun m=>(P.ppl.filter fun x=>(whyP P x m).isEmpty).map (·.1)
theorem zgd(h1:P.ppl=S.ppl)(h2:P.over.map Ya=S.led)(h3:P.out=S.out)(h4:P.rest=S.rest)(h5:((P.over.length:Int)+1)=atV S)(ms:List P3):Pt P ms=mayS S ms:=by
 unfold Pt mayS;refine zzo fun m _=>?_;unfold Fq whyP pIn;rw[h1,h2,h3,h4,h5]
inductive zdd(K:Frag)(vs:#[a])(H:Hp)(Q:VK)(_:XK):Prop where
 | mk(ok:Addr->Prop)(d:Addr)(P:Pg)(ms:List P3)(_:vs=[.ref d])(_:PgAt ok H d P)(_:K8 P)(_:P.lis=some ms)(_:ms.length<=100)(_:P.ppl.length<=100)(_:∀ l ls H',H' l=#[R,ls.map,V.ref]->ILs H' ls (Pt P ms)->#[p]->H l=none->(∀ x∈ls,H x=none)->#[I,l])
theorem zj5(r:List Str)(ok:∀ w∈r,PyData.strOk w=true):shD (.lst (r.map Dt.str)):=by
 have h:PyData.canLayAll0 (Wl (r.map Dt.str))=true/\PyData.depthAll (Wl (r.map Dt.str))<=1:=by
  induction r with
  | nil=>exact⟨rfl,by decide⟩
  | cons x r ih =>
    obtain⟨h1,h2⟩:=ih fun w hw=>ok w (zym _ hw);have h0:=ok x (zyy);refine⟨?_,?_⟩
    ·rw[zyf,Wl,PyData.canLayAll0,h1];simp[toPy,PyData.canLay0,h0]
    ·rw[zyf,Wl,PyData.depthAll];have:PyData.depth (toPy (Dt.str x))<=1:=by simp[toPy,PyData.depth]
     omega
 unfold shD SeqAt.shaped;rw[toPy,PyData.canLay0,h.1,Bool.true_and];refine zx9 ?_;rw[PyData.depth];have:=h.2;omega
theorem Eb{K:Frag}{H:Hp}:∀ ws:List Str,S4 K H (ws.map V.str) (ws.map Dt.str)
 | []=>.nil
 | w :: ws=>.cons (.str w) (Eb ws)
theorem zma(h:x∈bw b w):x=w:=by
 cases b<;>simp[bw] at h;exact h
theorem zj6{Rs:#[T]}{n g c h gu d:Int}{o:Bool}{rest:Int}:∀ w∈whyS Rs n g c h gu d o rest,PyData.strOk w=true:=fun w hw=>by
 unfold whyS at hw;simp only[zyd] at hw;rcases hw with z|z|z|z<;>rw[zma z]<;>decide +kernel
def W7(H H':Hp):Prop:=(∀ x ys,H x=some (.lst ys)->H' x=some (.lst ys))/\∀ x ys,H x=#[z,ys]->H' x=#[z,ys]
theorem W7.dict(h:H d=#[b,.dK,kvs]):W7 H (upd H d (.dK kvs')) :=
 ⟨fun x ys e=>by rw[Zj (Y2 e h (by intro z;cases z))];exact e,fun x ys e=>by rw[Zj (Y2 e h (by intro z;cases z))];exact e⟩
theorem W7.trans(a:W7 H H')(b:W7 H' H''):W7 H H'':=⟨fun x ys e=>b.1 _ _ (a.1 _ _ e),fun x ys e=>b.2 _ _ (a.2 _ _ e)⟩
theorem W7.of(e:#[p]):W7 H H':=⟨fun x ys z=>e _ _ z,fun x ys z=>e _ _ z⟩
theorem X5.keepL(k:W7 H H'):∀ {ts:List V} {G:zir},X5 ok H ts G->X5 ok H' ts G
 | _,_,.nil=>.nil
 | _,_,.cons h hl tl o r=>.cons (k.2 _ _ h) (k.1 _ _ hl) (tl.mono k.2) o (X5.keepL k r)
theorem ILs.keepL(k:W7 H H'):∀ {ls:List Addr} {R:List (List Int)},ILs H ls R->ILs H' ls R
 | _,_,.nil=>.nil
 | _,_,.cons h n=>.cons (k.1 _ _ h) (ILs.keepL k n)
theorem Lp.keepL(k:W7 H H')(h:Lp ok H v x):Lp ok H' v x:=by
 cases x with
 | none=>exact h
 | some ms=>obtain⟨l,ts,e,a,b,o⟩:=h;exact⟨l,ts,e,k.1 _ _ a,b.mono k.2,o⟩
theorem Xf.keepL(k:W7 H H'):∀ {vs:List V} {ss:List Z3},Xf ok H vs ss->Xf ok H' vs ss
 | _,_,.nil=>.nil
 | _,_,.cons h hl tl hg hm gm hy iy o r=>.cons (k.2 _ _ h) (k.1 _ _ hl) (tl.mono k.2) (k.1 _ _ hg) (k.1 _ _ hm) (gm.keepL k) (k.1 _ _ hy) (ILs.keepL k iy) o (Xf.keepL k r)
structure PgB(ok:Addr->Prop)(H:Hp)(P:Pg)(lp lo lv:Addr)(dv li:V)(lg lm:Addr):Prop where
 pp:∃ pts,H lp=#[r,pts]/\Z8 H pts (P.ppl.map pV)/\ok lp
 oo:∃ ots,H lo=#[r,ots]/\Z8 H ots (P.out.map oiV)/\ok lo
 vv:∃ vts,H lv=#[r,vts]/\Xf ok H vts P.over/\ok lv
 dd:zbu H dv P.deed
 li:Lp ok H li P.lis
 gg:H lg=#[r,P.gv]/\ok lg
 mm:∃ mts,H lm=#[r,mts]/\X5 ok H mts P.mv/\ok lm
theorem PgB.keepL{ok:Addr->Prop}{H H':Hp}{P:Pg}{lp lo lv:Addr}{dv li:V}{lg lm:Addr}(h:PgB ok H P lp lo lv dv li lg lm)(k:W7 H H'):PgB ok H' P lp lo lv dv li lg lm:=by
 obtain⟨⟨p1,p2,p3,p4⟩,⟨o1,o2,o3,o4⟩,⟨v1,v2,v3,v4⟩,dd,li,⟨g1,g2⟩,m1,m2,m3,m4⟩:=h;exact⟨⟨p1,k.1 _ _ p2,p3.mono k.2,p4⟩,⟨o1,k.1 _ _ o2,o3.mono k.2,o4⟩,⟨v1,k.1 _ _ v2,v3.keepL k,v4⟩,dd.keep k.2,li.keepL k,⟨k.1 _ _ g1,g2⟩,m1,k.1 _ _ m2,m3.keepL k,m4⟩
theorem PgB.imp{ok ok':Addr->Prop}{H:Hp}{P:Pg}{lp lo lv:Addr}{dv li:V}{lg lm:Addr}(h:PgB ok H P lp lo lv dv li lg lm)(k:#[al]):PgB ok' H P lp lo lv dv li lg lm:=by
 obtain⟨⟨p1,p2,p3,p4⟩,⟨o1,o2,o3,o4⟩,⟨v1,v2,v3,v4⟩,dd,li,⟨g1,g2⟩,m1,m2,m3,m4⟩:=h;exact⟨⟨p1,p2,p3,k _ ⟨_,p2⟩ p4⟩,⟨o1,o2,o3,k _ ⟨_,o2⟩ o4⟩,⟨v1,v2,v3.imp k,k _ ⟨_,v2⟩ v4⟩,dd,li.imp k,⟨g1,k _ ⟨_,g1⟩ g2⟩,m1,m2,m3.imp k,k _ ⟨_,m2⟩ m4⟩
theorem PgAt.split(h:PgAt ok H d P):∃ lp lo lv dv li lg lm,H d=#[b,.dK,pgF P.len P.rest lp lo lv dv li lg lm]/\PgB ok H P lp lo lv dv li lg lm/\ok d:=by
 obtain⟨lp,lo,lv,dv,li,lg,lm,pts,ots,vts,mts,a1,a2,a3,a4,a5,a6,a7,a8,a9,b1,b2,b3,o1,o2,o3,o4,o5,o6⟩:=h;exact⟨lp,lo,lv,dv,li,lg,lm,a1,⟨⟨_,a2,a3,o2⟩,⟨_,a4,a5,o3⟩,⟨_,a6,a7,o4⟩,a8,a9,⟨b1,o5⟩,_,b2,b3,o6⟩,o1⟩
theorem PgAt.join{ok:Addr->Prop}{H:Hp}{d:Addr}{P:Pg}{lp lo lv:Addr}{dv li:V}{lg lm:Addr}(hd:H d=#[b,.dK,pgF P.len P.rest lp lo lv dv li lg lm])(h:PgB ok H P lp lo lv dv li lg lm)(o:ok d):PgAt ok H d P:=by
 obtain⟨⟨p1,p2,p3,p4⟩,⟨o1,o2,o3,o4⟩,⟨v1,v2,v3,v4⟩,dd,li',⟨g1,g2⟩,m1,m2,m3,m4⟩:=h;exact⟨lp,lo,lv,dv,li,lg,lm,p1,o1,v1,m1,hd,p2,p3,o2,o3,v2,v3,dd,li',g1,m2,m3,o,p4,o4,v4,g2,m4⟩
theorem PgAt.other(h:PgAt ok H d P)(n:d≠e)(he:H e=#[b,.dK,kvs]):PgAt ok (upd H e (.dK kvs')) d P:=by
 obtain⟨lp,lo,lv,dv,li,lg,lm,a1,a2,a3⟩:=h.split;exact .join (by rw[Zj n];exact a1) (a2.keepL (.dict he)) a3
theorem PgAt.setGoes(h:PgAt ok H d P)(hl:#[w,H,l,xs])(ol:ok l):∃ kvs,H d=#[b,.dK,kvs]/\kvs.length<sizeLine/\PgAt ok (upd H d (.dK (putK kvs (.inr "goes") (.ref l)))) d { P with gv:=xs }:=by
 obtain⟨lp,lo,lv,dv,li,lg,lm,a1,a2,a3⟩:=h.split;refine⟨_,a1,zdb,?_⟩;rw[zbv];have b:=a2.keepL (.dict a1 (kvs':=pgF P.len P.rest lp lo lv dv li l lm));exact .join (P:={ P with gv:=xs }) Ze ⟨b.pp,b.oo,b.vv,b.dd,b.li,⟨(W7.dict a1).1 _ _ hl,ol⟩,b.mm⟩ a3
def Ur(P:Pg):Wj->Pg
 | .enrol n g c=>{ P with ppl:=P.ppl++[(n,g,c)],deed:=some ("enrol",n,(P.over.length:Int)+1) }
 | .away i n=>{ P with out:=P.out++[(i,n)],deed:=some ("away",n,i) }
 | .draw ms=>{ P with lis:=some ms,deed:=some ("draw up",(ms.length:Int),(P.over.length:Int)+1) }
 | .close=>{ P with over:=P.over++[⟨P.lis.getD [],Pt P (P.lis.getD []),P.gv,P.mv⟩],lis:=none,gv:=[],mv:=[] }
 | .back=>P
def Ao(ds:#[t])(d d':Addr):Wj->#[t]
 | .back=>ds
 | .close=>[d']
 | _=>ds++[d]++[d']
inductive Ap(K:Frag)(vs:#[a])(H:Hp)(Q:VK)(_:XK):Prop where
 | mk(ok:Addr->Prop)(l t:Addr)(ds:#[t])(d:Addr)(P:Pg)(D:Wj)(_:vs=[.ref l,.ref t])(_:H l=some (.lst ((ds++[d]).map V.ref)))(_:PgAt ok H d P)(_:Wy ok H t D)(_:K8 P)(_:P.ppl.length<=100)(_:P.out.length<=900)(_:ds.length<=900)(_:(D=.close->∃ ms,P.lis=some ms/\ms.length<=100))(_:∀ l' d' H',H' l'=#[R,(Ao ds d d' D).map,V.ref]->(D≠.back->PgAt (fun x=>ok x\/H x=none) H' d' (Ur P D))->#[p]->H l'=none->H d'=none->#[I,l'])
theorem zbx(xs:#[a])(x:V):Ks (xs++[x]) none (some (-1))=xs:=by
 unfold Ks HT.sIx;simp;rw[show (-1+((xs.length:Int)+1)).toNat=xs.length by omega,List.take_left]
def zde(ms:List P3):Prop:=(∀ m∈ms,¬ badM m)/\∀ m∈ms,m.1≠m.2.1
inductive Ij(K:Frag)(vs:#[a])(H:Hp)(Q:VK)(_:XK):Prop where
 | mk(b:Addr)(ns:#[o])(cell:Int)(most mixed:Nat)(_:vs=[.int cell,.ref b,.int most,.int mixed])(_:H b=some (.lst (ns.map V.int)))(_:2<=ns.length)(_:ns.length<=100)(_:ns.Nodup)(_:(∀ n∈ns,1<=n/\n<=99))(_:most<=20)(_:mixed<=1)(_:∀ l ts ms H',H' l=#[r,ts]->Z8 H' ts (ms.map pV)->ms.length<=most->zde ms->#[p]->H l=none->#[I,l])
def enV(x:P3):#[a]:=[.str "enrol",.int x.1,.int x.2.1,.int x.2.2]
inductive Ec(K:Frag)(vs:#[a])(H:Hp)(Q:VK)(_:XK):Prop where
 | mk(b t lc ln:Addr)(ns cs nu:#[o])(_:vs=[.ref b,.ref t])(_:SqL K H b (ns.map V.int))(_:Mh H t lc ln cs nu)(_:∀ l ts (es:List P3) H',H' l=#[r,ts]->Z8 H' ts (es.map enV)->es.map (·.1)=nu.take es.length->es.length<=nu.length->(∀ x∈es,1<=x.2.1/\x.2.1<=9/\x.2.2∈cs)->#[p]->H l=none->#[I,l])
def ziv(P:Pg)(ds:#[t])(cs nu:#[o])(most:Nat):Wj->Prop
 | .enrol n g c=>P.lis=none/\n∈nu/\n∉P.ppl.map (·.1)/\1<=g/\g<=9/\c∈cs
 | .away i n=>(P.over.length:Int)<i/\i<=P.len/\n∈P.ppl.map (·.1)/\(i,n)∉P.out
 | .draw ms=>P.lis=none/\ms.length<=most/\zde ms
 | .close=>P.lis≠none
 | .back=>ds≠[]
inductive zby(K:Frag)(vs:#[a])(H:Hp)(Q:VK)(_:XK):Prop where
 | mk(ok:Addr->Prop)(l t lc ln:Addr)(ds:#[t])(d:Addr)(P:Pg)(cell:Int)(cs nu:#[o])(most mixed:Nat)(_:vs=[.ref l,.int cell,.ref t,.int most,.int mixed])(_:H l=some (.lst ((ds++[d]).map V.ref)))(_:PgAt ok H d P)(_:Mh H t lc ln cs nu)(_:most<=20)(_:mixed<=1)(_:P.over.length<P.len)(_:P.ppl.length<=100)(_:∀ t' D H',Wy (fun x=>H x=none) H' t' D->ziv P ds cs nu most D->#[p]->H t'=none->#[I,t'])
theorem Bq(h1:Gr t σ H b)(h2:∀ H1,Same H H1->Gr u σ H1 c):Gr (zkv t u) σ H (b&&c):=fun Q h=>by
 refine h1 _ fun H1 s1=>?_;cases b with
 | true=>exact h2 H1 s1 _ fun H2 s2=>h H2 (s1.trans s2)
 | false=>exact h H1 s1
theorem Ik{K:Frag}{H:Hp}:∀ ns:#[o],S4 K H (ns.map V.int) (ns.map Dt.int)
 | []=>.nil
 | w :: ws=>.cons (.int w) (Ik ws)
theorem Il{K:Frag}{σ:L2.St}{H:Hp}{i:Nat}{l:Addr}{ns:#[o]}(hv:σ[i]?=some #[d,l])(hl:H l=some (.lst (ns.map V.int))):Gr (zah (tOp (zhs K true) (Nh i) (zck Iu))) σ H (!ns.isEmpty):=fun Q q=>by
 refine⟨_,hv,zyv _,fun le hle=>?_⟩;have s:=Zk (o:=.lst []) hle;refine⟨_,_,.lst (SqL.of (s _ _ hl)) (Ik _),.lst (SqL.of Ze) .nil,B8 _,B9,_,rfl,?_⟩;rw[if_pos rfl,Aa];exact q _ s
theorem Lp.some(h:Lp ok H v x):(!#[i,v=V.non])=x.isSome:=by
 cases x with
 | none=>cases (show v=V.non from h);rfl
 | some ms=>obtain⟨l,ts,rfl,_⟩:=h;rfl
theorem ziw{h y n:Int}(h0:0<=h)(h1:h<n)(y0:1<=y)(y1:y<=n-1):0<=(h+y)%n/\(h+y)%n<n/\(h+y)%n≠h:=by
 have hn:0<n:=by omega
 refine⟨zy9 _ ⋯,zy1 _ hn,?_⟩;by_cases c:h+y<n
 ·rw[Int.emod_eq_of_lt ⋯ c];omega
 ·have e:(h+y)%n=h+y-n:=by
   rw[<- Int.sub_emod_right,Int.emod_eq_of_lt ⋯ ⋯]
  omega
theorem at2(x y:Int){k:Nat}(h:k<=1):∃ z,atI [V.int x,V.int y] (k:Int)=#[l,z]:=by
 match k,h with
 | 0,_=>exact#[y,x]
 | 1,_=>exact#[y,y]
def Aq:#[o]:=[1,2,3,4,5,6,7,8,9,1,1,1,1,2,2,3,3,4]
theorem zdf:∀ k,k<18->1<=Aq.getD k 0/\Aq.getD k 0<=9:=by decide
def Ar:#[o]:=[1,2,3,4,5,6,7,8,9,9,9,9,9,8,8,7,6,5]
theorem zdg:∀ k,k<18->1<=Ar.getD k 0/\Ar.getD k 0<=9:=by decide
theorem As{ns:#[o]}{i:Nat}(hi:i<ns.length):ns.getD i 0=ns[i]:=by
 rw[zyt,zx2 hi];rfl
theorem zix{ns:#[o]}(nd:ns.Nodup){i j:Nat}(hi:i<ns.length)(hj:j<ns.length)(h:ns.getD i 0=ns.getD j 0):i=j:=by
 rw[As hi,As hj] at h;exact(List.getElem_inj nd).mp h
theorem Tt{ns:#[o]}{i:Nat}(hi:i<ns.length):ns.getD i 0∈ns:=by
 rw[As hi];exact zyx hi
def T9(mb:Bool)(s:Z3):Z3:=if mb then s else { s with gaps:=[] }
theorem zj7(h:T9 mb s=T9 mb s'):s.ms=s'.ms/\s.may=s'.may/\s.gv=s'.gv/\(mb=true->s=s'):=by
 unfold T9 at h;cases mb with
 | true=>simp at h;subst h;exact⟨rfl,rfl,rfl,fun _=>rfl⟩
 | false=>simp at h;exact⟨h.1,h.2.1,h.2.2,fun z=>nomatch z⟩
theorem zge(mb:Bool)(s:Z3):Ya (T9 mb s)=Ya s:=by
 unfold T9;cases mb<;>rfl
structure RelB(mb:Bool)(P:Pg)(S:Sea):Prop where
 len:P.len=S.len
 rest:P.rest=S.rest
 ppl:P.ppl=S.ppl
 out:P.out=S.out
 over:P.over.map (T9 mb)=S.old.map (T9 mb)
 lis:P.lis=S.cur.map (·.ms)
def Lr(S:Sea):zir:=match S.cur with|some s=>s.gaps|none=>[]
theorem Mj(h:S.cur=some s):Lr S=s.gaps:=by unfold Lr;rw[h]
theorem Vs(h:S.cur=none):Lr S=[]:=by unfold Lr;rw[h]
structure Rel(mb:Bool)(P:Pg)(S:Sea):Prop where
 b:RelB mb P S
 gv:∀ s,S.cur=some s->P.gv=s.gv
 mv:mb=true->P.mv=Lr S
structure SOk(nu:#[o])(n:Nat)(S:Sea):Prop where
 cur:zio S
 nd:(S.ppl.map (·.1)).Nodup
 ppl:∀ x∈S.ppl,x.1∈nu/\¬ badI x.1 x.2.1 x.2.2
 few:S.ppl.length<=30
 led:S.led=S.old.map Ya
 old:∀ s∈S.old,s.ms.length<=20/\s.gv.length=s.ms.length/\∀ x∈s.gv,oneV x
 len:S.led.length<=S.len/\S.len<=60/\S.rest<=10
 lt:S.cur≠none->S.led.length<S.len
 num:S.out.length<=n/\S.std.length<=n
 gp:∀ s,S.cur=some s\/s∈S.old->s.gaps.length<=n/\∀ x∈s.gaps,x.2.length<=100
theorem SOk.mono(h:SOk nu n S)(e:n<=m):SOk nu m S:=⟨h.cur,h.nd,h.ppl,h.few,h.led,h.old,h.len,h.lt,⟨zyg h.num.1 e,zyg h.num.2 e⟩,fun s hs=>⟨zyg (h.gp s hs).1 e,(h.gp s hs).2⟩⟩
theorem SOk.pok(h:SOk nu n S):Pj S:=⟨fun x hx=>(h.ppl x hx).2,h.few⟩
theorem SOk.olen(h:SOk nu n S):S.old.length=S.led.length:=by rw[h.led,zx1]
theorem ziy:∀ (Rs:List (List Row)),(∀ rs∈Rs,rs.length<=k)->tot Rs<=k*Rs.length
 | [],_=>by simp[tot]
 | rs :: Rs,h=>by
   have h1:=h rs (zyy);have h2:=ziy Rs fun x hx=>h x (zym _ hx);unfold tot at *;simp only[zyf,List.sum_cons,zyk,Nat.mul_succ];omega
theorem SOk.tot(h:SOk nu n S):G.tot S.led<=1200:=by
 have h1:=ziy (k:=20) S.led fun rs hrs=>by
  rw[h.led] at hrs;obtain⟨s,hs,rfl⟩:=zya.mp hrs;have:=h.old s hs;unfold Ya;rw[z0c];omega
 have:=h.len;omega
theorem RelB.rows(r:RelB mb P S):P.over.map Ya=S.old.map Ya:=by
 have e:∀ l:List Z3,l.map Ya=(l.map (T9 mb)).map Ya:=fun l=>by
  rw[zzi];exact zzo fun s _=>(zge mb s).symm
 rw[e,r.over,<- e]
theorem RelB.olen(r:RelB mb P S):P.over.length=S.old.length:=by
 have:=congrArg List.length r.over
 simpa using this
theorem RelB.ovok(r:RelB mb P S)(o:SOk nu n S):K8 P:=by
 have h1:=r.olen;have h2:=o.olen;have h3:=o.len;refine⟨by omega,by rw[r.rest];omega,fun s hs=>?_⟩;have:T9 mb s∈S.old.map (T9 mb):=by rw[<- r.over];exact zya.mpr ⟨s,hs,rfl⟩
 obtain⟨s',hs',e⟩:=zya.mp this;obtain⟨e1,e2,e3,_⟩:=zj7 e;rw[<- e1,<- e3];exact o.old s' hs'
theorem RelB.may(r:RelB mb P S)(o:SOk nu n S)(ms:List P3):Pt P ms=mayS S ms :=
 zgd r.ppl (by rw[r.rows,o.led]) r.out r.rest (by unfold atV;rw[r.olen,o.olen]) ms
theorem RelB.at(r:RelB mb P S)(o:SOk nu n S):(P.over.length:Int)+1=atV S:=by unfold atV;rw[r.olen,o.olen]
theorem RelB.undrawn(r:RelB mb P S)(h:P.lis=none):S.cur=none:=by
 have:=r.lis;rw[h] at this;cases e:S.cur with
 | none=>rfl
 | some s=>rw[e] at this;cases this
theorem RelB.drawn(r:RelB mb P S)(h:P.lis=some ms):∃ s,S.cur=some s/\s.ms=ms:=by
 have:=r.lis;rw[h] at this;cases e:S.cur with
 | none=>rw[e] at this;cases this
 | some s=>rw[e] at this;exact#[q,s,(Option.some.inj this).symm]
theorem Au{l m:#[o]}(nd:l.Nodup)(h:∀ x∈l,x∈m):l.length<=m.length:=by
 induction l generalizing m with
 | nil=>exact zyv _
 | cons x l ih =>
   have hx:=h x (zyy);obtain⟨h1,h2⟩:=zys.mp nd;have:=ih (m:=m.erase x) h2 fun y hy=>(List.mem_erase_of_ne (fun z=>h1 (by rw[<- z];exact hy))).mpr (h y (zym _ hy));rw[List.length_erase_of_mem hx] at this;have:=List.length_pos_of_mem hx;simp only[zyk];omega
theorem zj8{mb:Bool}{P:Pg}{S:Sea}{nu cs:#[o]}{n most:Nat}{ds:#[t]}{D:Wj}(r:RelB mb P S)(o:SOk nu n S)(g:ziv P ds cs nu most D)(hlt:P.over.length<P.len)(hm:most<=20)(hnu:nu.length<=30/\∀ n∈nu,1<=n/\n<=999)(hcs:∀ c∈cs,1<=c/\c<=99)(hb:ds≠[]->S.std≠[]):Ih S D:=by
 have h1:=r.olen;have h2:=o.olen;have h3:=r.len;cases D with
 | enrol k gr c =>
   obtain⟨g1,g2,g3,g4,g5,g6⟩:=g;rw[r.ppl] at g3;refine⟨by omega,r.undrawn g1,?_,g3,?_⟩
   ·have:=hnu.2 k g2;have:=hcs c g6;unfold badI;omega
   ·have:=Au (l:=k :: S.ppl.map (·.1)) (m:=nu) (zys.mpr ⟨g3,o.nd⟩) fun x hx=>by
     rcases zx8.mp hx with rfl|hx
     ·exact g2
     ·obtain⟨y,hy,rfl⟩:=zya.mp hx;exact(o.ppl y hy).1
    rw[zyk,zx1] at this;omega
 | away i k =>
   obtain⟨g1,g2,g3,g4⟩:=g;rw[r.ppl] at g3;rw[r.out] at g4;exact⟨by omega,by omega,g3,g4⟩
 | draw ms =>
   obtain⟨g1,g2,g3⟩:=g;exact⟨by omega,r.undrawn g1,by omega,g3.1,g3.2⟩
 | close =>
   refine⟨by omega,fun z=>g ?_⟩;rw[r.lis,z];rfl
 | back=>exact hb g
theorem zgf(F:Yr rows gs)(hn:∀ i:Nat,gs[i]?≠#[b,V.int,n]):Yr (without rows n) gs:=by
 refine⟨by unfold without;rw[zx1];exact F.len,F.one,fun k m h=>?_,F.inj⟩;obtain⟨r,h1,h2⟩:=F.may k m h;refine⟨r.filter fun x=>#[i,x≠n],by unfold without;rw[zx5,h1];rfl,zy5.mpr ⟨h2,?_⟩⟩;refine zx9 fun z=>hn k ?_;rw[h,z]
theorem zdh(T:V3 rows gs):V3 (without rows n) gs:=fun p hp=>by
 obtain⟨S,h1,h2⟩:=T p hp;refine⟨S,h1,fun q hq=>⟨by unfold without;rw[zx1];exact(h2 q hq).1,fun r hr m hm=>?_⟩⟩;unfold without at hr;rw[zx5] at hr;obtain⟨r0,e1,rfl⟩:=zz2.mp hr;exact(h2 q hq).2 r0 e1 m (zy5.mp hm).1
theorem zgg(h:atV S<i)(ms:List P3):mayS (X6 S i n) ms=mayS S ms:=by
 unfold mayS;refine zzo fun m _=>?_;unfold Fq;have:∀ x:P3,pIn (X6 S i n).out (atV (X6 S i n)) x=pIn S.out (atV S) x:=fun x=>by
  show #[i,(atV S,x.1)∈S.out++[(i,n)]]=#[i,(atV S,x.1)∈S.out];have:((atV S,x.1)∈S.out++[(i,n)])↔((atV S,x.1)∈S.out):=by
   simp only[zyd,zx6,Prod.mk.injEq];constructor
   ·rintro(h|⟨h,_⟩)
    ·exact h
    ·omega
   ·exact .inl
  exact decide_eq_decide.mpr this
 simp only[this];rfl
theorem ziz(o:SOk nu n S)(g:Ih S D)(af:R6 H' S D S' v)(hb:D≠.back)(hn:∀ k gr c,D=.enrol k gr c->k∈nu):SOk nu (n+1) S'/\((D=.close/\S'.std=[]/\S'.cur=none)\/(D≠.close/\Pk S S')):=by
 obtain⟨n1,n2⟩:=o.num;cases af with
 | enrol k gr c =>
   obtain⟨g1,g2,g3,g4,g5⟩:=g;refine⟨⟨fun s hs=>?_,?_,fun x hx=>?_,?_,o.led,o.old,o.len,fun _=>g1,⟨?_,?_⟩,fun s hs=>⟨zzp (o.gp s hs).1,(o.gp s hs).2⟩⟩,.inr ⟨nofun,(("enrol":Str),k,atV S),rfl,.inl ⟨rfl,⟨gr,c,rfl⟩,rfl⟩,rfl,rfl,rfl,rfl⟩⟩
   ·have hs:S.cur=some s:=hs;rw[g2] at hs;cases hs
   ·show (List.map (·.1) (S.ppl++[(k,gr,c)])).Nodup;rw[zx7,List.nodup_append];refine⟨o.nd,by simp,fun x hx y hy=>?_⟩;rw[zyf,List.map_nil,zx6] at hy;subst hy;rintro rfl;exact g4 hx
   ·rcases zyd.mp hx with hx|hx
    ·exact o.ppl x hx
    ·rw[zx6.mp hx];exact⟨hn k gr c rfl,g3⟩
   ·show (S.ppl++[(k,gr,c)]).length<=30;rw[zx4];show S.ppl.length+1<=30;omega
   ·show S.out.length<=n+1;omega
   ·show (S.std++[_]).length<=n+1;rw[zx4];show S.std.length+1<=n+1;omega
 | @awayN i k l h hl =>
   obtain⟨g1,g2,g3,g4⟩:=g;refine⟨⟨fun s hs=>?_,o.nd,o.ppl,o.few,o.led,o.old,o.len,o.lt,⟨?_,?_⟩,fun s hs=>⟨zzp (o.gp s hs).1,(o.gp s hs).2⟩⟩,.inr ⟨nofun,(("away":Str),k,i),rfl,.inr (.inl ⟨rfl,rfl,rfl,g4⟩),rfl,rfl,rfl,rfl⟩⟩
   ·have hs:S.cur=some s:=hs;rcases h with h|h
    ·rw[h] at hs;cases hs
    ·obtain⟨c1,c2,c3,c4,c5⟩:=o.cur s hs;refine⟨c1,c2,c3,by rw[zgg h];exact c4,?_⟩;show s.gaps.length<=(S.std++[_]).length;rw[zx4];omega
   ·show (S.out++[_]).length<=n+1;rw[zx4];show S.out.length+1<=n+1;omega
   ·show (S.std++[_]).length<=n+1;rw[zx4];show S.std.length+1<=n+1;omega
 | @awayF k s l h hp hl =>
   obtain⟨g1,g2,g3,g4⟩:=g;obtain⟨c1,c2,c3,c4,c5⟩:=o.cur s h;refine⟨⟨fun s' hs=>?_,o.nd,o.ppl,o.few,o.led,o.old,o.len,fun _=>o.lt (by rw[h];exact nofun),⟨?_,?_⟩,fun s' hs=>?_⟩,.inr ⟨nofun,(("away":Str),k,atV S),rfl,.inr (.inl ⟨rfl,rfl,rfl,g4⟩),rfl,rfl,rfl,rfl⟩⟩
   ·have hs:some { s with may:=mayS (X6 S (atV S) k) s.ms }=some s':=hs;cases hs;have hno:∀ i:Nat,s.gv[i]?≠some (V.int k):=by
     rcases J7 s.gv k with z|⟨i,z,_⟩
     ·exact z.2
     ·rw[hp] at z;cases z
    refine⟨c1,?_,?_,rfl,?_⟩
    ·show Yr (mayS (X6 S (atV S) k) s.ms) s.gv;rw[T7,<- c4];exact zgf c2 hno
    ·show V3 (mayS (X6 S (atV S) k) s.ms) s.gv;rw[T7,<- c4];exact zdh c3
    ·show s.gaps.length<=(S.std++[_]).length;rw[zx4];omega
   ·show (S.out++[_]).length<=n+1;rw[zx4];show S.out.length+1<=n+1;omega
   ·show (S.std++[_]).length<=n+1;rw[zx4];show S.std.length+1<=n+1;omega
   ·have old:=o.gp s (.inl h);rcases hs with hs|hs
    ·have hs:some { s with may:=mayS (X6 S (atV S) k) s.ms }=some s':=hs;cases hs;exact⟨zzp old.1,old.2⟩
    ·have:=o.gp s' (.inr hs);exact⟨zzp this.1,this.2⟩
 | @awayC k s p e l us st w h hp hl tl CR =>
   obtain⟨g1,g2,g3,g4⟩:=g;obtain⟨c1,c2,c3,c4,c5⟩:=o.cur s h;refine⟨⟨fun s' hs=>?_,o.nd,o.ppl,o.few,o.led,o.old,o.len,fun _=>o.lt (by rw[h];exact nofun),⟨?_,?_⟩,fun s' hs=>?_⟩,.inr ⟨nofun,(("away":Str),k,atV S),rfl,.inr (.inl ⟨rfl,rfl,rfl,g4⟩),rfl,rfl,rfl,rfl⟩⟩
   ·have hs:some (⟨s.ms,mayS (X6 S (atV S) k) s.ms,Yz st (s.gv.set p .non),s.gaps++[(k,st)]⟩:Z3)=some s':=hs;cases hs;have hx:=Qs hp;rw[T7,<- c4] at CR;have F0:=To c2 hx;have hpl:p<(without s.may k).length:=by
     unfold without;rw[zx1,<- c2.len];exact(zx3.mp hx).1
    refine⟨c1,?_,?_,rfl,?_⟩
    ·show Yr (mayS (X6 S (atV S) k) s.ms) _;rw[T7,<- c4];exact CR.fill F0 hpl
    ·show V3 (mayS (X6 S (atV S) k) s.ms) _;rw[T7,<- c4];exact za2 c2 c3 hx CR
    ·show (s.gaps++[_]).length<=(S.std++[_]).length;rw[zx4,zx4];show s.gaps.length+1<=S.std.length+1;omega
   ·show (S.out++[_]).length<=n+1;rw[zx4];show S.out.length+1<=n+1;omega
   ·show (S.std++[_]).length<=n+1;rw[zx4];show S.std.length+1<=n+1;omega
   ·have old:=o.gp s (.inl h);rcases hs with hs|hs
    ·have hs:some (⟨s.ms,mayS (X6 S (atV S) k) s.ms,Yz st (s.gv.set p .non),s.gaps++[(k,st)]⟩:Z3)=some s':=hs;cases hs;have hx:=Qs hp;rw[T7,<- c4] at CR;have hpl:p<(without s.may k).length:=by
      unfold without;rw[zx1,<- c2.len];exact(zx3.mp hx).1
     have hcl:=CR.len (To c2 hx) hpl;have hwl:(without s.may k).length=s.may.length:=by unfold without;rw[zx1]
     have hml:s.may.length=s.ms.length:=by rw[c4];unfold mayS;rw[zx1]
     refine⟨by show (s.gaps++[_]).length<=n+1;rw[zx4];show s.gaps.length+1<=n+1;omega,fun x hx'=>?_⟩;rcases zyd.mp hx' with z|z
     ·exact old.2 x z
     ·rw[zx6.mp z];show st.length<=100;omega
    ·have:=o.gp s' (.inr hs);exact⟨zzp this.1,this.2⟩
 | @draw ms gv l hl F T =>
   obtain⟨g1,g2,g3,g4,g5⟩:=g;refine⟨⟨fun s' hs=>?_,o.nd,o.ppl,o.few,o.led,o.old,o.len,fun _=>g1,⟨?_,?_⟩,fun s' hs=>?_⟩,.inr ⟨nofun,(("draw up":Str),(ms.length:Int),atV S),rfl,.inr (.inr #[q,rfl,rfl]),rfl,rfl,rfl,rfl⟩⟩
   ·have hs:some (⟨ms,mayS S ms,gv,[]⟩:Z3)=some s':=hs;cases hs;exact⟨g3,F,T,rfl,zyv _⟩
   ·show S.out.length<=n+1;omega
   ·show (S.std++[_]).length<=n+1;rw[zx4];show S.std.length+1<=n+1;omega
   ·rcases hs with hs|hs
    ·have hs:some (⟨ms,mayS S ms,gv,[]⟩:Z3)=some s':=hs;cases hs;exact⟨zyv _,nofun⟩
    ·have:=o.gp s' (.inr hs);exact⟨zzp this.1,this.2⟩
 | @close s h =>
   obtain⟨g1,g2⟩:=g;obtain⟨c1,c2,c3,c4,c5⟩:=o.cur s h;refine⟨⟨fun s' hs=>(by cases hs),o.nd,o.ppl,o.few,?_,fun x hx=>?_,⟨?_,o.len.2⟩,fun z=>absurd rfl z,⟨?_,zyv _⟩,fun s' hs=>?_⟩,.inl ⟨rfl,rfl,rfl⟩⟩
   ·show S.led++[Ya s]=List.map Ya (S.old++[s]);rw[zx7,o.led];rfl
   ·rcases zyd.mp hx with hx|hx
    ·exact o.old x hx
    ·rw[zx6.mp hx];refine⟨c1,?_,c2.one⟩;rw[c2.len,c4];unfold mayS;rw[zx1]
   ·show (S.led++[_]).length<=S.len;rw[zx4];exact g1
   ·show S.out.length<=n+1;omega
   ·rcases hs with hs|hs
    ·cases hs
    ·have hs:s'∈S.old++[s]:=hs;rcases zyd.mp hs with z|z
     ·have:=o.gp s' (.inr z);exact⟨zzp this.1,this.2⟩
     ·rw[zx6.mp z];have:=o.gp s (.inl h);exact⟨zzp this.1,this.2⟩
 | back h ht hs=>exact absurd rfl hb
theorem zgh(r:Rel mb P S)(o:SOk nu n S)(g:Ih S D)(af:R6 H' S D S' v)(hb:D≠.back):RelB mb (Ur P D) S':=by
 obtain⟨⟨r1,r2,r3,r4,r5,r6⟩,rg,rm⟩:=id r;cases af with
 | enrol k gr c=>exact⟨r1,r2,by show P.ppl++_=S.ppl++_;rw[r3],r4,r5,r6⟩
 | @awayN i k l h hl=>exact⟨r1,r2,r3,by show P.out++_=S.out++_;rw[r4],r5,r6⟩
 | @awayF k s l h hp hl=>exact⟨r1,r2,r3,by show P.out++_=S.out++_;rw[r4],r5,by show P.lis=_;rw[r6,h];rfl⟩
 | @awayC k s p e l us st w h hp hl tl CR=>exact⟨r1,r2,r3,by show P.out++_=S.out++_;rw[r4],r5,by show P.lis=_;rw[r6,h];rfl⟩
 | @draw ms gv l hl F T=>exact⟨r1,r2,r3,r4,r5,rfl⟩
 | @close s h =>
   have hl:P.lis=some s.ms:=by rw[r6,h];rfl
   refine⟨r1,r2,r3,r4,?_,rfl⟩;show List.map (T9 mb) (P.over++[⟨P.lis.getD [],Pt P (P.lis.getD []),P.gv,P.mv⟩])=List.map (T9 mb) (S.old++[s]);rw[zx7,zx7,r5,hl]
   congr 1
   have e1:=(o.cur s h).2.2.2.1;have e2:=r.b.may o s.ms;have e3:=rg s h;unfold T9;cases mb with
   | true =>
     have e4:P.mv=s.gaps:=by rw[rm rfl,Mj h]
     show [(⟨s.ms,Pt P s.ms,P.gv,P.mv⟩:Z3)]=[s];rw[e2,e3,e4,<- e1]
   | false =>
     show [(⟨s.ms,Pt P s.ms,P.gv,[]⟩:Z3)]=[(⟨s.ms,s.may,s.gv,[]⟩:Z3)];rw[e2,e3,<- e1]
 | back h ht hs=>exact absurd rfl hb
theorem zgi(h1:Pk S1 S)(h2:Pk S2 S):S1=S2:=by
 obtain⟨d1,a1,a2,a3,a4,a5,a6⟩:=h1;obtain⟨d2,b1,b2,b3,b4,b5,b6⟩:=h2;have e:=a1.symm.trans b1;obtain⟨e1,e2⟩:=zzt e rfl;have e3:=List.cons.inj e2;obtain⟨e4,e5⟩:=Prod.mk.inj e3.1;subst e4;have w1:("enrol":Str)≠"away":=by decide +kernel
 have w2:("enrol":Str)≠"draw up":=by decide +kernel
 have w3:("away":Str)≠"draw up":=by decide +kernel
 have e6:S1.ppl=S2.ppl/\S1.out=S2.out:=by
  rcases a2 with ⟨x1,⟨g,c,x2⟩,x3⟩|⟨x1,x2,x3,_⟩|⟨x1,x2,x3⟩<;>rcases b2 with ⟨y1,⟨g',c',y2⟩,y3⟩|⟨y1,y2,y3,_⟩|⟨y1,y2,y3⟩
  ·exact⟨(zzt (x2.symm.trans y2) rfl).1,x3.trans y3.symm⟩
  ·exact absurd (x1.symm.trans y1) w1
  ·exact absurd (x1.symm.trans y1) w2
  ·exact absurd (y1.symm.trans x1) w1
  ·exact⟨x2.trans y2.symm,(zzt (x3.symm.trans y3) rfl).1⟩
  ·exact absurd (x1.symm.trans y1) w3
  ·exact absurd (y1.symm.trans x1) w2
  ·exact absurd (y1.symm.trans x1) w3
  ·exact⟨x2.trans y2.symm,x3.trans y3.symm⟩
 obtain⟨l1,q1,p1,d1',o1,ol1,c1,s1⟩:=S1;obtain⟨l2,q2,p2,d2',o2,ol2,c2,s2⟩:=S2;simp only at *;obtain⟨e7,e8⟩:=e6;subst e1 e5 e7 e8;rw[<- a3,<- b3,<- a4,<- b4,<- a5,<- b5,<- a6,<- b6]
structure FrN(A A':SAd)(H H':Hp):Prop where
 p:A'.p=A.p
 k:∀ b o,H b=#[c]->b∉A.fp->H' b=#[c]/\b∉A'.fp
 kt:#[Z]
theorem FrN.refl(A:SAd)(H:Hp):FrN A A H H:=⟨rfl,fun b o e n=>⟨e,n⟩,fun _ _ e=>e⟩
theorem FrN.of(e:#[p]):FrN A A H H':=⟨rfl,fun b o z n=>⟨e _ _ z,n⟩,fun _ _ z=>e _ _ z⟩
theorem FrN.trans(h1:FrN A A1 H H1)(h2:FrN A1 A2 H1 H2):FrN A A2 H H2:=⟨h2.p.trans h1.p,fun b o e n=>by
 obtain⟨a1,a2⟩:=h1.k b o e n;exact h2.k b o a1 a2,fun t xs e=>h2.kt _ _ (h1.kt _ _ e)⟩
theorem Fy.out(nx:Fy A A' H)(e:H b=some o)(n:b∉A.fp):b∉A'.fp:=by
 obtain⟨x,rfl,hx⟩:=nx;simp only[SAd.fp,zx8,zy4,or_false] at n ⊢;rcases hx with rfl|hx
 ·exact n
 ·have:b≠x:=Zh e hx;rintro(z|z|z|z|z|z|z)
  ·exact n (.inl z)
  ·exact n (.inr (.inl z))
  ·exact n (.inr (.inr (.inl z)))
  ·exact n (.inr (.inr (.inr (.inl z))))
  ·exact n (.inr (.inr (.inr (.inr (.inl z)))))
  ·exact n (.inr (.inr (.inr (.inr (.inr (.inl z))))))
  ·exact this z
theorem FrN.next(SA:#[E])(nx:Fy A A' H)(f:FrS A H H'):FrN A A' H H':=⟨by obtain⟨x,rfl,_⟩:=nx;rfl,fun b o e n=>⟨f b o e n,nx.out e n⟩,SA.tups f⟩
def S9(K:Frag)(A:SAd)(H:Hp)(b:Addr)(xs:#[a]):Prop:=(Rd H b (.lst xs)/\b∉A.fp)\/∀ H',SqL K H' b xs
theorem S9.sq{K:Frag}{A:SAd}{H:Hp}{b:Addr}{xs:#[a]}(h:S9 K A H b xs):SqL K H b xs:=by
 rcases h with h|h
 ·exact .inl h.1
 ·exact h H
theorem S9.fr{K:Frag}{A A':SAd}{H H':Hp}{b:Addr}{xs:#[a]}(f:FrN A A' H H')(h:S9 K A H b xs):S9 K A' H' b xs:=by
 rcases h with ⟨h,n⟩|h
 ·rcases h with h|⟨o,h⟩
  ·exact .inl ⟨.inl (f.k _ _ h n).1,(f.k _ _ h n).2⟩
  ·exact .inl ⟨.inr ⟨o,(f.k _ _ h n).1⟩,(f.k _ _ h n).2⟩
 ·exact .inr h
theorem S9.make{K:Frag}{H:Hp}{b:Addr}{xs:#[a]}(h:SqL K H b xs)(A:SAd)(H':Hp)(s:#[p])(hf:∀ x∈A.fp,H x=none):S9 K A H' b xs:=by
 rcases h with h|h
 ·have hn:b∉A.fp:=fun z=>by
   have:=hf b z;rcases h with h|⟨o,h⟩<;>(rw[this] at h;cases h)
  rcases h with h|⟨o,h⟩
  ·exact .inl ⟨.inl (s _ _ h),hn⟩
  ·exact .inl ⟨.inr ⟨o,s _ _ h⟩,hn⟩
 ·exact .inr fun _=>.inr h
structure Ls(A:SAd)(H:Hp)(t lc ln:Addr)(cs nu:#[o]):Prop where
 at_:Mh H t lc ln cs nu
 o:t∉A.fp/\lc∉A.fp/\ln∉A.fp
theorem Ls.fr{A A':SAd}{H H':Hp}{t lc ln:Addr}{cs nu:#[o]}(f:FrN A A' H H')(h:Ls A H t lc ln cs nu):Ls A' H' t lc ln cs nu:=by
 obtain⟨⟨a1,a2,a3,a4,a5,a6,a7,a8,a9⟩,o1,o2,o3⟩:=h;exact⟨⟨(f.k _ _ a1 o1).1,(f.k _ _ a2 o2).1,(f.k _ _ a3 o3).1,a4,a5,a6,a7,a8,a9⟩,(f.k _ _ a1 o1).2,(f.k _ _ a2 o2).2,(f.k _ _ a3 o3).2⟩
inductive Bk(mb:Bool)(ok:Addr->Prop)(H:Hp)(nu:#[o])(n:Nat):#[t]->Sea->Prop where
 | one {d:Addr} {P:Pg} {S:Sea} (h:PgAt ok H d P) (r:Rel mb P S) (o:SOk nu n S) (e:S.std=[]):Bk mb ok H nu n [d] S
 | snoc {ds:#[t]} {d:Addr} {P:Pg} {S S':Sea} (b:Bk mb ok H nu n ds S) (nd:d∉ds) (h:PgAt ok H d P) (r:Rel mb P S') (o:SOk nu n S') (st:Pk S S') (hd:∃ x,P.deed=some x/\S'.std=S.std++[(x,S.cur)]):Bk mb ok H nu n (ds++[d]) S'
section
variable{mb:Bool}{ok ok':Addr->Prop}{H H':Hp}{nu:#[o]}{n m:Nat}{ds:#[t]}{d:Addr}{P:Pg}{S S':Sea}
theorem Bk.keep(b:Bk mb ok H nu n ds S)(k:∀ x o,ok x->H x=#[c]->H' x=#[c])(kt:#[Z]):Bk mb ok H' nu n ds S:=by
 induction b with
 | one h r o e=>exact .one (h.keep k kt) r o e
 | snoc b nd h r o st hd ih=>exact .snoc ih nd (h.keep k kt) r o st hd
theorem Bk.imp(b:Bk mb ok H nu n ds S)(k:#[al]):Bk mb ok' H nu n ds S:=by
 induction b with
 | one h r o e=>exact .one (h.imp k) r o e
 | snoc b nd h r o st hd ih=>exact .snoc ih nd (h.imp k) r o st hd
theorem Bk.mono(b:Bk mb ok H nu n ds S)(e:n<=m):Bk mb ok H nu m ds S:=by
 induction b with
 | one h r o e'=>exact .one h r (o.mono e) e'
 | snoc b nd h r o st hd ih=>exact .snoc ih nd h r (o.mono e) st hd
theorem Bk.there(b:Bk mb ok H nu n ds S):∀ d∈ds,∃ kvs,H d=#[b,.dK,kvs]:=by
 induction b with
 | one h r o e =>
   intro d hd;rw[zx6.mp hd];obtain⟨_,_,_,_,_,_,_,a,_⟩:=h.split;exact⟨_,a⟩
 | snoc b nd h r o st hd ih =>
   intro d' hd';rcases zyd.mp hd' with z|z
   ·exact ih d' z
   ·rw[zx6.mp z];obtain⟨_,_,_,_,_,_,_,a,_⟩:=h.split;exact⟨_,a⟩
theorem Bk.other(b:Bk mb ok H nu n ds S)(he:H e=#[b,.dK,kvs])(hn:e∉ds):Bk mb ok (upd H e (.dK kvs')) nu n ds S:=by
 induction b with
 | one h r o e'=>exact .one (h.other (fun z=>hn (by rw[z];exact zz1 _)) he) r o e'
 | snoc b nd h r o st hd ih=>exact .snoc (ih fun z=>hn (zyp _ z)) nd (h.other (fun z=>hn (by rw[z];exact zyq _ (zz1 _))) he) r o st hd
structure zi0(mb:Bool)(ok:Addr->Prop)(H:Hp)(nu:#[o])(n:Nat)(ds:#[t])(d:Addr)(dd:Option Tp)(S:Sea):Prop where
 nd:d∉ds
 ex:(ds=[]/\S.std=[])\/∃ S0,Bk mb ok H nu n ds S0/\Pk S0 S/\∃ x,dd=some x/\S.std=S0.std++[(x,S0.cur)]
structure Ml(mb:Bool)(ok:Addr->Prop)(H:Hp)(nu:#[o])(n:Nat)(ds:#[t])(d:Addr)(P:Pg)(S:Sea):Prop where
 pg:PgAt ok H d P
 rb:RelB mb P S
 so:SOk nu n S
 tl:zi0 mb ok H nu n ds d P.deed S
structure Full(mb:Bool)(ok:Addr->Prop)(H:Hp)(nu:#[o])(n:Nat)(ds:#[t])(d:Addr)(P:Pg)(S:Sea):Prop where
 pg:PgAt ok H d P
 re:Rel mb P S
 so:SOk nu n S
 tl:zi0 mb ok H nu n ds d P.deed S
theorem Full.pend(h:Full mb ok H nu n ds d P S):Ml mb ok H nu n ds d P S:=⟨h.pg,h.re.b,h.so,h.tl⟩
theorem Full.bk(h:Full mb ok H nu n ds d P S):Bk mb ok H nu n (ds++[d]) S:=by
 obtain⟨nd,⟨rfl,e⟩|⟨S0,b,st,hd⟩⟩:=h.tl
 ·exact .one h.pg h.re h.so e
 ·exact .snoc b nd h.pg h.re h.so st hd
theorem Bk.full(b:Bk mb ok H nu n xs S):∃ ds d P,xs=ds++[d]/\Full mb ok H nu n ds d P S:=by
 cases b with
 | one h r o e=>exact⟨[],_,_,rfl,h,r,o,nofun,.inl ⟨rfl,e⟩⟩
 | snoc b nd h r o st hd=>exact⟨_,_,_,rfl,h,r,o,nd,.inr ⟨_,b,st,hd⟩⟩
theorem zi0.keep(h:zi0 mb ok H nu n ds d dd S)(k:∀ x o,ok x->H x=#[c]->H' x=#[c])(kt:#[Z]):zi0 mb ok H' nu n ds d dd S:=by
 obtain⟨nd,e|⟨S0,b,r⟩⟩:=h
 ·exact⟨nd,.inl e⟩
 ·exact⟨nd,.inr ⟨S0,b.keep k kt,r⟩⟩
theorem Ml.same(h:Ml mb ok H nu n ds d P S)(e:#[p]):Ml mb ok H' nu n ds d P S:=⟨h.pg.same e,h.rb,h.so,h.tl.keep (fun _ _ _ q=>e _ _ q) fun _ _ q=>e _ _ q⟩
theorem Full.same(h:Full mb ok H nu n ds d P S)(e:#[p]):Full mb ok H' nu n ds d P S:=⟨h.pg.same e,h.re,h.so,h.tl.keep (fun _ _ _ q=>e _ _ q) fun _ _ q=>e _ _ q⟩
theorem Ml.full(h:Ml mb ok H nu n ds d P S)(hg:∀ s,S.cur=some s->P.gv=s.gv)(hm:mb=true->P.mv=Lr S):Full mb ok H nu n ds d P S:=⟨h.pg,⟨h.rb,hg,hm⟩,h.so,h.tl⟩
end
theorem zi1(r:RelB mb P S)(o:SOk nu n S)(af:R6 H' S D S' v)(hb:D≠.back)(hc:D≠.close):∃ x,(Ur P D).deed=some x/\S'.std=S.std++[(x,S.cur)]:=by
 have e:=r.at o;cases af with
 | enrol k gr c=>exact#[q,_,by rw[e]]
 | awayN h hl=>exact#[q,_,rfl]
 | awayF h hp hl=>exact#[q,_,rfl]
 | awayC h hp hl tl CR=>exact#[q,_,rfl]
 | draw hl F T=>exact#[q,_,by rw[e];rfl]
 | close h=>exact absurd rfl hc
 | back h ht hs=>exact absurd rfl hb
theorem turn(F:Full mb (·∉A.fp) H nu n ds d P S)(SA:#[E])(af:R6 H1 S D S' v)(SA1:Zy ca H1 A' S')(nx:Fy A A' H)(fr:FrS A H H1)(g:Ih S D)(hn:∀ k gr c,D=.enrol k gr c->k∈nu)
  (pg:D≠.back->PgAt (fun x=>x∉A'.fp\/H1 x=none) H2 d' (Ur P D)) (s2:Same H1 H2) (fd:H1 d'=none) :
  ∃ ds2 d2 P2,Ao ds d d' D=ds2++[d2]/\Ml mb (·∉A'.fp) H2 nu (n+1) ds2 d2 P2 S'/\(D≠.back->P2=Ur P D)/\(D=.back\/D=.close->(∀ s,S'.cur=some s->P2.gv=s.gv)/\(mb=true->P2.mv=Lr S')):=by
 have mv:∀ {xs:List Addr} {S0:Sea},Bk mb (·∉A.fp) H nu n xs S0->Bk mb (·∉A'.fp) H2 nu (n+1) xs S0:=fun b=>by
  have b1:=b.imp (ok':=fun x=>x∉A.fp/\x∉A'.fp) fun x ⟨o,e⟩ z=>⟨z,nx.out e z⟩
  have b2:=b1.keep (H':=H2) (fun x o z e=>s2 _ _ (fr x o e z.1)) fun t xs e=>s2 _ _ (SA.tups fr t xs e);exact(b2.imp fun x _ z=>z.2).mono (Nat.le_succ n)
 have hd1:∀ x∈ds++[d],x≠d':=fun x hx z=>by
  have b1:=F.bk.imp (ok':=fun x=>x∉A.fp/\x∉A'.fp) fun x ⟨o,e⟩ z=>⟨z,nx.out e z⟩
  have b2:=b1.keep (H':=H1) (fun x o z e=>fr x o e z.1) fun t xs e=>SA.tups fr t xs e;obtain⟨kvs,e⟩:=b2.there x hx;rw[z,fd] at e;cases e
 by_cases hb:D=.back
 ·subst hb;cases af with
  | @back S0' dd t h ht hs =>
    obtain⟨nd,⟨_,e⟩|⟨S0,b,st,_⟩⟩:=F.tl
    ·exact absurd e g
    ·have es:=zgi hs st;subst es;obtain⟨ds2,d2,P2,e,F2⟩:=(mv b).full;exact⟨ds2,d2,P2,e,F2.pend,fun z=>absurd rfl z,fun _=>⟨F2.re.gv,F2.re.mv⟩⟩
 ·have pg':PgAt (·∉A'.fp) H2 d' (Ur P D):=(pg hb).imp fun x hx z=>by
   rcases z with z|z
   ·exact z
   ·exact SA1.newOk x z
  obtain⟨o',ho⟩:=ziz F.so g af hb hn;have rb:=zgh F.re F.so g af hb;rcases ho with ⟨rfl,e1,e2⟩|⟨hc,st⟩
  ·exact⟨[],d',_,rfl,⟨pg',rb,o',nofun,.inl ⟨rfl,e1⟩⟩,fun _=>rfl,fun _=>⟨fun s hs=>(by rw[e2] at hs;cases hs),fun _=>(by rw[Vs e2];rfl)⟩⟩
  ·have hk:Ao ds d d' D=(ds++[d])++[d']:=by
    cases D with
    | back=>exact absurd rfl hb
    | close=>exact absurd rfl hc
    | enrol _ _ _=>rfl
    | away _ _=>rfl
    | draw _=>rfl
   refine⟨ds++[d],d',_,hk,⟨pg',rb,o',fun z=>hd1 d' z rfl,.inr ⟨S,mv F.bk,st,zi1 F.re.b F.so af hb hc⟩⟩,fun _=>rfl,?_⟩;rintro(z|z)
   ·exact absurd z hb
   ·exact absurd z hc
section
variable{mb:Bool}{ok ok':Addr->Prop}{A A':SAd}{H H':Hp}{nu:#[o]}{n m:Nat}{ds:#[t]}{d:Addr}{P:Pg}{S S':Sea}{D:Wj}
theorem PgAt.fr(f:FrN A A' H H')(h:PgAt (·∉A.fp) H d P):PgAt (·∉A'.fp) H' d P:=by
 have b1:=h.imp (ok':=fun x=>x∉A.fp/\x∉A'.fp) fun x ⟨o,e⟩ z=>⟨z,(f.k x o e z).2⟩
 have b2:=b1.keep (H':=H') (fun x o z e=>(f.k x o e z.1).1) f.kt;exact b2.imp fun x _ z=>z.2
theorem Wy.fr(f:FrN A A' H H')(h:Wy (·∉A.fp) H t D):Wy (·∉A'.fp) H' t D:=by
 cases D with
 | enrol a b c=>exact f.kt _ _ h
 | away a b=>exact f.kt _ _ h
 | draw ms =>
   obtain⟨l,ts,a1,a2,a3,a4⟩:=h;exact⟨l,ts,f.kt _ _ a1,(f.k _ _ a2 a4).1,a3.mono f.kt,(f.k _ _ a2 a4).2⟩
 | close=>exact f.kt _ _ h
 | back=>exact f.kt _ _ h
theorem Wy.same(e:#[p])(h:Wy ok H t D):Wy ok H' t D:=by
 cases D with
 | enrol a b c=>exact e _ _ h
 | away a b=>exact e _ _ h
 | draw ms =>
   obtain⟨l,ts,a1,a2,a3,a4⟩:=h;exact⟨l,ts,e _ _ a1,e _ _ a2,a3.mono fun _ _ z=>e _ _ z,a4⟩
 | close=>exact e _ _ h
 | back=>exact e _ _ h
theorem Wy.imp(k:∀ x,ok x->ok' x)(h:Wy ok H t D):Wy ok' H t D:=by
 cases D with
 | enrol a b c=>exact h
 | away a b=>exact h
 | draw ms =>
   obtain⟨l,ts,a1,a2,a3,a4⟩:=h;exact⟨l,ts,a1,a2,a3,k _ a4⟩
 | close=>exact h
 | back=>exact h
theorem Bk.len(b:Bk mb ok H nu n ds S):ds.length=S.std.length+1:=by
 induction b with
 | one h r o e=>rw[e];rfl
 | snoc b nd h r o st hd ih =>
   obtain⟨x,_,e⟩:=hd;rw[e,zx4,zx4,ih];rfl
theorem Full.len(F:Full mb ok H nu n ds d P S):ds.length=S.std.length:=by
 have:=F.bk.len;rw[zx4] at this;have h1:[d].length=1:=rfl;omega
theorem Full.pre(F:Full mb ok H nu n ds d P S)(g:Ih S D)(hn:n<100):zio S/\Pj S/\S.std.length<100/\S.out.length<=100000/\2*(tot S.led+1000)<=100000/\S.led.length<=1000/\S.old.length<=1000/\S.len<=1000/\(∀ i k,D=.away i k->Yf k)/\(D=.back->∃ S0,Pk S0 S):=by
 have h1:=F.so.num;have h2:=F.so.len;have h3:=F.so.olen;have h4:=F.so.tot;refine⟨F.so.cur,F.so.pok,by omega,by omega,by omega,by omega,by omega,by omega,?_,?_⟩
 ·rintro i k rfl;obtain⟨_,_,g3,_⟩:=g;obtain⟨x,hx,rfl⟩:=zya.mp g3;exact F.so.pok.small x hx
 ·rintro rfl;obtain⟨nd,⟨_,e⟩|⟨S0,b,st,_⟩⟩:=F.tl
  ·exact absurd e g
  ·exact⟨S0,st⟩
theorem Full.pre2(F:Full mb ok H nu n ds d P S)(g:Ih S D)(hn:n<100):K8 P/\P.ppl.length<=100/\P.out.length<=900/\ds.length<=900/\(D=.close->∃ ms,P.lis=some ms/\ms.length<=100):=by
 have h1:=F.so.num;have h2:=F.len;have h3:=F.so.few;refine⟨F.re.b.ovok F.so,by rw[F.re.b.ppl];omega,by rw[F.re.b.out];omega,by omega,?_⟩;rintro rfl;obtain⟨_,g2⟩:=g;cases e:S.cur with
 | none=>exact absurd e g2
 | some s=>exact⟨s.ms,by rw[F.re.b.lis,e];rfl,zyg (F.so.cur s e).1 ⋯⟩
theorem Full.back(F:Full mb ok H nu n ds d P S)(h:ds≠[]):S.std≠[]:=by
 obtain⟨nd,⟨e,_⟩|⟨S0,b,st,x,_,e⟩⟩:=F.tl
 ·exact absurd e h
 ·rw[e];simp
end
inductive Ed(K:Frag)(ca:CA)(vs:#[a])(H:Hp)(Q:VK)(_:XK):Prop where
 | mk(mb:Bool)(A:SAd)(l le:Addr)(ts:#[a])(es:List P3)(ds:#[t])(d:Addr)(P:Pg)(S:Sea)(nu:#[o])(n:Nat)(_:vs=[.ref A.p,.ref l,.ref le])(_:#[E])(_:H l=some (.lst ((ds++[d]).map V.ref)))(_:l∉A.fp)(_:Full mb (·∉A.fp) H nu n ds d P S)(_:#[w,H,le,ts])(_:le∉A.fp)(_:Z8 H ts (es.map enV))(_:(es.map (·.1)).Nodup)(_:(∀ x∈es,x.1∈nu/\¬ badI x.1 x.2.1 x.2.2/\x.1∉S.ppl.map (·.1)))(_:S.ppl.length+es.length<=30)(_:n+es.length<=90)(_:S.cur=none)(_:S.led.length<S.len)(_:∀ A' l' ds' d' P' S' H',Zy ca H' A' S'->H' l'=#[R,(ds'++[d']).map,V.ref]->l'∉A'.fp->Full mb (·∉A'.fp) H' nu (n+es.length) ds' d' P' S'->FrN A A' H H'->S'.cur=none->S'.led=S.led->S'.len=S.len->#[I,l'])
theorem zdi(pg:PgAt ok H d (zdc r q))(hr:r<=60)(hq:q<=10):Full mb ok H nu n [] d (zdc r q) (zil r q) :=
 ⟨pg,⟨⟨rfl,rfl,rfl,rfl,rfl,rfl⟩,nofun,fun _=>rfl⟩,⟨nofun,.nil,nofun,zyv _,rfl,nofun,⟨zyv _,hr,hq⟩,fun z=>absurd rfl z,⟨zyv _,zyv _⟩,fun s hs=>(by rcases hs with z|z<;>cases z)⟩,nofun,.inl ⟨rfl,rfl⟩⟩
theorem Av{lo:Int}{n:Nat}{g:TG}{tb:TS}{D:Pq}{σ:L2.St}{H:Hp}(Pv:Nat->L2.St->Hp->Prop)(h0:Pv 0 σ H)
  (hs:∀ N:L2.St->Hp->Prop,(∀ i σ H,Pv i σ H->N σ H)->∀ i σ H,i<n->Pv i σ H->g (.int (lo+i)) σ H fun σ2 H2=>tb { D with nx:=Pv (i+1),ct:=Pv (i+1),bk:=N } σ2 H2) (hd:∀ i σ H,Pv i σ H->D.nx σ H) :
  ∃ W:Nat->Nat->L2.St->Hp->Prop,(∃ m,W 0 m σ H)/\∀ i m σ H,W i m σ H ->
    ((Itr lo n).stop i H/\D.nx σ H)\/((Itr lo n).go i H/\∃ N:L2.St->Hp->Prop,(∀ σ' H',N σ' H'->∃ m',m' < m/\W (i+1) m' σ' H')/\∀ x H',(Itr lo n).yld i H x H'->g x σ H' fun σ2 H2=>tb { D with nx:=N,ct:=N,bk:=D.nx } σ2 H2) :=
 Xa Pv h0 (hs D.nx hd) (fun σ H p=>hd n σ H p)
theorem Br(S:Sea):Wq S (atV S)=S.cur:=by
 unfold Wq atV;rw[if_neg ⋯,if_neg ⋯]
theorem zi2(o:SOk nu n S)(h:S.cur=some s)(hk:k s):S8 ca H S (atV S) E k:=by
 have h1:=o.len;have h2:=o.lt (by rw[h];exact nofun);have h3:atV S=(S.led.length:Int)+1:=rfl;refine⟨Yi ⋯ ⋯,o.olen,?_⟩;rw[if_neg ⋯,Br];exact⟨fun z=>(by rw[h] at z;cases z),fun s' hs=>(by rw[h] at hs;cases hs;exact hk)⟩
theorem zj9(SA:#[E])(h:Wy (fun x=>H x=none) H' t D):Wy (·∉A.fp) H' t D:=h.imp fun x hx=>SA.newOk x hx
def Ee(H H':Hp):Prop:=W7 H H'/\∀ x c e f,H x=some (.ins c e f)->H' x=some (.ins c e f)
theorem Ee.dict(h:H d=#[b,.dK,kvs]):Ee H (upd H d (.dK kvs')) :=
 ⟨.dict h,fun x c e f z=>by rw[Zj (Y2 z h (by intro z;cases z))];exact z⟩
theorem ShAt.keepI(k:Ee H H')(h:ShAt C ok H q s):ShAt C ok H' q s:=by
 obtain⟨dx,l1,l2,l3,l4,ts,ls,gts,a1,a2,a3,a4,a5,a6,a7,a8,o1,o2,o3,o4,o5,o6⟩:=h;exact⟨dx,l1,l2,l3,l4,ts,ls,gts,k.2 _ _ _ _ a1,k.1.1 _ _ a2,a3.mono k.1.2,k.1.1 _ _ a4,ILs.keepL k.1 a5,k.1.1 _ _ a6,k.1.1 _ _ a7,a8.keepL k.1,o1,o2,o3,o4,o5,o6⟩
theorem ShO.keepI(k:Ee H H')(h:ShO C ok H v s):ShO C ok H' v s:=by
 cases s with
 | none=>exact h
 | some s=>obtain⟨q,e,h⟩:=h;exact⟨q,e,h.keepI k⟩
theorem ShL.keepI(k:Ee H H'):∀ {vs:List V} {ss:List Z3},ShL C ok H vs ss->ShL C ok H' vs ss
 | _,_,.nil=>.nil
 | _,_,.cons h r=>.cons (h.keepI k) (ShL.keepI k r)
theorem Uk.keepI(k:Ee H H'):∀ {vs:List V} {ss:List (Tp×Option Z3)},Uk C ok H vs ss->Uk C ok H' vs ss
 | _,_,.nil=>.nil
 | _,_,.cons h hu hs r=>.cons (k.1.2 _ _ h) (k.1.2 _ _ hu) (hs.keepI k) (Uk.keepI k r)
theorem Zy.dictW(h:#[E])(hd:H d=#[b,.dK,kvs])(n:d∉A.fp):Zy ca (upd H d (.dK kvs')) A S:=by
 have k:=Ee.dict hd (kvs':=kvs');have hn:∀ x∈A.fp,∀ o,H x=#[c]->upd H d (.dK kvs') x=#[c]:=fun x hx o e=>by rw[Zj fun z=>n (by rw[<- z];exact hx)];exact e
 obtain⟨⟨dx,v,a1,a2⟩,b,c,⟨kvs0,d1,d2⟩,⟨vs,f1,f2⟩,⟨us,g1,g2⟩,nd,np⟩:=h;have hp:A.p∈A.fp:=by simp[SAd.fp]
 have hdr:A.dr∈A.fp:=by simp[SAd.fp]
 have hlr:A.lr∈A.fp:=by simp[SAd.fp]
 have hld:A.ld∈A.fp:=by simp[SAd.fp]
 have hda:A.da∈A.fp:=by simp[SAd.fp]
 have hls:A.ls∈A.fp:=by simp[SAd.fp]
 have hlt:A.lt∈A.fp:=by simp[SAd.fp]
 obtain⟨⟨dxr,kvr,r1,r2,r3⟩,ndr⟩:=b;obtain⟨⟨dxl,l1⟩,l2,l3⟩:=id c;refine⟨⟨dx,v,hn _ hp _ a1,a2.keepI k⟩,⟨⟨dxr,kvr,k.2 _ _ _ _ r1,hn _ hdr _ r2,r3.mono k.1.2⟩,ndr⟩,c.keep (fun o e=>?_) (hn _ hlr) (hn _ hld) k.1.2,⟨kvs0,hn _ hda _ d1,d2⟩,⟨vs,hn _ hls _ f1,f2.keepI k⟩,⟨us,hn _ hlt _ g1,g2.keepI k⟩,nd,np⟩;rw[l1] at e;cases e;exact k.2 _ _ _ _ l1
theorem FrN.dictW{A:SAd}{H:Hp}{d:Addr}{kvs kvs':#[N]}(hd:H d=#[b,.dK,kvs]){b:Addr}{o:HO}(e:H b=some o)(h:∀ k,o≠.dK k):upd H d (.dK kvs') b=some o:=by
 rw[Zj (Y2 e hd (by intro z;exact h _ z))];exact e
theorem S9.dictW{K:Frag}{A:SAd}{H:Hp}{d b:Addr}{kvs kvs':#[N]}{xs:#[a]}(h:S9 K A H b xs)(hd:H d=#[b,.dK,kvs]):S9 K A (upd H d (.dK kvs')) b xs:=by
 rcases h with ⟨h|⟨o,h⟩,n⟩|h
 ·exact .inl ⟨.inl (FrN.dictW (A:=A) hd h (by intro k z;cases z)),n⟩
 ·exact .inl ⟨.inr ⟨o,FrN.dictW (A:=A) hd h (by intro k z;cases z)⟩,n⟩
 ·exact .inr h
theorem Ls.dictW{A:SAd}{H:Hp}{d t lc ln:Addr}{cs nu:#[o]}{kvs kvs':#[N]}(h:Ls A H t lc ln cs nu)(hd:H d=#[b,.dK,kvs]):Ls A (upd H d (.dK kvs')) t lc ln cs nu:=by
 have k:=W7.dict hd (kvs':=kvs');obtain⟨⟨a1,a2,a3,a4,a5,a6,a7,a8,a9⟩,o⟩:=h;exact⟨⟨k.2 _ _ a1,k.1 _ _ a2,k.1 _ _ a3,a4,a5,a6,a7,a8,a9⟩,o⟩
theorem zbz(FP:Yr rows gs)(T:V3 rows gs):za3 rows gs:=fun p hp q k hw hf=>by
 obtain⟨S,h1,h2⟩:=T p hp;have hS:S q:=by
  clear hf
  induction hw with
  | nil=>exact h1
  | snoc w a ih =>
    obtain⟨⟨r,e1,e2⟩,e3⟩:=a;obtain⟨q',_,e4,e5⟩:=(h2 _ ih).2 r e1 _ e2;rw[FP.inj _ _ _ e3 e4];exact e5
 obtain⟨n,⟨r,e1,e2⟩,e3⟩:=hf;obtain⟨q',_,e4,_⟩:=(h2 q hS).2 r e1 n e2;exact e3 q' e4
theorem zb0(F:Yr rows gs)(n:Int):(List.range gs.length).filter (fun k=>#[i,gs[k]?=#[l,n]])=(Wa gs n).toList:=by
 cases hp:Wa gs n with
 | none =>
   rw[Option.toList_none,List.filter_eq_nil_iff];intro k hk;rcases J7 gs n with z|⟨i,z,_⟩
   ·have:=z.2 k
    simpa using this
   ·rw[hp] at z;cases z
 | some p =>
   have hx:=Qs hp;have:(fun k=>#[i,gs[k]?=#[b,V.int,n]])=fun k=>#[i,k=p]:=by
    funext k
    apply decide_eq_decide.mpr;exact⟨fun h=>F.inj k p n h hx,fun h=>by rw[h];exact hx⟩
   rw[this,Option.toList_some];have hlt:=(zx3.mp hx).1;generalize gs.length=m at hlt;clear this hx hp
   induction m with
   | zero=>omega
   | succ m ih =>
     rw[List.range_succ,zzk];by_cases e:p=m
     ·subst e;have:(List.range p).filter (fun k=>#[i,k=p])=[]:=by
       rw[List.filter_eq_nil_iff];intro k hk;have:=zza.mp hk;simp;omega
      rw[this];simp
     ·rw[ih ⋯];have:¬ m=p:=fun z=>e z.symm;simp[this]
theorem RelB.why(r:RelB mb P S)(o:SOk nu n S)(x m:P3):whyP P x m=whyS S.led x.1 x.2.1 x.2.2 m.1 m.2.1 m.2.2 (pIn S.out (atV S) x) S.rest:=by
 unfold whyP pIn;rw[r.rows,<- o.led,r.out,r.rest,r.at o]
end G
namespace L2
open PySem PySem.Spec PyProof.Rows
theorem fnS(a:sc.kind=.function:=by rfl)(b:sc.isCoroutine=false:=by rfl)(c:sc.isGenerator=false:=by rfl)(d:N.Nodup:=by decide +kernel)(e:N.take P.length=P:=by rfl)(f:∀ x∈P,sc.names.lookup x=some .local\/sc.names.lookup x=some .cell:=by decide +kernel)(g:∀ y∈sc.names,y.2≠.free:=by decide +kernel):Zn N P sc:=⟨a,b,c,d,e,f,g⟩
section
variable{X:Cx}{k j:Nat}{C:Addr}{ps:List Str}{sp:Sp}{E:XK}{x m:Str}{p pos pos' apos:Pos}{e o a b:Expr}{es:List Expr}{ta tb te:TE}{t:TA}{r:R2}
theorem pS(i:Nat)(hN:X.N.Nodup)(he:PE X e te)(hi:X.N[i]?=some x:=by rfl)(hx:Loc X.env.scope x:=by first|exact Or.inl rfl|exact Or.inr rfl)(hs:swapsWith e (some (.Name x pos')) pos.line X.env=pure false:=by rfl)(hf:zcc X i x:=by first|exact⟨.inl rfl,W3⟩|exact⟨.inr rfl,W3⟩|assumption|exact⟨.inl rfl,by assumption⟩|exact⟨.inr rfl,by assumption⟩) :
  PS X (.Assign [.Name x pos'] e pos) (ze6 te (Wu i)):=zk3 hN hi hx he hs hf
theorem pN(i:Nat)(hN:X.N.Nodup)(hi:X.N[i]?=some x:=by rfl)(hx:Loc X.env.scope x:=by first|exact Or.inl rfl|exact Or.inr rfl)(hf:zcc X i x:=by first|exact⟨.inl rfl,W3⟩|exact⟨.inr rfl,W3⟩|assumption|exact⟨.inl rfl,by assumption⟩|exact⟨.inr rfl,by assumption⟩):PG X (.Name x pos) (Wu i):=Vc hN hi hx hf
theorem pI(hr:IxR X r)(ha:PE X a ta)(hb:PE X b tb)(hs:zd3 b:=by exact fun _ _=>rfl):PE X (.Subscript a b pos) (tOp r ta tb):=zm5 hr ha hb hs
theorem pD(hu:X.A.units+1<cLine)(ho:PE X a ta)(hi:PE X b tb)(hs:zk9 b:=by exact fun _ _=>rfl):PE X (.Subscript a b pos) (zhb ta tb):=zji hu ho hi hs
theorem pF(D:Zz X.prog X.w X.K X.mg X.base x k ps sp)(hr:Vl j X.A)(ha:PA X (e :: es) t)(hk:k<=j:=by decide)(hx:Vh (CX1 X.prog X.w) X E:=by exact Zi)(hg:Gl X x:=by rfl)(hdb:(x == ("__debug__":Str))=false:=by decide)
  (he:starEach (e :: es) X.env=(false,#[B,e]) :: starEach es X.env:=by rfl) (hpl:#[ak]=false:=by rfl):PE X (.Call (.Name x p) (e :: es) [] pos) (zdw sp [] E t):=zd5 D (hr.mono hk) hx hg ha hdb he hpl
theorem iL(K:Frag)(h:X.K=K:=by rfl):IxR X (Bw K):=zht h
theorem iU(K:Frag)(h:X.K=K:=by rfl):IxR X (zfh K):=zjr h
theorem cL(K:Frag)(h:X.K=K:=by rfl):V2 X (.builtin "len") (fun xs H Q=>∃ p ys,xs=[.ref p]/\(SqL K H p ys\/SqT K H p ys)/\Q (.int ys.length) H):=Dx h
end
theorem cT(ys:List Str)(js:List Nat)(a:closureFor scope X.env=pure cl:=by rfl)(b:scope.kind=.function:=by rfl)(c:∀ y∈scope.names,y.2=.local->scope.names.lookup y.1=some .local:=by decide +kernel)(d:∀ y∈scope.names,y.2≠.cell:=by decide +kernel)(e:scope.names.lookup x=some .local:=by rfl)(f:(x :: ys).Nodup:=by decide +kernel)(g:js.map (X.N[·]?)=ys.map some:=by rfl)
  (h:Dw (fun y=>X.env.kindOf y=some .cell/\(relabel scope X.env).names.lookup y=some .cell/\cl.lookup y=#[P,y]) ys:=by repeat' (first|exact True.intro|apply And.intro|rfl)) (i:Dw (fun p=>#[P,p.1]=some p.2) cl:=by repeat' (first|exact True.intro|apply And.intro|rfl)) (j:∀ y∈scope.names,y.2=.free->y.1∈ys:=by decide +kernel):zd4 X x scope cl ys js:=⟨a,b,c,d,e,f,g,h,i,j⟩
abbrev LkF(K:Frag)(f:Addr)(x q:Str)(st:Stmt)(oc kV dc pm cd ct:Value)(od an:Option Addr)(sl:Array (Option Value)):Prop:=K.lookup f=some ⟨oc,od,.func (PySem.W.fnOf x q (Sy st) (Zw st) (Zg st) .none kV dc pm an cd ct),sl⟩
abbrev NsB(K:Frag)(x:Str)(f:Addr):Prop:=PySem.W.nsIn K mainGlobals x=some #[d,f]
abbrev FdB(K:Frag)(c:Addr)(x:Str)(f:Addr):Prop:=PySem.W.findIn K (.ref c) x=some #[d,f]
abbrev BnA(x q:Str)(st:Stmt)(ps:List Str):Prop:=∀ (kV doc pm:Value) (an:Option Addr) (cdv ct:Value) (us:List Value),us.length=ps.length->bindArgs (PySem.W.fnOf x q (Sy st) (Zw st) (Zg st) .none kV doc pm an cdv ct) ⟨us,[]⟩=pure (ps.zip us)
abbrev BnE(x q:Str)(st:Stmt)(ps:List Str)(us:List Value):Prop:=∀ (kV doc pm:Value) (an:Option Addr) (cdv ct:Value),bindArgs (PySem.W.fnOf x q (Sy st) (Zw st) (Zg st) .none kV doc pm an cdv ct) ⟨us,[]⟩=pure (ps.zip us)
section
variable{x q a b c d e g:Str}{st:Stmt}
theorem bnS{us:List Value}{n:Nat}(h:us.length=n+1):∃ u vs,us=u :: vs/\vs.length=n:=by
 cases us with
 | nil=>cases h
 | cons u vs=>exact⟨u,vs,rfl,Nat.succ.inj h⟩
theorem bn1(h:∀ u,BnE x q st [a] [u]:=by intros _ _ _ _ _ _ _;rfl):BnA x q st [a]:=fun _ _ _ _ _ _ us hl=>by obtain⟨_,us,rfl,l0⟩:=bnS hl;cases us with|nil=>exact h _ _ _ _ _ _ _|cons _ _=>cases l0
theorem bn2(h:∀ u v,BnE x q st [a,b] [u,v]:=by intros _ _ _ _ _ _ _ _;rfl):BnA x q st [a,b]:=fun _ _ _ _ _ _ us hl=>by obtain⟨_,us,rfl,l0⟩:=bnS hl;obtain⟨_,us,rfl,l1⟩:=bnS l0;cases us with|nil=>exact h _ _ _ _ _ _ _ _|cons _ _=>cases l1
theorem bn3(h:∀ u v w,BnE x q st [a,b,c] [u,v,w]:=by intros _ _ _ _ _ _ _ _ _;rfl):BnA x q st [a,b,c]:=fun _ _ _ _ _ _ us hl=>by obtain⟨_,us,rfl,l0⟩:=bnS hl;obtain⟨_,us,rfl,l1⟩:=bnS l0;obtain⟨_,us,rfl,l2⟩:=bnS l1;cases us with|nil=>exact h _ _ _ _ _ _ _ _ _|cons _ _=>cases l2
theorem bn4(h:∀ u v w y,BnE x q st [a,b,c,d] [u,v,w,y]:=by intros _ _ _ _ _ _ _ _ _ _;rfl):BnA x q st [a,b,c,d]:=fun _ _ _ _ _ _ us hl=>by obtain⟨_,us,rfl,l0⟩:=bnS hl;obtain⟨_,us,rfl,l1⟩:=bnS l0;obtain⟨_,us,rfl,l2⟩:=bnS l1;obtain⟨_,us,rfl,l3⟩:=bnS l2;cases us with|nil=>exact h _ _ _ _ _ _ _ _ _ _|cons _ _=>cases l3
theorem bn5(h:∀ u v w y z,BnE x q st [a,b,c,d,e] [u,v,w,y,z]:=by intros _ _ _ _ _ _ _ _ _ _ _;rfl):BnA x q st [a,b,c,d,e]:=fun _ _ _ _ _ _ us hl=>by obtain⟨_,us,rfl,l0⟩:=bnS hl;obtain⟨_,us,rfl,l1⟩:=bnS l0;obtain⟨_,us,rfl,l2⟩:=bnS l1;obtain⟨_,us,rfl,l3⟩:=bnS l2;obtain⟨_,us,rfl,l4⟩:=bnS l3;cases us with|nil=>exact h _ _ _ _ _ _ _ _ _ _ _|cons _ _=>cases l4
end
section
variable{K:Frag}{mg:#[M]}{x y q m:Str}{k:Nat}{ps:List Str}{sp:Sp}{C:Addr}{st:Stmt}{f:Addr}{fd:FuncData}
theorem dMk(P:Program)(w:World)(base:Heap)(F:#[g,x,q,st])(ok:FnOk P w K mg base #[f] k f fd ps sp)(b:mg y=#[b,.ref,f])(hb:BnA x q st ps:=by first|exact bn1|exact bn2|exact bn3|exact bn4|exact bn5):Zz P w K mg base y k ps sp:=⟨f,fd,ok,b,F.kp,F.binds hb⟩
theorem mMk(P:Program)(w:World)(base:Heap)(F:#[g,x,q,st])(ok:FnOk P w K mg base #[f] k f fd ps sp)(b:zg6 K C m f)(hb:BnA x q st ps:=by first|exact bn1|exact bn2|exact bn3|exact bn4|exact bn5):Zq P w K mg base C m k ps sp:=⟨f,fd,ok,b,F.binds hb⟩
theorem nMk(P:Program)(w:World)(base:Heap)(F:#[g,x,q,st])(ok:FnOk P w K mg base #[f] k f fd ps sp)(b:Mk K C f)(c:mg y=#[b,.ref,C])(hb:BnA x q st ps:=by first|exact bn1|exact bn2|exact bn3|exact bn4|exact bn5):Tz P w K mg base y C k ps sp:=⟨f,fd,ok,b,c,F.binds hb⟩
end
structure LN(K:Frag)(x q:Str)(st:Stmt)(f:Addr)(oc kV dc pm cd ct:Value)(od an:Option Addr)(sl:Array (Option Value)):Prop where
 b:NsB K x f
 l:LkF K f x q st oc kV dc pm cd ct od an sl
 c:PySem.W.codeIn K cd q=true
 k:PySem.W.keepIn K (.ref f)=true
structure LM(K:Frag)(C:Addr)(x q:Str)(st:Stmt)(f:Addr)(oc kV dc pm cd ct:Value)(od an:Option Addr)(sl:Array (Option Value)):Prop where
 b:FdB K C x f
 l:LkF K f x q st oc kV dc pm cd ct od an sl
 c:PySem.W.codeIn K cd q=true
 k:PySem.W.keepIn K (.ref f)=true
 i:PySem.W.isFn K (.ref f)=true
abbrev XcB(K:Frag)(c:Addr):Prop:=PySem.W.excIn K c [.type "ValueError",.type "Exception",.type "BaseException",.type "object"] "ValueError.__new__"=true
abbrev NzB(K:Frag)(x:Str):Prop:=PySem.W.nsIn K mainGlobals x=some none
structure XG(P:Program)(w:World)(base:Heap)(K:Frag)(mg:#[M])(h:Heap):Prop where
 X:K.In h
 G:h.Ns mainGlobals mg
section
variable{P:Program}{w:World}{base h:Heap}{K:Frag}{mg:#[M]}{x y q:Str}{k:Nat}{ps:List Str}{sp:Sp}{C:Addr}{st:Stmt}{f:Addr}{oc kV dc pm cd ct:Value}{od an:Option Addr}{sl:Array (Option Value)}
theorem dN(Z:XG P w base K mg h)(l:LN K x q st f oc kV dc pm cd ct od an sl)(ok:∀ {fd},#[g,x,q,st]->FnOk P w K mg base #[f] k f fd ps sp)(hb:BnA x q st ps:=by first|exact bn1|exact bn2|exact bn3|exact bn4|exact bn5):Zz P w K mg base x k ps sp :=
 dMk P w base (Qi l.l l.c l.k) (ok (Qi l.l l.c l.k)) (PySem.W.mg_of Z.X Z.G l.b) hb
theorem dA(Z:XG P w base K mg h)(l:LN K x q st f oc kV dc pm cd ct od an sl)(b:PySem.W.nsIn K mainGlobals y=some #[d,f])(ok:∀ {fd},#[g,x,q,st]->FnOk P w K mg base #[f] k f fd ps sp)(hb:BnA x q st ps:=by first|exact bn1|exact bn2|exact bn3|exact bn4|exact bn5):Zz P w K mg base y k ps sp :=
 dMk P w base (Qi l.l l.c l.k) (ok (Qi l.l l.c l.k)) (PySem.W.mg_of Z.X Z.G b) hb
theorem mM(_:XG P w base K mg h)(l:LM K C x q st f oc kV dc pm cd ct od an sl)(ok:∀ {fd},#[g,x,q,st]->FnOk P w K mg base #[f] k f fd ps sp)(hb:BnA x q st ps:=by first|exact bn1|exact bn2|exact bn3|exact bn4|exact bn5):Zq P w K mg base C x k ps sp :=
 mMk P w base (Qi l.l l.c l.k) (ok (Qi l.l l.c l.k)) ⟨l.b,l.i,l.k⟩ hb
theorem nM(Z:XG P w base K mg h)(l:LM K C "__init__" q st f oc kV dc pm cd ct od an sl)(m:PySem.W.makesIn K C=true)(kc:PySem.W.keepIn K (.ref C)=true)(c:PySem.W.nsIn K mainGlobals y=some #[d,C])(ok:∀ {fd},#[g,"__init__",q,st]->FnOk P w K mg base #[f] k f fd ps sp)(hb:BnA "__init__" q st ps:=by first|exact bn1|exact bn2|exact bn3|exact bn4|exact bn5):Tz P w K mg base y C k ps sp :=
 nMk P w base (Qi l.l l.c l.k) (ok (Qi l.l l.c l.k)) ⟨m,l.b,l.i,kc⟩ (PySem.W.mg_of Z.X Z.G c) hb
end
section
variable{X:Cx}{elt iter:Expr}{x:Str}{px pos:Pos}{ifs:List Expr}{scope:Scope}{cl:List (Str×Addr)}{ys:List Str}{js:List Nat}
theorem Ef{pins:#[v]}{σ:St}{H:Hp}{s:Shared}{tt:TT}{te:TE}{it:Addr}{fp:#[t]}{tn:Nat->Heap->Prop}{J:It}{W:Nat->Nat->#[a]->Hp->Prop}{m0:Nat}{Q:VK}{E:Value->Shared->Prop}{RR:Value->Addr->Result->Shared->Prop}
  (hcm:X.calm=true) (c:zd4 X x scope cl ys js) (ht:∀ pn s₀ H₀ fp C,PTs (Y4 X pn (x :: ys) scope cl s₀ H₀ fp C) ifs tt) (hgt:∀ pn s₀ H₀ fp C,PG (Y4 X pn (x :: ys) scope cl s₀ H₀ fp C) (.Name x px) (Wu 0)) (he:∀ pn s₀ H₀ fp C,PE (Y4 X pn (x :: ys) scope cl s₀ H₀ fp C) elt te)
  (I:#[h]) (T:zaf X.prog X.w X.K (.Name x px) J fp it tn) (st0:tn 0 s.heap) (hf:∀ b∈fp,FpOk X pins H b) (w0:W 0 m0 [] H)
  (turn:∀ i m ys H,W i m ys H->(J.stop i H/\ys.length<=sizeLine/\∀ p,H p=none->Q (.ref p) (upd H p (.lst ys))) \/
   (J.go i H/\ys.length<sizeLine/\∃ N:#[a]->Hp->Prop,(∀ ys' H',N ys' H'->∃ m',m' < m/\W (i+1) m' ys' H')/\∀ x H',J.yld i H x H'->tt (cs js σ x) H' fun b H2=>if b=true then te (cs js σ x) H2 fun y H3=>N (ys++[y]) H3 else N ys H2))
  (hRR:∀ D C s' m,s'.heap.Ns C m->(∀ h',Heap.SameBut C s'.heap h'->∃ H',Inv X pins σ H' { s' with heap:=h' }/\Q (.ref D) H')->(∃ H',Inv X pins σ H' s'/\Q (.ref D) H'/\H' C=none)->s.heap.objs.size<=C->RR (.ref D) C (.ok .next) s') :
  wpAny (model X.prog X.w) X.A (newList []) (fun acc s₃=>#[U,X.A,newFunctionEnv scope X.env.globals cl [] X.env.qual none .none (some X.env),(fun cenv s₄ =>
   codeAny (model X.prog X.w) X.A (.compStart (.ListComp elt [⟨.Name x px,iter,ifs,0⟩] scope pos) 0 (.ref it) acc { cenv with scope:=relabel scope X.env }) (RR acc cenv.locals) s₄),E,s₃]) E s :=
 Fe (xo:=[x]) (g:=Wu 0) hcm ⟨c.clos,c.kind,c.names,c.nocell,c.at_,c.free,c.only,c.vis⟩ ht hgt he I T st0 hf w0 (fun i m ys H w=>(turn i m ys H w).imp id fun ⟨a,b,N,n1,n2⟩=>⟨a,b,N,n1,fun y H' hy=>⟨#[q,[some y],rfl],n2 y H' hy⟩⟩) hRR
variable{wi:TI}{tt:TT}{te:TE}
theorem Ww(hcm:X.calm=true)(c:zd4 X x scope cl ys js)(hi:PI X (.Name x px) iter wi)(ht:∀ pn s₀ H₀ fp C,PTs (Y4 X pn (x :: ys) scope cl s₀ H₀ fp C) ifs tt)(he:∀ pn s₀ H₀ fp C,PE (Y4 X pn (x :: ys) scope cl s₀ H₀ fp C) elt te)
  (hx:∀ C,(compEnvC scope cl C X.env).scope.names.lookup x=some .local:=by intro _;rfl) (hs:∀ x,foldedSetIterable iter X.env x=pure x:=by intro _;rfl):PE X (.ListComp elt [⟨.Name x px,iter,ifs,0⟩] scope pos) (zhr wi js tt te):=by
 intro pins s σ H Q I h;rw[eval_ListComp];refine wpAny_comprehension_free (use:=none) rfl hs c.clos c.kind c.names (thn (hi pins s σ H _ I h) fun v s1 h1=>thn h1 fun itv s2 h2=>?_);obtain⟨it,fp,tn,J,H2,e,I2,T,st2,f2,W,⟨m0,w0⟩,turn⟩:=h2;subst e;exact Ef (RR:=fun acc C=>compPost (model X.prog X.w) X.A X.xe none (EP X pins σ Q) acc C) hcm c ht (fun _ _ _ _ C=>Vc (X:=Y4 X _ (x :: ys) scope cl _ _ _ C) c.nd rfl (.inl (hx C)) ⟨.inr (hx C),W3⟩) he I2 T st2 f2 w0 turn fun D C s' m hn hS _ _=>⟨m,hn,fun h' hs'=>let ⟨H',I',q⟩:=hS h' hs';⟨.ref D,H',I',rfl,q⟩⟩
theorem V1{y:Str}{py spos:Pos}{i:Nat}(hN:X.N.Nodup)(hy:X.N[i]?=some y)(hk:X.env.scope.names.lookup y=some .local)(hcm:X.calm=true)(c:zd4 X x scope cl ys js)(hi:PI X (.Name x px) iter wi)(ht:∀ pn s₀ H₀ fp C,PTs (Y4 X pn (x :: ys) scope cl s₀ H₀ fp C) ifs tt)
  (he:∀ pn s₀ H₀ fp C,PE (Y4 X pn (x :: ys) scope cl s₀ H₀ fp C) elt te)
  (hx:∀ C,(compEnvC scope cl C X.env).scope.names.lookup x=some .local:=by intro _;rfl) (hsw:swapsWith (.ListComp elt [⟨.Name x px,iter,ifs,0⟩] scope pos) (some (.Name y py)) spos.line X.env=pure true:=by rfl) (hs:∀ x,foldedSetIterable iter X.env x=pure x:=by intro _;rfl)
  (hf:zcc X i y:=by first|exact⟨.inr rfl,W3⟩|assumption|exact⟨.inr rfl,by assumption⟩) :
  PS X (.Assign [.Name y py] (.ListComp elt [⟨.Name x px,iter,ifs,0⟩] scope pos) spos) (ze6 (zhr wi js tt te) (Wu i)):=by
 intro pins s σ H D0 I h;rw[exec_Assign_Name_used _ _ _ _ hsw];refine wpAny_bind (wpAny_standAt (wpAny_bind ?_));show wpAny _ X.A (do let _ <- comprehension (.ListComp elt [⟨.Name x px,iter,ifs,0⟩] scope pos) scope X.env _ (newList []) false #[B,iter] (some (assign (.Name y py) X.env))) _ _ s;refine wpAny_bind (wpAny_mono (wpAny_comprehension_free (use:=some (assign (.Name y py) X.env)) (Q:=fun _ s'=>SP X pins D0 .next s') rfl hs c.clos c.kind c.names
  (thn (hi pins s σ H _ I h) fun v s1 h1=>thn h1 fun itv s2 h2=>?_)) (fun _ s' hq=>wpAny_pure (wpAny_pure hq)) fun _ _ e=>e)
 obtain⟨it,fp,tn,J,H2,e,I2,T,st2,f2,W,⟨m0,w0⟩,turn⟩:=h2;subst e;refine Ef (Q:=fun x H1=>D0.nx (σ.set i (some x)) H1) (RR:=fun acc C=>compPost (model X.prog X.w) X.A X.xe (some (assign (.Name y py) X.env)) (fun _ s'=>SP X pins D0 .next s') acc C) hcm c ht (fun _ _ _ _ C=>Vc (X:=Y4 X _ (x :: ys) scope cl _ _ _ C) c.nd rfl (.inl (hx C)) ⟨.inr (hx C),W3⟩) he I2 T st2 f2 w0 turn fun D C s' m hn _ hS hC=>?_;obtain⟨H',I',q,fC⟩:=hS;show wpAny _ X.A (assign (.Name y py) X.env (.ref D)) _ _ _;have ltC:∀ b o,s2.heap.get? b=#[c]->b≠C:=fun b o e=>zyu (zyn (Heap.lt_size e) hC);have neL:C≠X.env.locals:=by
  obtain⟨_,⟨o,_,_,ho,_⟩,_⟩:=I2.loc;exact Ne.symm (ltC _ o ho)
 have neK:∀ z a,#[P,z]=some a->a≠C:=fun z a e=>by
  obtain⟨_,o,ho,_⟩:=I2.cell z a e;exact ltC a o ho
 refine wpAny_assign_Name (Cu I' hN hy (.inl hk) (v:=.ref D) (show RelV (.ref D) (.ref D) from rfl) (fun s4 I4 ⟨a,hs4,ha⟩=>?_) hf);have naC:C≠a:=by
  rcases ha with ha|ha
  ·rw[ha];exact neL
  ·exact Ne.symm (neK _ _ ha)
 refine⟨m,hn.sameBut hs4 naC,fun h5 hs5=>⟨_,H',?_,q⟩⟩;refine I4.turned (t':=s4.toks) (it:=C) (fun b o hb e=>hs5.extBut b o hb e) fC neL (.inr (zyg I2.sz hC)) neK fun p hp=>?_;obtain⟨e,_⟩:=I2.pin p hp;exact ltC _ _ e
end
end L2
namespace G
open PySem PySem.Spec PyProof.Rows L2
def Im:Wj->Str
 | .enrol _ _ _=>"enrol"
 | .away _ _=>"away"
 | .draw _=>"draw up"
 | .close=>"close"
 | .back=>"take back"
theorem Wy.word(h:Wy ok H t D):∃ r,H t=#[z,.str (Im D) :: r]:=by
 cases D with
 | enrol a b c=>exact⟨_,h⟩
 | away a b=>exact⟨_,h⟩
 | draw ms=>obtain⟨l,ts,a1,_⟩:=h;exact⟨_,a1⟩
 | close=>exact⟨_,h⟩
 | back=>exact⟨_,h⟩
inductive Eg(K:Frag)(vs:#[a])(H:Hp)(Q:VK)(_:XK):Prop where
 | mk(ok ok':Addr->Prop)(b c:Addr)(ts us:#[a])(G0:zir)(_:vs=[.ref b,.ref c])(_:#[w,H,b,ts])(_:#[w,H,c,us])(_:X5 ok H ts G0)(_:X5 ok' H us G0)(_:G0.length<=1000)(_:(∀ x∈G0,x.2.length<=1000))(_:Q (.bl true) H)
theorem PgAt.setMoves(h:PgAt ok H d P)(hl:#[w,H,l,ts])(gl:X5 ok H ts G0)(ol:ok l):∃ kvs,H d=#[b,.dK,kvs]/\kvs.length<sizeLine/\PgAt ok (upd H d (.dK (putK kvs (.inr "moves") (.ref l)))) d { P with mv:=G0 }:=by
 obtain⟨lp,lo,lv,dv,li,lg,lm,a1,a2,a3⟩:=h.split;refine⟨_,a1,zdb,?_⟩;rw[Bp];have b:=a2.keepL (.dict a1 (kvs':=pgF P.len P.rest lp lo lv dv li lg l));exact .join (P:={ P with mv:=G0 }) Ze ⟨b.pp,b.oo,b.vv,b.dd,b.li,b.gg,_,(W7.dict a1).1 _ _ hl,gl.keepL (.dict a1),ol⟩ a3
theorem RelB.setGv(h:RelB mb P S)(gv:#[a]):RelB mb { P with gv:=gv } S:=⟨h.len,h.rest,h.ppl,h.out,h.over,h.lis⟩
theorem RelB.setMv(h:RelB mb P S)(mv:zir):RelB mb { P with mv:=mv } S:=⟨h.len,h.rest,h.ppl,h.out,h.over,h.lis⟩
theorem Ml.setGoes(h:Ml mb ok H nu n ds d P S)(hl:#[w,H,l,xs])(ol:ok l):∃ kvs,H d=#[b,.dK,kvs]/\kvs.length<sizeLine/\Ml mb ok (upd H d (.dK (putK kvs (.inr "goes") (.ref l)))) nu n ds d { P with gv:=xs } S:=by
 obtain⟨kvs,a1,a2,a3⟩:=h.pg.setGoes hl ol;refine⟨kvs,a1,a2,a3,h.rb.setGv xs,h.so,?_⟩;obtain⟨nd,e|⟨S0,b,r⟩⟩:=h.tl
 ·exact⟨nd,.inl e⟩
 ·exact⟨nd,.inr ⟨S0,b.other a1 nd,r⟩⟩
theorem Ml.setMoves(h:Ml mb ok H nu n ds d P S)(hl:#[w,H,l,ts])(gl:X5 ok H ts G0)(ol:ok l):∃ kvs,H d=#[b,.dK,kvs]/\kvs.length<sizeLine/\Ml mb ok (upd H d (.dK (putK kvs (.inr "moves") (.ref l)))) nu n ds d { P with mv:=G0 } S:=by
 obtain⟨kvs,a1,a2,a3⟩:=h.pg.setMoves hl gl ol;refine⟨kvs,a1,a2,a3,h.rb.setMv G0,h.so,?_⟩;obtain⟨nd,e|⟨S0,b,r⟩⟩:=h.tl
 ·exact⟨nd,.inl e⟩
 ·exact⟨nd,.inr ⟨S0,b.other a1 nd,r⟩⟩
end G
namespace G
open PySem PySem.Spec PyProof.Rows L2
inductive RwL(H:Hp):#[t]->#[T]->Prop where
 | nil:RwL H [] []
 | cons {l:Addr} {ls:#[t]} {ts:#[a]} {rs:List Row} {Rs:#[T]} (h:#[w,H,l,ts]) (t:Z8 H ts (rs.map row4)) (n:RwL H ls Rs):RwL H (l :: ls) (rs :: Rs)
theorem RwL.same(e:#[p]):∀ {ls:List Addr} {Rs:List (List Row)},RwL H ls Rs->RwL H' ls Rs
 | _,_,.nil=>.nil
 | _,_,.cons h t n=>.cons (e _ _ h) (t.same e) (RwL.same e n)
theorem RwL.length:∀ {ls:List Addr} {Rs:List (List Row)},RwL H ls Rs->ls.length=Rs.length
 | _,_,.nil=>rfl
 | _,_,.cons _ _ n=>by simp[RwL.length n]
theorem RwL.snoc(h:#[w,H,l,ts])(t:Z8 H ts (rs.map row4)):∀ {ls:List Addr} {Rs:List (List Row)},RwL H ls Rs->RwL H (ls++[l]) (Rs++[rs])
 | _,_,.nil=>.cons h t .nil
 | _,_,.cons h' t' n=>.cons h' t' (RwL.snoc h t n)
theorem RwL.getR:∀ {ls:List Addr} {Rs:List (List Row)} {i:Nat} {rs:List Row},RwL H ls Rs->Rs[i]?=some rs->∃ l ts,ls[i]?=some l/\H l=#[r,ts]/\Z8 H ts (rs.map row4)
 | _,_,_,_,.nil,e=>by simp at e
 | _,_,0,_,.cons h t n,e=>by simp at e;subst e;exact⟨_,_,rfl,h,t⟩
 | _,_,i+1,rs,.cons h t n,e=>by
   obtain⟨l,ts,h1,h2⟩:=RwL.getR (i:=i) (rs:=rs) n (by simpa using e);exact⟨l,ts,by simpa using h1,h2⟩
inductive Bs(ca:CA)(vs:#[a])(H:Hp)(Q:VK)(_:XK):Prop where
 | mk(A:SAd)(S:Sea)(_:vs=[.ref A.p])(_:#[E])(_:S.led.length<=900)(_:∀ l ls H',H' l=#[R,ls.map,V.ref]->RwL H' ls S.led->#[p]->H l=none->(∀ x∈ls,H x=none)->#[I,l])
inductive Eh(K:Frag)(vs:#[a])(H:Hp)(Q:VK)(_:XK):Prop where
 | mk(ok:Addr->Prop)(l d:Addr)(ls:#[t])(P:Pg)(_:vs=[.ref l,.ref d])(_:#[ad,l])(_:PgAt ok H d P)(_:K8 P)(_:RwL H ls (P.over.map Ya))(_:∀ H',Same H H'->Q (.bl true) H')
inductive Ei(vs:#[a])(H:Hp)(Q:VK)(_:XK):Prop where
 | mk(t1 t2:Addr)(d:Tp)(_:vs=[.ref t1,.ref t2])(_:H t1=some (.tup (W2 d)))(_:H t2=some (.tup (W2 d)))(_:Q (.bl true) H)
inductive Mm(K:Frag)(vs:#[a])(H:Hp)(Q:VK)(_:XK):Prop where
 | mk(b c:Addr)(ts us:#[a])(ds:List Tp)(_:vs=[.ref b,.ref c])(_:#[w,H,b,ts])(_:#[w,H,c,us])(_:Z8 H ts (ds.map W2))(_:Z8 H us (ds.map W2))(_:ds.length<=1000)(_:Q (.bl true) H)
end G
namespace G
open PySem PySem.Spec PyProof.Rows L2
inductive Ref where
 | out|known|many|unk|manyM|same|noMatch|noRound|over|seaOver|away|drawn|notDrawn|nothing|manyD
 deriving DecidableEq
def Ref.cls(ca:CA):Ref->Addr
 | .out=>ca.out|.known=>ca.known|.many=>ca.many|.unk=>ca.unk|.manyM=>ca.manyM|.same=>ca.same|.noMatch=>ca.noMatch|.noRound=>ca.noRound
 | .over=>ca.over|.seaOver=>ca.seaOver|.away=>ca.away|.drawn=>ca.drawn|.notDrawn=>ca.notDrawn|.nothing=>ca.nothing|.manyD=>ca.manyD
open Classical in
def zdj:Wj->Prop
 | .enrol n g c=>Ag n g c
 | .away i n=>Yf i/\Yf n
 | .draw ms=>(∀ m∈ms,Fs m)/\ms.length<=1000
 | _=>True
end G
namespace G
open PySem PySem.Spec PyProof.Rows L2
structure I21(r i:Nat)(noted:#[o])(S:Sea):Prop where
 len:S.len=r
 led:S.led=[]
 cur:S.cur=none
 old:S.old=[]
 std:∀ x∈S.std,x.2=none
 sl:S.std.length<=i
 ol:S.out.length<=i
 z:(noted=[]/\S.ppl=[]/\S.std=[]/\S.out=[])\/∃ ds,noted=0 :: ds/\S.ppl=[(5,5,5)]/\S.out=ds.map fun i=>(i,5)
 e:i<=10->noted=[]
end G
namespace G
open PySem PySem.Spec PyProof.Rows L2
structure ShOk(n:Nat)(s:Z3):Prop where
 ms:s.ms.length<=20
 ml:s.may.length=s.ms.length
 fi:Yr s.may s.gv
 st:V3 s.may s.gv
 mo:∃ nu,Ph s.may nu
 gp:s.gaps.length<=n/\∀ x∈s.gaps,x.2.length<=100
theorem ShOk.mono(h:ShOk n s)(e:n<=m):ShOk m s:=⟨h.ms,h.ml,h.fi,h.st,h.mo,zyg h.gp.1 e,h.gp.2⟩
theorem SOk.shOk(o:SOk nu n S)(h:S.cur=some s):ShOk n s:=by
 obtain⟨k1,k2,k3,k4,k5⟩:=o.cur s h;exact⟨k1,by rw[k4];unfold mayS;rw[zx1],k2,k3,⟨_,by rw[k4];exact o.pok.may o.nd k1⟩,o.gp s (.inl h)⟩
def Oj(n:Nat)(S:Sea):Prop:=∀ s∈S.old,ShOk n s
theorem Oj.mono(h:Oj n S)(e:n<=m):Oj m S:=fun s hs=>(h s hs).mono e
theorem zgj(o:SOk nu n S)(h:Oj n S)(af:R6 H S D S' v):Oj n S':=by
 cases af with
 | enrol k g c=>exact h
 | awayN hh hl=>exact h
 | awayF hh hp hl=>exact h
 | awayC hh hp hl tl CR=>exact h
 | draw hl F T=>exact h
 | close hc =>
   intro s hs;rcases zyd.mp hs with z|z
   ·exact h s z
   ·rw[zx6.mp z];exact o.shOk hc
 | back hh ht hs =>
   obtain⟨d,a1,a2,a3,a4,a5,a6⟩:=hs;intro s hs';rw[<- a6] at hs';exact h s hs'
theorem R7(h1:Yf i)(h2:S.old.length=S.led.length)(h3:1<=i/\i<=S.len)(h:Wq S i=some s)(hk:k s):S8 ca H S i E k:=by
 refine⟨h1,h2,?_⟩;rw[if_neg ⋯];exact⟨fun z=>(by rw[h] at z;cases z),fun s' hs=>(by rw[h] at hs;cases hs;exact hk)⟩
theorem zgk{S:Sea}{j:Nat}{s:Z3}(h:S.old.length=S.led.length)(hs:S.old[j]?=some s):Wq S ((j:Int)+1)=some s:=by
 have hj:=(zx3.mp hs).1;unfold Wq;rw[if_pos ⋯,show (((j:Int)+1)-1).toNat=j by omega];exact hs
inductive Lu(K:Frag)(ca:CA)(vs:#[a])(H:Hp)(Q:VK)(_:XK):Prop where
 | mk(ok:Addr->Prop)(A:SAd)(S:Sea)(i:Int)(t lp ll lg lm lw:Addr)(ts mts pts:#[a])(ls:#[t])(sh:Z3)(_:vs=[.ref A.p,.int i,.ref t,.ref lp])(_:#[E])(_:(Yf i/\S.old.length=S.led.length/\1<=i/\i<=S.len))(_:Wq S i=some sh)(_:H t=#[b,.tup,[.ref ll,.ref lg,.ref lm,.ref lw]])(_:#[w,H,ll,ts])(_:Z8 H ts (sh.ms.map pV))(_:#[w,H,lg,sh.gv])(_:#[w,H,lm,mts])(_:X5 ok H mts sh.gaps)(_:#[ad,lw])(_:ILs H ls sh.may)(_:#[w,H,lp,pts])(_:Z8 H pts (S.ppl.map pV))(_:Pj S)(_:ShOk 500 sh)(_:∀ H',Same H H'->Q (.bl true) H')
theorem Xf.all:∀ {vs:List V} {ss:List Z3} {i:Nat} {s:Z3},Xf ok H vs ss->ss[i]?=some s->∃ (t l g m y:Addr) (ts mts:List V) (ls:List Addr),vs[i]?=#[d,t]/\H t=#[z,[.ref l,.ref g,.ref m,.ref y]]/\H l=#[r,ts]/\Z8 H ts (s.ms.map pV)/\H g=#[r,s.gv]/\H m=#[r,mts]/\X5 ok H mts s.gaps/\H y=#[R,ls.map,V.ref]/\ILs H ls s.may
 | _,_,_,_,.nil,e=>by simp at e
 | _,_,0,_,.cons h hl tl hg hm gm hy iy o r,e=>by
   simp at e;subst e;exact⟨_,_,_,_,_,_,_,_,rfl,h,hl,tl,hg,hm,gm,hy,iy⟩
 | _,_,i+1,s,.cons _ _ _ _ _ _ _ _ _ r,e=>by
   obtain⟨t,l,g,m,y,ts,mts,ls,h1,h2⟩:=Xf.all (i:=i) (s:=s) r (by simpa using e);exact⟨t,l,g,m,y,ts,mts,ls,by simpa using h1,h2⟩
theorem RelB.overT(h:RelB true P S):P.over=S.old:=by
 have e:=h.over;have k:∀ l:List Z3,l.map (T9 true)=l:=fun l=>by
  rw[show T9 true=id from funext fun s=>rfl,List.map_id]
 rwa [k,k] at e
theorem zka(re:Rel mb P S)(eP:D≠.back->P7=Ur P D)(eR:D=.back\/D=.close->(∀ s,S3.cur=some s->P7.gv=s.gv)/\(mb=true->P7.mv=Lr S3))(hno:P7.lis=none)(hcn:S3.cur=none)(h:mb=true):P7.mv=Lr S3:=by
 cases D with
 | back=>exact(eR (.inl rfl)).2 h
 | close=>exact(eR (.inr rfl)).2 h
 | draw ms=>rw[eP nofun] at hno;cases hno
 | enrol n g c =>
   rw[eP nofun] at hno ⊢;rw[Vs hcn];show P.mv=[];rw[re.mv h,Vs (re.b.undrawn hno)]
 | away i n =>
   rw[eP nofun] at hno ⊢;rw[Vs hcn];show P.mv=[];rw[re.mv h,Vs (re.b.undrawn hno)]
theorem Bk.deeds(b:Bk mb ok H nu n ds S):S.std.length+1=ds.length/\∀ j,j<S.std.length->∃ (e:Addr) (P:Pg) (x:Tp),ds[j+1]?=some e/\PgAt ok H e P/\P.deed=some x/\(S.std.map (·.1))[j]?=some x:=by
 induction b with
 | one h r o e=>exact⟨by rw[e];rfl,fun j hj=>by rw[e] at hj;exact absurd hj (zz5 _)⟩
 | @snoc ds d P S S' b nd h r o st hd ih =>
   obtain⟨i1,i2⟩:=ih;obtain⟨x,hx,hs⟩:=hd;refine⟨by rw[hs,zx4,zx4,<- i1];rfl,fun j hj=>?_⟩;rw[hs,zx4] at hj;by_cases hlt:j<S.std.length
   ·obtain⟨e,P',x',e1,e2,e3,e4⟩:=i2 j hlt;refine⟨e,P',x',?_,e2,e3,?_⟩
    ·rw[zy0 ⋯];exact e1
    ·rw[hs,zx7,zy0 (by rw[zx1];exact hlt)];exact e4
   ·have hj':j=S.std.length:=by simp only[zyk,zz4] at hj;omega
    refine⟨d,P,x,?_,h,hx,?_⟩
    ·rw[zyz ⋯,show j+1-ds.length=0 by omega];rfl
    ·rw[hs,zx7,zyz (by rw[zx1];omega),zx1,show j-S.std.length=0 by omega];rfl
inductive Nt(K:Frag)(ca:CA)(vs:#[a])(H:Hp)(Q:VK)(_:XK):Prop where
 | mk(ok:Addr->Prop)(mb:Bool)(A:SAd)(S:Sea)(d:Addr)(P:Pg)(nu:#[o])(n:Nat)(_:vs=[.ref A.p,.ref d])(_:#[E])(_:PgAt ok H d P)(_:RelB mb P S)(_:SOk nu n S)(_:n<=500)(_:∀ H',Same H H'->Q (.bl true) H')
inductive Io(K:Frag)(ca:CA)(vs:#[a])(H:Hp)(Q:VK)(_:XK):Prop where
 | mk(mb:Bool)(A:SAd)(S:Sea)(d lw:Addr)(P:Pg)(ls:#[t])(sh:Z3)(nu:#[o])(n:Nat)(_:vs=[.ref A.p,.ref d,.ref lw])(_:#[E])(_:PgAt (·∉A.fp) H d P)(_:RelB mb P S)(_:SOk nu n S)(_:n<=500)(_:S.cur=some sh)(_:#[ad,lw])(_:ILs H ls sh.may)(_:∀ H',Same H H'->Q (.bl true) H')
inductive Ej(K:Frag)(ca:CA)(vs:#[a])(H:Hp)(Q:VK)(_:XK):Prop where
 | mk(A:SAd)(S:Sea)(l d:Addr)(ds:#[t])(P:Pg)(nu:#[o])(n back:Nat)(_:vs=[.ref A.p,.ref l,.int back])(_:#[E])(_:H l=some (.lst ((ds++[d]).map V.ref)))(_:Full true (·∉A.fp) H nu n ds d P S)(_:Oj n S)(_:n<=500)(_:back<=100)(_:∀ H',Same H H'->Q (.bl true) H')
inductive Bt(K:Frag)(ca:CA)(vs:#[a])(H:Hp)(Q:VK)(_:XK):Prop where
 | mk(A:SAd)(S:Sea)(_:vs=[.ref A.p])(_:#[E])(_:S.std=[])(_:Q (.bl true) H)
theorem zgl(xs:#[a]):Ks xs (some 1) none=xs.drop 1:=by
 unfold Ks;have e:HT.sIx xs.length 0 (some 1)=min 1 xs.length:=HT.sIx_nat _ _ 1;rw[e,HT.sIx_none];cases xs with
 | nil=>rfl
 | cons x xs =>
   rw[show min 1 (x :: xs).length=1 by rw[zyk];omega];exact List.take_of_length_le (by rw[z0b];exact zyc _)
theorem zgm:#[i,V.str (Im D)=V.str "take back"]=match D with|.back=>true|_=>false:=by
 cases D with
 | back=>exact zc9
 | enrol n g c=>exact Nk (show #[i,("enrol":Str)="take back"]=false by decide +kernel)
 | away i n=>exact Nk (show #[i,("away":Str)="take back"]=false by decide +kernel)
 | draw ms=>exact Nk (show #[i,("draw up":Str)="take back"]=false by decide +kernel)
 | close=>exact Nk (show #[i,("close":Str)="take back"]=false by decide +kernel)
theorem ze0(h:D≠.back):#[i,V.str (Im D)=V.str "take back"]=false:=by
 rw[zgm];cases D<;>first|rfl|exact absurd rfl h
theorem zgn(F:Full mb (·∉A.fp) H nu n ds d P S)(hne:ds≠[]) :
  ∃ S0 x,Pk S0 S/\P.deed=some x/\S.std=S0.std++[(x,S0.cur)]/\∀ H1,FrS A H H1->(∀ t xs,H t=some (.tup xs)->H1 t=some (.tup xs))->∃ ds' d' P',ds=ds'++[d']/\Full mb (·∉A.fp) H1 nu n ds' d' P' S0:=by
 obtain⟨nd,⟨e,_⟩|⟨S0,b,st,x,hx,hs⟩⟩:=F.tl
 ·exact absurd e hne
 ·exact⟨S0,x,st,hx,hs,fun H1 fr kt=>(b.keep (H':=H1) (fun y o z e=>fr y o e z) kt).full⟩
theorem zgo(st:Pk S0 S)(hs:S.std=S0.std++[(x,S0.cur)]):zc6 S x S0.ppl S0.out/\{ S with ppl:=S0.ppl,out:=S0.out,cur:=S0.cur,std:=S0.std }=S0:=by
 obtain⟨d,a1,a2,a3,a4,a5,a6⟩:=st;have e:=a1.symm.trans hs;obtain⟨_,e2⟩:=zzt e rfl;have e3:=(Prod.mk.inj (List.cons.inj e2).1).1;subst e3;refine⟨a2,?_⟩;obtain⟨l1,q1,p1,d1',o1,ol1,c1,s1⟩:=S0;obtain⟨l2,q2,p2,d2',o2,ol2,c2,s2⟩:=S;simp only at *;subst a3 a4 a5 a6;rfl
section
variable{rows:#[A]}{gs0 hs:#[a]}{p:Nat}{n0:Int}
structure zoj(rows:#[A])(gs0 hs:#[a])(p:Nat)(i:Nat)(L:List Nat)(q:Nat):Prop where
 len:L.length=i+1
 nd:L.Nodup
 mem:q∈L
 walk:Walk rows (gs0.set p .non) p q i
 df:∀ k∈L,k<gs0.length/\gs0[k]?≠hs[k]?
 back:∀ y∈L,y≠p->∃ x∈L,x≠q/\∃ n,hs[x]?=#[l,n]/\(gs0.set p .non)[y]?=#[l,n]
 full:∀ y∈L,gs0[y]?≠some .non
end
open Classical in
noncomputable def eq1(x y:V):Nat:=if x=y then 1 else 0
inductive StK(N:#[o]):#[A]->#[a]->Nat->Nat->Nat->Prop where
 | nil:StK N [] [] 0 0 0
 | skip {rows:#[A]} {r:#[o]} {ah:#[a]} {v:V} {f u k:Nat} (h:StK N rows ah f u k):StK N (rows++[r]) (ah++[v]) (2*f) u (k+eq1 .non v)
 | take {rows:#[A]} {r:#[o]} {ah:#[a]} {v:V} {f u k b:Nat} {n:Int} (h:StK N rows ah f u k) (hb:N[b]?=some n) (hn:n∈r) (hu:u/2 ^ b%2=0):StK N (rows++[r]) (ah++[v]) (2*f+1) (u+2 ^ b) (k+eq1 (.int n) v)
structure zok(N:#[o])(rows:#[A])(ah:#[a])(best kept:Nat):Prop where
 at_:∃ u,StK N rows ah best u kept
 top:∀ f u k,StK N rows ah f u k->f<=best
 most:∀ u k,StK N rows ah best u k->k<=kept
open Classical in
structure zop(R:Nat×Nat->Nat->Prop)(ps:List (Nat×Nat))(g:Nat×Nat->Nat):Prop where
 mem:∀ q,q∈ps↔∃ k,R q k
 at_:∀ q∈ps,R q (g q)
 top:∀ q k,R q k->k<=g q
section
variable{mb:Bool}{ok ok':Addr->Prop}{A A':SAd}{H H':Hp}{nu:#[o]}{n m:Nat}{ds:#[t]}{d:Addr}{P:Pg}{S S':Sea}{D:Wj}
structure zod(ok:Addr->Prop)(H:Hp)(ts:#[a])(Ds:List Wj):Prop where
 len:ts.length=Ds.length
 at_:∀ (i:Nat) x,ts[i]?=some x->∃ t D,x=.ref t/\Ds[i]?=some D/\Wy ok H t D
end
structure PgR(mb:Bool)(ok:Addr->Prop)(H:Hp)(nu:#[o])(n:Nat)(d:Addr)(P:Pg)(S:Sea):Prop where
 pg:PgAt ok H d P
 rb:RelB mb P S
 so:SOk nu n S
open Classical in
def zno(r o:Int)(dr:Bool)(lp ll:Addr):#[N]:=[(.inr "rounds",.int r),(.inr "over",.int o),(.inr "drawn",.bl dr),(.inr "people",.ref lp),(.inr "log",.ref ll)]
structure zoe(H:Hp)(d lp ll:Addr)(S:Sea):Prop where
 dd:H d=#[b,.dK,zno S.len S.led.length S.cur.isSome lp ll]
 pp:∃ pts,H lp=#[r,pts]/\Z8 H pts (S.ppl.map pV)
 gg:∃ lts,H ll=#[r,lts]/\Z8 H lts (S.std.map fun x=>W2 x.1)
 ne:lp≠ll
structure I22(S:Sea):Prop where
 out:S.out=[]
 std:∀ x∈S.std,x.2=none/\(x.1.1=("enrol":Str)\/x.1.1=("draw up":Str))
 last:∀ std0 x,S.std=std0++[x]->x.1.1=("enrol":Str)->S.cur=none
def dxs:HO->#[t]
 | .ins _ dx _=>[dx]
 | .frz _ u=>dxs u
 | _=>[]
open Classical in
noncomputable def zkb(B:Addr->Prop)(H:Hp):Hp:=fun b=>if B b then none else H b
open Classical in
structure zof(B:Addr->Prop)(H:Hp):Prop where
 th:∀ b,B b->H b≠none
 cl:∀ a o,H a=#[c]->B a->∀ dx∈dxs o,B dx
 own:∀ a b,H b=#[b,.own,a]->B b->B a
 tup:∀ t xs,B t->H t≠#[z,xs]
inductive zkc(nu:#[o])(n:Nat):Sea->Prop where
 | nil {S:Sea} (e:S.std=[]) (o:SOk nu n S):zkc nu n S
 | snoc {S0 S:Sea} (h:zkc nu n S0) (st:Pk S0 S) (o:SOk nu n S):zkc nu n S
structure D22(nu:#[o])(D:Wj):Prop where
 aw:∀ i n,D≠.away i n
 dr:∀ ms,D=.draw ms->ms=[]
 sm:zdj D
 en:∀ k g c,D=.enrol k g c->k∈nu\/badI k g c
def B22(d lp ll ln le:Addr):Addr->Prop:=fun x=>x=d\/x=lp\/x=ll\/x=ln\/x=le
structure zoq(ca:CA)(nu:#[o])(d lp ll ln le:Addr)(A:SAd)(S:Sea)(n:Nat)(H:Hp):Prop where
 sea:Zy ca (zkb (B22 d lp ll ln le) H) A S
 st:zoe H d lp ll S
 i:I22 S
 hi:zkc nu n S
 lv:H ln=some (.lst (nu.map V.int))
 lw:∃ ys,H le=#[r,ys]
 nl:lp≠ln/\ll≠ln
 ne:lp≠le/\ll≠le
end G
namespace G
open PySem PySem.Spec PyProof.Rows L2
def DrX(S0 S:Sea):Prop:=∀ d y,S.std=S0.std++[(d,y)]->(d.1=("draw up":Str)/\S0.cur=none)\/(d.1≠("draw up":Str)/\S0.cur.isSome=S.cur.isSome)
inductive ze1(E:Sea->Prop)(nu:#[o])(n:Nat):Sea->Prop where
 | nil {S:Sea} (e:S.std=[]) (o:SOk nu n S) (x:E S):ze1 E nu n S
 | snoc {S0 S:Sea} (h:ze1 E nu n S0) (st:Pk S0 S) (dr:DrX S0 S) (o:SOk nu n S) (x:E S):ze1 E nu n S
def znp(r o:Int)(dr:Bool)(lp lo ll:Addr):#[N]:=[(.inr "rounds",.int r),(.inr "over",.int o),(.inr "drawn",.bl dr),(.inr "people",.ref lp),(.inr "out",.ref lo),(.inr "log",.ref ll)]
structure zog(H:Hp)(d lp lo ll:Addr)(S:Sea):Prop where
 dd:H d=#[b,.dK,znp S.len S.led.length S.cur.isSome lp lo ll]
 pp:H lp=some (.lst ((S.ppl.map (·.1)).map V.int))
 oo:∃ ots,H lo=#[r,ots]/\Z8 H ots (S.out.map oiV)
 gg:∃ lts,H ll=#[r,lts]/\Z8 H lts (S.std.map fun x=>W2 x.1)
 n1:lp≠lo
 n2:lp≠ll
 n3:lo≠ll
def B23(d lp lo ll:Addr)(X:Addr->Prop):Addr->Prop:=fun x=>x=d\/x=lp\/x=lo\/x=ll\/X x
structure zor(ca:CA)(E:Sea->Prop)(nu:#[o])(d lp lo ll:Addr)(X:Addr->Prop)(A:SAd)(S:Sea)(n:Nat)(H:Hp):Prop where
 sea:Zy ca (zkb (B23 d lp lo ll X) H) A S
 st:zog H d lp lo ll S
 hi:ze1 E nu n S
 xs:∀ x,X x->∃ ys,H x=#[r,ys]
 nx:∀ x,X x->x≠lp/\x≠lo/\x≠ll
structure D23(nu:#[o])(j:Nat)(D:Wj):Prop where
 dr:∀ ms,D=.draw ms->ms=[]
 sm:zdj D
 en:∀ k g c,D=.enrol k g c->nu[j]?=some k/\1<=g/\g<=9/\1<=c/\c<=99
structure E24(S:Sea):Prop where
 ppl:S.ppl=[]
 out:S.out=[]
 st:(S.cur=none/\S.std=[])\/∃ s,S.cur=some s/\S.std=[((("draw up":Str),(s.ms.length:Int),atV S),none)]
 gv:∀ s,S.cur=some s\/s∈S.old->s.gv=List.replicate s.ms.length V.non
inductive zkd(ok:Addr->Prop)(H:Hp):#[a]->List Z3->Prop where
 | nil:zkd ok H [] []
 | cons {l:Addr} {ts:#[a]} {ls:#[a]} {s:Z3} {ss:List Z3} (h:#[w,H,l,ts]) (q:Z8 H ts (s.ms.map pV)) (o:ok l) (r:zkd ok H ls ss):zkd ok H (.ref l :: ls) (s :: ss)
def znq(r:Int)(lv:Addr)(v:V):#[N]:=[(.inr "rounds",.int r),(.inr "over",.ref lv),(.inr "listed",v)]
structure zoh(ok:Addr->Prop)(H:Hp)(d lv:Addr)(v:V)(S:Sea):Prop where
 dd:H d=#[b,.dK,znq S.len lv v]
 vv:∃ ls,H lv=#[r,ls]/\zkd ok H ls S.old
 li:Lp ok H v (S.cur.map (·.ms))
def B24(d lv lc:Addr):Addr->Prop:=fun x=>x=d\/x=lv\/x=lc
structure zos(K:Frag)(ca:CA)(d lv lc b:Addr)(cs ns:#[o])(v:V)(A:SAd)(S:Sea)(n:Nat)(H:Hp):Prop where
 sea:Zy ca (zkb (B24 d lv lc) H) A S
 st:zoh (fun x=>x∉A.fp/\¬ B24 d lv lc x) H d lv v S
 e:E24 S
 so:SOk [] n S
 cl:H lc=some (.lst (cs.map V.int))
 sc:S9 K A (zkb (B24 d lv lc) H) b (ns.map V.int)
section
variable{S S' S1:Sea}{D:Wj}{Ds Es:List Wj}{v:V}{H H':Hp}{nu:#[o]}{n:Nat}
structure zot(S S':Sea):Prop where
 len:S'.len=S.len
 led:S'.led=S.led
 ppl:S'.ppl=S.ppl
end
structure D25(nu:#[o])(D:Wj):Prop where
 sm:zdj D
 dr:∀ ms,D=.draw ms->ms.length<=100
 en:∀ n g c,D=.enrol n g c->1<=n/\1<=g/\1<=c/\c<=99/\(¬ badI n g c->n∈nu)
structure zol(S S1:Sea)(es:List P3)(k:Nat)(ps:List (Int×Int)):Prop where
 std:∃ std0 w1 w2,S1.std.map (·.1)=std0++[w1]++[w2]/\std0.length=98/\w1.1≠("enrol":Str)/\w2.1≠("enrol":Str)
 led:S1.led=S.led
 len:S1.len=S.len
 ppl:S1.ppl=es
 out:∀ p∈S1.out,p∈ps.take (k+1)
structure Sm(S:Sea):Prop where
 std:∀ x∈S.std,Yf x.1.2.1/\Yf x.1.2.2
 led:S.led.length<=S.len
 len:S.len<=60
end G
namespace G
open PySem PySem.Spec PyProof.Rows L2
section
variable{K:Frag}{σ:L2.St}{H:Hp}{t:Addr}{w w':Str}{rw:#[a]}{A y:TS}{D:Pq}
theorem Mn(hs:σ[1]?=some #[d,t])(ht:H t=#[b,.tup,(.str w :: rw)])(hw:#[i,w=w']=false)(h:y D σ H):Z0 (Dp (zah (tOp rEq (tOp (zfh K) (Nh 1) (tC (V.int 0))) (tC (V.str w')))) A zdq) y D σ H :=
 Xl (W0 (b:=false) (fun Q q=>⟨_,hs,t,_,_,_,rfl,rfl,SqT.of ht,Z4 (j:=0) rfl,rfl,_,by rw[Nk hw],q⟩) (iteF (Zx h)))
end
end G
namespace L2
open PySem PySem.Spec PyProof.Rows G
inductive LNe(K:Frag)(x:Str)(st:Stmt):Prop where
 | mk {f:Addr} {oc kV dc pm cd ct:Value} {od an:Option Addr} {sl:Array (Option Value)} (b:NsB K x f) (l:LkF K f x x st oc kV dc pm cd ct od an sl) (c:PySem.W.codeIn K cd x=true) (k:PySem.W.keepIn K (.ref f)=true)
inductive LMe(K:Frag)(C:Addr)(x q:Str)(st:Stmt):Prop where
 | mk {f:Addr} {oc kV dc pm cd ct:Value} {od an:Option Addr} {sl:Array (Option Value)} (b:FdB K C x f) (l:LkF K f x q st oc kV dc pm cd ct od an sl) (c:PySem.W.codeIn K cd q=true) (k:PySem.W.keepIn K (.ref f)=true) (i:PySem.W.isFn K (.ref f)=true)
structure zi3(K:Frag)(C:Addr):Prop where
 pg:PySem.W.plainGet K C Str.empty=true
 hd:PySem.W.hasDictIn K C=true
 po:PySem.W.plainOver K C=true
 sa:PySem.W.findIn K (.ref C) "__setattr__"=some #[b,.builtin,"object.__setattr__"]
 mk_:PySem.W.makesIn K C=true
 kc:PySem.W.keepIn K (.ref C)=true
structure zou(K:Frag)(c:CA)(e:Addr)(N:Ref->Prop):Prop where
 ga:∀ r:Ref,N r->PySem.W.findIn K (.ref (r.cls c)) "__getattribute__"=some #[b,.builtin,"BaseException.__getattribute__"]
 gk:∀ r:Ref,N r->PySem.W.findIn K (.ref (r.cls c)) "__getattr__"=some none
 at_:∀ r:Ref,N r->PySem.W.findIn K (.ref (r.cls c)) "__class__"=some #[b,.builtin,"object.__class__"]
 mx:∀ r:Ref,N r->PySem.W.mroIn K (r.cls c) (.type "BaseException")=some true
 mo:∀ r:Ref,N r->PySem.W.mroIn K (r.cls c) (.type "object")=some true
 mB:∀ r:Ref,N r->PySem.W.mroIn K (r.cls c) (.ref e)=some true
 kit:∀ r t:Ref,N r->PySem.W.kitOne K (.ref (r.cls c)) (.ref (t.cls c))=some #[i,r=t]
 kitV:∀ r:Ref,N r->PySem.W.kitOne K (.ref (r.cls c)) (.type "ValueError")=some true
section
variable{P:Program}{w:World}{base h:Heap}{K:Frag}{mg:#[M]}{x y q:Str}{k:Nat}{ps:List Str}{sp:Sp}{C:Addr}{st:Stmt}
theorem dE(Z:XG P w base K mg h)(l:LNe K x st)(ok:∀ {f fd},#[g,x,x,st]->FnOk P w K mg base #[f] k f fd ps sp)(hb:BnA x x st ps:=by first|exact bn1|exact bn2|exact bn3|exact bn4|exact bn5):Zz P w K mg base x k ps sp:=by
 cases l with
 | mk b l c k=>exact dN Z ⟨b,l,c,k⟩ ok hb
theorem mE(Z:XG P w base K mg h)(l:LMe K C x q st)(ok:∀ {f fd},#[g,x,q,st]->FnOk P w K mg base #[f] k f fd ps sp)(hb:BnA x q st ps:=by first|exact bn1|exact bn2|exact bn3|exact bn4|exact bn5):Zq P w K mg base C x k ps sp:=by
 cases l with
 | mk b l c k i=>exact mM Z ⟨b,l,c,k,i⟩ ok hb
theorem nE(Z:XG P w base K mg h)(l:LMe K C "__init__" q st)(o:zi3 K C)(c:PySem.W.nsIn K mainGlobals y=some #[d,C])(ok:∀ {f fd},#[g,"__init__",q,st]->FnOk P w K mg base #[f] k f fd ps sp)(hb:BnA "__init__" q st ps:=by first|exact bn1|exact bn2|exact bn3|exact bn4|exact bn5):Tz P w K mg base y C k ps sp:=by
 cases l with
 | mk b l c' k i=>exact nM Z ⟨b,l,c',k,i⟩ o.mk_ o.kc c ok hb
end
end L2
namespace G
open PySem PySem.Spec PyProof.Rows L2
@[elab_as_elim] theorem al{H:Hp}{l:Addr}{o:HO}{p:Hp->Prop}(X:Hp)(f:H l=none)(e:X=upd H l o)(h:∀ H',H' l=#[c]->#[p]->p H'):p X:=e▸h _ Ze (Zk f)
section
variable{D:Pq}{σ:L2.St}{ok:Addr->Prop}{Hs H:Hp}{d:Addr}{P P':Pg}
theorem pgw(P':Pg)(hj:σ[j]?=some #[d,d])(h:PgAt ok H d P)(fd:Hs d=none)(s:Same Hs H)
  (f:∀ {lp lo lv:Addr} {dv li:V} {lg lm:Addr} {H':Hp},W7 H H'->PgB ok H' P lp lo lv dv li lg lm->∃ lp' lo' lv' dv' li' lg' lm',putK (pgF P.len P.rest lp lo lv dv li lg lm) (.inr k) x=pgF P'.len P'.rest lp' lo' lv' dv' li' lg' lm'/\PgB ok H' P' lp' lo' lv' dv' li' lg' lm')
  (g:∀ H',PgAt ok H' d P'->Same Hs H'->D.nx σ H'):zhd (Nh j) (tC (.str k)) (fun _ H Q=>Q x H) D σ H:=by
 obtain⟨lp,lo,lv,dv,li,lg,lm,a1,B,okd⟩:=h.split;have kk:=W7.dict a1 (kvs':=putK (pgF P.len P.rest lp lo lv dv li lg lm) (.inr k) x);obtain⟨_,_,_,_,_,_,_,e,B'⟩:=f kk (B.keepL kk);exact⟨_,hj,d,_,rfl,DPut.k (k:=.inr k) a1 zdb,g _ (.join (by rw[Ze,e]) B' okd) (Yx fd s)⟩
variable{K:Frag}{t:Addr}{w w':Str}{rw:#[a]}{A B:TS}
theorem zmb(hs:σ[1]?=some #[d,t])(ht:H t=#[b,.tup,(.str w :: rw)])(hw:#[i,w=w']=false)(h:B D σ H):Dp (zah (tOp rEq (tOp (zfh K) (Nh 1) (tC (V.int 0))) (tC (V.str w')))) A B D σ H :=
 W0 (b:=false) (fun Q q=>⟨_,hs,t,_,_,_,rfl,rfl,SqT.of ht,Z4 (j:=0) rfl,rfl,_,by rw[Nk hw],q⟩) (iteF h)
theorem ze2(hs:σ[1]?=some #[d,t])(ht:H t=#[b,.tup,(.str w :: rw)])(h:A D σ H):Dp (zah (tOp rEq (tOp (zfh K) (Nh 1) (tC (V.int 0))) (tC (V.str w)))) A B D σ H :=
 W0 (b:=true) (fun Q q=>⟨_,hs,t,_,_,_,rfl,rfl,SqT.of ht,Z4 (j:=0) rfl,rfl,_,by rw[zc9],q⟩) (iteT h)
end
end G
namespace K37
open PySem PySem.Spec PyProof.Rows L2 G
def top(i:Nat):Stmt:=PySem.Challenge.pw_whistlebook_k37_whole_taken_back.main.body.getD i (.Pass ⟨0,0,0,0⟩)
structure Ad where
 zs1:Addr
 zpn:Addr
 zp4:Addr
 zpq:Addr
 zpv:Addr
 zpw:Addr
 zq3:Addr
 zqg:Addr
 zpy:Addr
 zqs:Addr
 zqk:Addr
 zqf:Addr
 zry:Addr
 zq2:Addr
 zo3:Addr
 zp5:Addr
 zoz:Addr
 zo2:Addr
 zoy:Addr
 zov:Addr
abbrev ca(a:Ad):CA:=⟨a.zov,a.zoy,a.zo2,a.zoz,a.zpn,a.zp4,a.zpq,a.zpv,a.zpw,a.zq3,a.zqg,a.zpy,a.zqs,a.zqk,a.zqf,a.zry,a.zq2,a.zo3,a.zp5⟩
structure Tx(K:Frag)(mg:#[M])(a:Ad):Prop where
 zpo:Cls K a.zoz
 zrm:X9 K a.zoz "rounds"
 zq6:X9 K a.zoz "meetings"
 zph:Cls K a.zo2
 zqi:X9 K a.zo2 "entries"
 zo6:Cls K a.zoy
 zqx:X9 K a.zoy "listed"
 ztz:X9 K a.zoy "lists"
 zrh:X9 K a.zoy "given"
 zt7:X9 K a.zoy "gaps"
 zow:Cls K a.zov
 ztg:X9 K a.zov "length"
 zum:X9 K a.zov "rest"
 zp0:X9 K a.zov "roster"
 zql:X9 K a.zov "ledger"
 zrk:X9 K a.zov "absent"
 zta:X9 K a.zov "sheets"
 zpx:X9 K a.zov "sheet"
 zqe:X9 K a.zov "standing"
 ztq:Pr K mg "NoSuchRound" a.zpy
 zuw:Pr K mg "OutOfRange" a.zpn
 zt3:Pr K mg "TooManyMatches" a.zpw
 zu3:Pr K mg "SameClub" a.zq3
 zug:Pr K mg "KnownReferee" a.zp4
 zty:Pr K mg "TooManyReferees" a.zpq
 zt4:Pr K mg "UnknownReferee" a.zpv
 zup:Pr K mg "NoSuchMatch" a.zqg
 zuy:Pr K mg "SeasonOver" a.zqk
 zu7:Pr K mg "DrawnUp" a.zry
 zuh:Pr K mg "TooManyDeeds" a.zp5
 zuj:Pr K mg "NotDrawn" a.zq2
 zuz:Pr K mg "RoundOver" a.zqs
 zuq:Pr K mg "AwayAlready" a.zqf
 ztm:Pr K mg "NothingToTakeBack" a.zo3
 zuk:mg "max"=none
 zo5:mg "len"=none
 zsy:mg "tuple"=none
 zp9:mg "list"=none
 zsd:mg "enumerate"=none
 zpl:mg "range"=none
 ztk:mg "sorted"=none
 zu8:mg "zip"=none
 zo8:mg "isinstance"=none
 zu6:mg "int"=none
 zuv:mg "bool"=none
 zu5:mg "str"=none
 zu4:mg "dict"=none
 zu1:mg "min"=none
 gc_BookError:mg "BookError"=#[b,.ref,a.zs1]
 gc_OutOfRange:mg "OutOfRange"=#[b,.ref,a.zpn]
 gc_KnownReferee:mg "KnownReferee"=#[b,.ref,a.zp4]
 gc_TooManyReferees:mg "TooManyReferees"=#[b,.ref,a.zpq]
 gc_UnknownReferee:mg "UnknownReferee"=#[b,.ref,a.zpv]
 gc_TooManyMatches:mg "TooManyMatches"=#[b,.ref,a.zpw]
 gc_SameClub:mg "SameClub"=#[b,.ref,a.zq3]
 gc_NoSuchMatch:mg "NoSuchMatch"=#[b,.ref,a.zqg]
 gc_NoSuchRound:mg "NoSuchRound"=#[b,.ref,a.zpy]
 gc_RoundOver:mg "RoundOver"=#[b,.ref,a.zqs]
 gc_SeasonOver:mg "SeasonOver"=#[b,.ref,a.zqk]
 gc_AwayAlready:mg "AwayAlready"=#[b,.ref,a.zqf]
 gc_DrawnUp:mg "DrawnUp"=#[b,.ref,a.zry]
 gc_NotDrawn:mg "NotDrawn"=#[b,.ref,a.zq2]
 ztb:mg "NothingToTakeBack"=#[b,.ref,a.zo3]
 gc_TooManyDeeds:mg "TooManyDeeds"=#[b,.ref,a.zp5]
 gc_Ledger:mg "Ledger"=#[b,.ref,a.zoz]
 gc_Roster:mg "Roster"=#[b,.ref,a.zo2]
 gc_Sheet:mg "Sheet"=#[b,.ref,a.zoy]
 gc_Season:mg "Season"=#[b,.ref,a.zov]
 zs7:zhm K a.zo3
 zpi:PySem.W.mroIn K a.zo3 (.ref a.zo3)=some true
 zso:∃ t,mg "MOST_NUMBER"=some (.int 999 t)
 zru:∃ t,mg "MOST_GRADE"=some (.int 9 t)
 zrj:∃ t,mg "MOST_CLUB"=some (.int 99 t)
 zqq:∃ t,mg "MOST_REFEREES"=some (.int 30 t)
 zq1:∃ t,mg "MOST_MATCHES"=some (.int 20 t)
 zsh:∃ t,mg "MOST_ROUNDS"=some (.int 60 t)
 ztj:∃ t,mg "MOST_REST"=some (.int 10 t)
 zrv:∃ t,mg "MOST_DEEDS"=some (.int 100 t)
end K37
set_option maxHeartbeats 64000000
namespace K37
open PySem PySem.Spec PyProof.Rows L2 G
local macro_rules | `(tactic| walk_at "rd")=>`(tactic| repeat (first|(refine⟨_,rfl,?_⟩)|(refine⟨_,_,rfl,rfl,?_⟩)|(refine And.intro (show CMul _ _ from Or.inr (And.intro (by decide) (by decide))) ?_)|(refine And.intro (show CMul _ _ from Or.inl (And.intro (by decide) (by decide))) ?_)|(refine And.intro (show CDiv _ _ from(And.intro (by decide) (by decide))) ?_)|(refine And.intro (show CPow _ _ from(And.intro (by decide) (And.intro (by decide) (by decide)))) ?_)|(refine And.intro (show (0:Int)<_ from(by decide)) ?_)))
local macro_rules | `(tactic| walk_at "if")=>`(tactic| dsimp only[Wu,List.set])
local macro_rules | `(tactic| walk_at "ar")=>`(tactic| (intro _ _ _ _ h;first|(cases h;subst_vars;rfl)|repeat (first|(obtain⟨h1,_⟩:=h;subst h1;rfl)|(obtain⟨_,h⟩:=h))))
section
variable{P:Program}{w:World}{K:Frag}{mg:#[M]}{base:Heap}{a:Ad}{f:Addr}{fd:FuncData}
abbrev Qu:Stmt:=top 1
theorem Nu:#[n,["number","club","ledger","rest","rested"],["number","club","ledger","rest"],Qu]:=fnS
theorem D3(F:#[g,"met_lately","met_lately",Qu])(T:#[j])(zpa:Zq P w K mg base a.zoz "over" 1 ["self"] (Ky a.zoz))(zs2:Zq P w K mg base a.zoz "met" 1 ["self","number","club"] (zkl a.zoz)):FnOk P w K mg base #[f] 2 f fd ["number","club","ledger","rest"] (zaw a.zoz):=by
 refine #[k,Nu];obtain⟨p,lr,ld,Rs,n,c,rest,rfl,LA,h⟩:=h;refine⟨_,(Zc (pS 4 Nu.nd (Zm (O7 rfl) (by rfl) T.zuk PyProof.Rows.boot_max (Za (Zu Rf (Ye (pv 2) T.zpo zpa (hr.mono ⋯) Zi) (pv 3)) (Za Zf Zb))))
 (Zd (Zl (Vn Tu (Yj (pv 2) T.zpo zs2 (hr.mono ⋯) Zi (Za (pv 0) (Za (pv 1) Zb))) (pv 4) (Zt _))))),?_⟩
 obtain⟨⟨dx,hp⟩,_,_⟩:=id LA;refine⟨_,rfl,p,dx,_,rfl,hp,J6 ⋯ ⋯,p,lr,ld,Rs,rfl,LA,_,rfl,_,_,rfl,rfl,_,_,rfl,?_⟩;refine⟨_,rfl,p,dx,_,rfl,hp,J6 ⋯ ⋯,_,rfl,_,rfl,p,lr,ld,Rs,n,c,rfl,LA,fun H' s'=>⟨_,rfl,_,_,rfl,rfl,h H' s'⟩⟩
abbrev Jb:Stmt:=top 2
theorem W8:#[n,["referee","match","out","ledger","rest","number","grade","club","home","guest","asked","told"],["referee","match","out","ledger","rest"],Jb]:=fnS
theorem Ek(F:#[g,"reasons","reasons",Jb])(T:#[j])(zqz:Zz P w K mg base "met_lately" 2 ["number","club","ledger","rest"] (zaw a.zoz)):FnOk P w K mg base #[f] 3 f fd ["referee","match","out","ledger","rest"] (K1 K a.zoz):=by
 refine #[k,W8];obtain⟨t1,t2,p,lr,ld,Rs,n,g,c,h,gu,d,rest,o,rfl,h1,h2,LA,hq⟩:=h;refine⟨_,(Zc (pS 5 W8.nd (pI (iU K) (pv 0) Zf))
 (Zc (pS 6 W8.nd (pI (iU K) (pv 0) Zf))
 (Zc (pS 7 W8.nd (pI (iU K) (pv 0) Zf))
 (Zc (pS 8 W8.nd (pI (iU K) (pv 1) Zf))
 (Zc (pS 9 W8.nd (pI (iU K) (pv 1) Zf))
 (Zc (pS 10 W8.nd (pI (iU K) (pv 1) Zf))
 (Zc (pS 11 W8.nd (Yd Zb))
 (Zc (Z2 (Yb (pv 2))
  (Zd (Y6 (pv 11) Zr))
  Zo)
 (Zc (Z2 (Zp Tu (pv 10) (pv 6) (Zt _))
  (Zd (Y6 (pv 11) Zr))
  Zo)
 (Zc (Z2 (PW.pt (X3 (Zp Wd (pv 7) (pv 8) (Zt _)) (Xh (Zp Wd (pv 7) (pv 9) (Zt _)))))
  (Zd (Y6 (pv 11) Zr))
  Zo)
 (Zc (Z2 (PW.pt (X3 (Yb (pF zqz hr (Za (pv 5) (Za (pv 8) (Za (pv 3) (Za (pv 4) Zb)))))) (Xh (Yb (pF zqz hr (Za (pv 5) (Za (pv 9) (Za (pv 3) (Za (pv 4) Zb)))))))))
  (Zd (Y6 (pv 11) Zr))
  Zo)
 (Zd (Zl (pv 11)))))))))))))),?_⟩
 show let y1:TS:=_;let y2:TS:=Z0 _ y1;let y3:TS:=Z0 _ y2;let y4:TS:=Z0 _ y3;let y5:TS:=Z0 _ y4;let y6:TS:=Z0 _ y5;let y7:TS:=Z0 _ y6;let y8:TS:=Z0 _ y7;let y9:TS:=Z0 _ y8;let y10:TS:=Z0 _ y9;let y11:TS:=Z0 _ y10;Z0 _ y11 _ _ _;intro y1 y2 y3 y4 y5 y6 y7 y8 y9 y10 y11;refine⟨_,rfl,t1,_,_,_,rfl,rfl,SqT.of h1,show atI [V.int n,V.int g,V.int c] 0=some _ from rfl,_,rfl,t1,_,_,_,rfl,rfl,SqT.of h1,show atI [V.int n,V.int g,V.int c] 1=some _ from rfl,_,rfl,t1,_,_,_,rfl,rfl,SqT.of h1,show atI [V.int n,V.int g,V.int c] 2=some _ from rfl,?_⟩;refine⟨_,rfl,t2,_,_,_,rfl,rfl,SqT.of h2,show atI [V.int h,V.int gu,V.int d] 0=some _ from rfl,_,rfl,t2,_,_,_,rfl,rfl,SqT.of h2,show atI [V.int h,V.int gu,V.int d] 1=some _ from rfl,_,rfl,t2,_,_,_,rfl,rfl,SqT.of h2,show atI [V.int h,V.int gu,V.int d] 2=some _ from rfl,?_⟩;refine#[af,fun l hl=>?_];refine al (upd _ l _) hl rfl fun H1 TH1 s1=>?_;have q1:H1 l=some (.lst (([]:List Str).map V.str)):=TH1;walk_at "if";have b1:=K2 o "away";have b2:=K2 (decide (g<d)) "grade";have b3:=K2 (#[i,c=h]||#[i,c=gu]) "club";refine S6 (b:=o) (H0:=H) (Qm fun Q q=>⟨_,rfl,_,rfl,q⟩) hl s1 q1 ⋯ rfl fun H2 s2 q2 _=>?_;rw[List.nil_append] at q2;refine S6 (b:=decide (g<d)) (H0:=H) (Qm fun Q q=>⟨_,rfl,_,rfl,_,_,rfl,rfl,_,rfl,q⟩) hl s2 q2 ⋯ rfl fun H3 s3 q3 _=>?_;refine S6 (b:=decide (c=h)||decide (c=gu)) (H0:=H) (Qm (T1 (fun Q q=>⟨_,rfl,_,rfl,rfl,_,rfl,R0▸q⟩) fun Q q=>⟨_,rfl,_,rfl,rfl,_,rfl,R0▸q⟩)) hl s3 q3 (by rw[zx4];omega) rfl fun H4 s4 q4 _=>?_;refine S6 (b:=S5 Rs n h rest||S5 Rs n gu rest) (H0:=H) (zax (fun Q q=>⟨_,rfl,_,rfl,_,rfl,_,rfl,p,lr,ld,Rs,n,h,rest,rfl,LA.same s4,fun H5 s5=>#[q,_,q H5 s5]⟩) fun H5 s5 Q q=>⟨_,rfl,_,rfl,_,rfl,_,rfl,p,lr,ld,Rs,n,gu,rest,rfl,LA.same (s4.trans s5),fun H6 s6=>#[q,_,q H6 s6]⟩) hl s4 q4 (by rw[zx4,zx4];omega) rfl fun H5 s5 q5 _=>?_;refine#[q,_,hq l H5 ?_ s5 hl];unfold whyS;rw[q5,zzy,zzy]
abbrev V7:Stmt:=Z1 (top 23) 0
theorem Mo:#[aa,V7]:=fnS
theorem Mp(F:#[g,"__init__","Ledger.__init__",V7])(T:#[j]):FnOk P w K mg base #[f] 1 f fd ["self"] (zec a.zoz):=by
 refine #[k,Mo];obtain⟨p,dx,rfl,hp,h⟩:=h;refine⟨_,(Zc (Xg (K:=K) rfl (pv 0) (Yd Zb) rfl)
 (Zd (Xg (K:=K) rfl (pv 0) G7 rfl))),?_⟩
 refine#[af,fun lr hlr=>?_];have np:p≠lr:=Zh hp hlr;refine⟨_,rfl,p,a.zoz,dx,[],rfl,(by rw[Zj np];exact hp),T.zpo,T.zrm,⋯,?_⟩;intro ld hld;have n1:ld≠p:=fun z=>by rw[z,Ze] at hld;cases hld
 have n2:ld≠lr:=fun z=>by rw[z,Zj (Ne.symm np),Ze] at hld;cases hld
 have hld0:H ld=none:=by rw[Zj n1,Zj n2] at hld;exact hld
 refine⟨_,rfl,p,a.zoz,dx,[("rounds",.ref lr)],rfl,(by rw[Zj (Ne.symm n1),Ze];rfl),T.zpo,T.zq6,(by show 1<1000;decide),?_⟩;rw[znh];refine h lr ld _ ⟨⟨dx,Ze⟩,⟨[],?_,.nil⟩,⟨[],?_,fun n c=>rfl,zyv _⟩⟩ (fun b o e hb=>?_) hlr hld0 (Ne.symm n2)
 ·rw[Zj (Ne.symm np),Zj (Ne.symm n2),Zj (Ne.symm np),Ze]
 ·rw[Zj n1,Ze]
 ·rw[Zj hb,Zj (Zh e hld0),Zj hb,Zj (Zh e hlr)];exact e
abbrev Sa:Stmt:=Z1 (top 23) 1
theorem X2:#[n,["self","rows","at","home","guest","grade","referee"],["self","rows"],Sa]:=fnS
theorem Iz(F:#[g,"write","Ledger.write",Sa])(T:#[j]):FnOk P w K mg base #[f] 1 f fd ["self","rows"] (za8 a.zoz):=by
 refine #[k,X2];obtain⟨p,lr,ld,Rs,b,ts,rs,rfl,LA,hb,nb,tl,hl,hl2,h⟩:=h;have hu:=We hr;refine⟨_,(Zc (Y6 #[V,Zs,0] (Xp (Fc (K:=K) rfl) (by rfl) T.zsy PyProof.Rows.boot_tuple (Za (pv 1) Zb)))
 (Zc (pS 2 X2.nd (Zm (cL K) (by rfl) T.zo5 PySem.boot_len (Za (Zs (K:=K) rfl (pv 0) rfl) Zb)))
 (Zd (Yp PassesOwn.leaving rfl (Z9 (K:=K) rfl (pv 1)) (Xu (K:=K) (n:=4) rfl rfl (Zv (pN 3 X2.nd) (Zv (pN 4 X2.nd) (Zv (pN 5 X2.nd) (Zv (pN 6 X2.nd) Xt)))))
  (Zd (Z2 (Zp Tj (pv 6) Y3 (Zt _))
   (Zc (Yu hu (Zs (K:=K) rfl (pv 0) rfl) (Yc (Za (pv 6) (Za (pv 3) Zb))) (pv 2) rfl)
   (Zd (Yu hu (Zs (K:=K) rfl (pv 0) rfl) (Yc (Za (pv 6) (Za (pv 4) Zb))) (pv 2) rfl)))
   Zo)))))),?_⟩
 obtain⟨⟨dx,hp⟩,⟨rr,hlr,rl⟩,⟨kvs,hd,mt,kl⟩⟩:=LA;have hlen:ts.length=rs.length:=by rw[tl.length,zx1]
 have nrd:lr≠ld:=Y2 hlr hd (by intro z;cases z);have nrp:p≠lr:=Y2 hp hlr (by intro z;cases z);have npd:p≠ld:=Y2 hp hd (by intro z;cases z);have nbd:b≠ld:=Y2 hb hd (by intro z;cases z);refine⟨_,rfl,p,a.zoz,dx,_,_,rfl,hp,T.zpo,T.zrm,R1,lr,rr,rfl,hlr,_,rfl,b,ts,rfl,.inl ⟨SqL.of hb,fun t ht=>⟨rr,(by rw[Zj (Zh hlr ht)];exact hlr),Up (by rw[rl.length];omega),?_⟩⟩⟩;have ntr:t≠lr:=Ne.symm (Zh hlr ht);have k1:∀ x o,H x=#[c]->x≠lr->upd (upd H t (.tup ts)) lr (.lst (rr++[.ref t])) x=#[c]:=fun x o e n=>by rw[Zj n,Zj (Zh e ht)];exact e
 have t1:∀ x xs,H x=#[z,xs]->upd (upd H t (.tup ts)) lr (.lst (rr++[.ref t])) x=#[z,xs]:=fun x xs e=>k1 x _ e (Y2 e hlr (by intro z;cases z));have r1:upd (upd H t (.tup ts)) lr (.lst (rr++[.ref t])) lr=#[b,.lst,rr++[.ref t]]:=Ze;have rl1:Ql (upd (upd H t (.tup ts)) lr (.lst (rr++[.ref t]))) (rr++[.ref t]) (Rs++[rs]):=(rl.mono t1).snoc (by rw[Zj ntr,Ze]) (tl.mono t1);have tl1:=tl.mono t1;generalize upd (upd H t (.tup ts)) lr (.lst (rr++[.ref t]))=H1 at k1 t1 r1 rl1 tl1;have hp1:=k1 _ _ hp nrp;have hb1:=k1 _ _ hb nb;have hd1:=k1 _ _ hd (Ne.symm nrd);refine⟨_,rfl,p,a.zoz,dx,_,_,rfl,hp1,T.zpo,T.zrm,R1,lr,_,rfl,#[x,r1],?_⟩;have hN:(((rr++[V.ref t]).length:Nat):Int)=((Rs.length+1:Nat):Int):=by rw[zx4,rl.length];rfl
 rw[hN];refine⟨_,rfl,b,rfl,⟨_,SqL.of hb1⟩,Xr (K:=K) (a:=b) (xs:=ts) (fun i σ H'=>(∃ v1 v2 v3 v4,σ=[#[d,p],#[d,b],#[l,((Rs.length+1:Nat):Int)],v1,v2,v3,v4])/\(∀ x o,H1 x=#[c]->x≠ld->H' x=#[c]) /\
  ∃ kvs',H' ld=#[b,.dT,kvs']/\zav kvs' (Kz Rs rs i)/\kvs'.length<=2*(tot Rs+i)) ⟨⟨_,_,_,_,rfl⟩,fun _ _ e _=>e,kvs,hd1,by rw[zft];exact mt,by omega⟩ (fun i σ H' _ ⟨_,k,_⟩=>SqL.of (k _ _ hb1 nbd)) ?_ ?_⟩
 ·rintro i x σ H' hx ⟨⟨v1,v2,v3,v4,rfl⟩,k2,kvs',hd2,mt2,kl2⟩;obtain⟨tr,r,rfl,hr3,htr⟩:=zlx tl1 hx;have hi:i<rs.length:=(zx3.mp hr3).1;have htr2:=k2 _ _ htr (Y2 htr hd1 (by intro z;cases z));refine⟨tr,_,rfl,SqT.of htr2,rfl,_,_,rfl,_,_,rfl,_,_,rfl,_,_,rfl,rfl,?_⟩;refine⟨_,rfl,rfl,_,rfl,?_⟩;cases hw:r.w with
  | none =>
    refine iteF ?_;exact⟨⟨_,_,_,_,rfl⟩,k2,kvs',hd2,by rw[zfu hr3 hw];exact mt2,by omega⟩
  | some w =>
    refine iteT ?_;have hp2:=k2 _ _ hp1 npd;refine⟨_,rfl,_,rfl,p,a.zoz,dx,_,_,rfl,hp2,T.zpo,T.zq6,Oc,_,rfl,_,rfl,sz2,fun t2 ht2=>⟨ld,_,rfl,DPut.t (k:=[inl w,inl r.h]) (by rw[Zj (Zh hd2 ht2)];exact hd2) Ze ((Nat.lt_trans (zzq (show _<=200000 by omega) ⋯) T4)),?_⟩⟩;have k3:∀ x o,H1 x=#[c]->x≠ld->upd (upd H' t2 (.tup [oV (some w),.int r.h])) ld (.dT (putK kvs' [inl w,inl r.h] (.int ((Rs.length+1:Nat):Int)))) x=#[c]:=fun x o e n=>by
     have:=k2 x o e n;rw[Zj n,Zj (Zh this ht2)];exact this
    have hd3:upd (upd H' t2 (.tup [oV (some w),.int r.h])) ld (.dT (putK kvs' [inl w,inl r.h] (.int ((Rs.length+1:Nat):Int)))) ld=#[b,.dT,putK kvs' [inl w,inl r.h] (.int ((Rs.length+1:Nat):Int))]:=Ze;have l3:=X4 kvs' ([inl w,inl r.h]:List Key) (.int ((Rs.length+1:Nat):Int));generalize upd (upd H' t2 (.tup [oV (some w),.int r.h])) ld (.dT (putK kvs' [inl w,inl r.h] (.int ((Rs.length+1:Nat):Int))))=H3 at k3 hd3;have hp3:=k3 _ _ hp1 npd;refine⟨_,rfl,_,rfl,p,a.zoz,dx,_,_,rfl,hp3,T.zpo,T.zq6,Oc,_,rfl,_,rfl,sz2,fun t4 ht4=>⟨ld,_,rfl,DPut.t (k:=[inl w,inl r.g]) (by rw[Zj (Zh hd3 ht4)];exact hd3) Ze ((Nat.lt_trans (zzq (show _<=200000 by omega) ⋯) T4)),?_⟩⟩;refine⟨⟨_,_,_,_,rfl⟩,fun x o e n=>?_,_,Ze,?_,?_⟩
    ·have:=k3 x o e n;rw[Zj n,Zj (Zh this ht4)];exact this
    ·rw[<- zfv hr3 hw];exact(mt2.put w r.h _ (Nat.succ_pos _)).put w r.g _ (Nat.succ_pos _)
    ·have:=X4 (putK kvs' ([inl w,inl r.h]:List Key) (.int ((Rs.length+1:Nat):Int))) ([inl w,inl r.g]:List Key) (.int ((Rs.length+1:Nat):Int));omega
 ·rintro σ H' ⟨⟨v1,v2,v3,v4,rfl⟩,k2,kvs',hd2,mt2,kl2⟩;rw[hlen] at mt2 kl2;rw[zhx] at mt2;refine h H' ⟨⟨dx,k2 _ _ hp1 npd⟩,⟨_,k2 _ _ r1 nrd,rl1.mono fun x xs e=>k2 _ _ e (Y2 e hd1 (by intro z;cases z))⟩,kvs',hd2,mt2,by rw[zhw];exact kl2⟩ fun x o e n1 n2=>k2 x o (k1 x o e n1) n2
abbrev Rh:Stmt:=Z1 (top 23) 2
theorem El:#[aa,Rh]:=fnS
theorem Em(F:#[g,"over","Ledger.over",Rh])(T:#[j]):FnOk P w K mg base #[f] 1 f fd ["self"] (Ky a.zoz):=by
 refine #[k,El];obtain⟨p,lr,ld,Rs,rfl,LA,h⟩:=h;refine⟨_,Zd (Zl (Zm (cL K) (by rfl) T.zo5 PySem.boot_len (Za (Zs (K:=K) rfl (pv 0) rfl) Zb))),?_⟩;obtain⟨⟨dx,hp⟩,⟨rr,hlr,rl⟩,_⟩:=LA;refine⟨_,rfl,p,a.zoz,dx,_,_,rfl,hp,T.zpo,T.zrm,R1,lr,_,rfl,#[x,hlr],?_⟩;rw[rl.length];exact h
abbrev Sb:Stmt:=Z1 (top 23) 3
theorem I9:#[n,["self","at"],["self","at"],Sb]:=fnS
theorem He(F:#[g,"facts","Ledger.facts",Sb])(T:#[j]):FnOk P w K mg base #[f] 1 f fd ["self","at"] (zed a.zoz a.zpy):=by
 refine #[k,I9];obtain⟨p,lr,ld,Rs,i,rfl,LA,si,h1,h2⟩:=h;refine⟨_,(Zc (Z2 (PW.pt (X3 (Zp Cv (pv 1) Zf (Zt _)) (Xh (Zp Tu (pv 1) (Zm (cL K) (by rfl) T.zo5 PySem.boot_len (Za (Zs (K:=K) rfl (pv 0) rfl) Zb)) (Zt _)))))
  (Zd (Xk Xj rfl T.ztq rfl (Za (Ve (Z5 (Xv ⋯) (Z5 (W4 (pv 1)) (Z5 (Xv ⋯) Vd))) ⋯) Zb)))
  Zo)
 (Zd (Zl (Xp (Y0 (K:=K) rfl) (by rfl) T.zp9 PyProof.Rows.boot_list (Za (pI (iL K) (Zs (K:=K) rfl (pv 0) rfl) (Zu Rf (pv 1) Zf)) Zb))))),?_⟩
 obtain⟨⟨dx,hp⟩,⟨rr,hlr,rl⟩,_⟩:=LA;refine⟨_,rfl,_,_,rfl,rfl,_,rfl,?_⟩;refine itD (fun hc=>?_) fun hc=>?_
 ·refine iteT ?_;exact#[aj,_,_,si,h1 (.inl hc)]
 refine⟨_,rfl,_,rfl,p,a.zoz,dx,_,_,rfl,hp,T.zpo,T.zrm,R1,lr,_,rfl,#[x,hlr],_,_,rfl,rfl,_,rfl,?_⟩;rw[rl.length];refine itD (fun hc2=>?_) fun hc2=>?_
 ·exact#[aj,_,_,si,h1 (.inr hc2)]
 obtain⟨k,rfl⟩:∃ k:Nat,i=(k:Int)+1:=⟨(i-1).toNat,by omega⟩;have hk:k<Rs.length:=by omega
 obtain⟨t,xs,e1,e2,e3⟩:=rl.getR (zx2 hk);refine⟨_,rfl,p,a.zoz,dx,_,_,rfl,hp,T.zpo,T.zrm,R1,_,rfl,_,_,rfl,rfl,lr,_,_,_,rfl,rfl,SqL.of hlr,(show atI rr ((k:Int)+1-1)=some (.ref t) by rw[show (k:Int)+1-1=(k:Int) by omega];exact Z4 e1),t,xs,rfl,.inr (SqT.of e2),fun l hl=>h2 k _ rfl (zx2 hk) l xs hl e3⟩
abbrev Qv:Stmt:=Z1 (top 23) 4
theorem D4:#[n,["self","number","club"],["self","number","club"],Qv]:=fnS
theorem D5(F:#[g,"met","Ledger.met",Qv])(T:#[j]):FnOk P w K mg base #[f] 1 f fd ["self","number","club"] (zkl a.zoz):=by
 refine #[k,D4];obtain⟨p,lr,ld,Rs,n,c,rfl,LA,h⟩:=h;have hu:=We hr;refine⟨_,Zd (Zl (zhf hu #[V,Zs,0] (Yc (Za (pv 1) (Za (pv 2) Zb))) Zf ⟨rfl,rfl,rfl,rfl⟩)),?_⟩;obtain⟨⟨dx,hp⟩,_,⟨kvs,hd,mt,kl⟩⟩:=LA;refine⟨_,rfl,p,a.zoz,dx,_,_,rfl,hp,T.zpo,T.zq6,Oc,ld,rfl,.inr ⟨kvs,.inl hd⟩,_,rfl,_,rfl,sz2,fun t ht=>⟨_,DGet.t (k:=[inl n,inl c]) (by rw[Zj (Zh hd ht)];exact hd) Ze,?_⟩⟩;have e:((valV kvs ([inl n,inl c]:List Key)).getD (.int 0))=.int (metS Rs n c:Nat):=by
  rw[mt n c];split
  ·rename_i z;rw[z];rfl
  ·rfl
 rw[e];exact h _ (Zk ht)
abbrev Ri:Stmt:=top 25
theorem En:#[n,["value","least","most"],["value","least","most"],Ri]:=fnS
theorem Eo(F:#[g,"check_range","check_range",Ri])(T:#[j]):FnOk P w K mg base #[f] 1 f fd ["value","least","most"] (Ll a.zpn):=by
 refine #[k,En];obtain⟨v,lo,m,rfl,s1,s2,s3,h⟩:=h;refine⟨_,(Zd (Z2 (PW.pt (X3 (Zp Cv (pv 0) (pv 1) (Zt _)) (Xh (Zp Tu (pv 0) (pv 2) (Zt _)))))
  (Zd (Xk Xj rfl T.zuw rfl (Za (Ve (Z5 (W4 (pv 0)) (Z5 (Xv ⋯) (Z5 (W4 (pv 1)) (Z5 (Xv ⋯) (Z5 (W4 (pv 2)) Vd))))) ⋯) Zb)))
  Zo)),?_⟩
 walk_at "rd";refine itD (fun h1=>?_) fun h1=>?_
 ·rw[if_pos (Or.inl h1)] at h;refine iteT ?_;walk_at "rd";refine⟨.inl ⟨_,rfl,s1⟩,_,rfl,.inl ⟨_,rfl,s2⟩,_,rfl,.inl ⟨_,rfl,s3⟩,fun z=>⟨sz1,h⟩⟩
 ·walk_at "rd";refine itD (fun h2=>?_) fun h2=>?_
  ·rw[if_pos (Or.inr h2)] at h;walk_at "rd";refine⟨.inl ⟨_,rfl,s1⟩,_,rfl,.inl ⟨_,rfl,s2⟩,_,rfl,.inl ⟨_,rfl,s3⟩,fun z=>⟨sz1,h⟩⟩
  ·rw[if_neg fun z=>z.elim h1 h2] at h;exact h
abbrev Rj:Stmt:=top 35
theorem Ol:#[n,["matches","count"],["matches"],Rj]:=fnS
theorem Ep(F:#[g,"check_count","check_count",Rj])(T:#[j]):FnOk P w K mg base #[f] 1 f fd ["matches"] (zbg K (ca a)):=by
 refine #[k,Ol];obtain⟨b,ts,rfl,hs,hl,h1,h2⟩:=h;refine⟨_,(Zc (pS 1 Ol.nd #[ab,cL,Za,0,Zb])
 (Zd (Z2 (Zp Tu (pv 1) (Wz rfl T.zq1) (Zt _))
  (Zd (Xk Xj rfl T.zt3 rfl (Za (Ve (Z5 (W4 (pv 1)) (Z5 (Xv ⋯) (Z5 (W4 (Wz rfl T.zq1)) Vd))) ⋯) Zb)))
  Zo))),?_⟩
 refine⟨_,rfl,b,_,rfl,.inl hs,?_⟩;walk_at "rd";refine itD (fun hc=>?_) fun hc=>?_
 ·walk_at "rd";exact⟨.inl ⟨_,rfl,Yi ⋯ ⋯⟩,.inl ⟨_,rfl,Yl ⋯⟩,fun z=>⟨sz1,h1 ⋯⟩⟩
 ·exact h2 ⋯
abbrev Sd:Stmt:=top 36
theorem Vo:#[n,["matches","home","guest","grade"],["matches"],Sd]:=fnS
theorem Hf(F:#[g,"check_ranges","check_ranges",Sd])(T:#[j])(zpc:Zz P w K mg base "check_range" 1 ["value","least","most"] (Ll a.zpn)):FnOk P w K mg base #[f] 2 f fd ["matches"] (Bl K (ca a)):=by
 refine #[k,Vo];obtain⟨b,ts,Ms,rfl,hs,tl,sm,h1,h2⟩:=h;refine⟨_,(Zd (Yp PassesOwn.leaving rfl (Z9 (K:=K) rfl (pv 0)) (Xu (K:=K) (n:=3) rfl rfl (Zv (pN 1 Vo.nd) (Zv (pN 2 Vo.nd) (Zv (pN 3 Vo.nd) Xt))))
  (Zc (Z7 (pF zpc hr (Za (pv 1) (Za Zf (Za (Wz rfl T.zrj) Zb)))))
  (Zc (Z7 (pF zpc hr (Za (pv 2) (Za Zf (Za (Wz rfl T.zrj) Zb)))))
  (Zd (Z7 (pF zpc hr (Za (pv 3) (Za Zf (Za (Wz rfl T.zru) Zb)))))))))),?_⟩
 have hlen:ts.length=Ms.length:=by rw[tl.length,zx1]
 let jv1:Nat->L2.St->Hp->Prop:=fun i σ H'=>H'=H/\(∃ v1 v2 v3,σ=[some (.ref b),v1,v2,v3])/\∀ m∈Ms.take i,¬ badM m
 refine⟨_,rfl,b,rfl,⟨_,hs⟩,Xr (K:=K) (a:=b) (xs:=ts) jv1 ⟨rfl,⟨_,_,_,rfl⟩,by simp⟩ (fun i σ H' _ ⟨e,_⟩=>e▸hs) ?_ ?_⟩
 ·rintro i x σ H' hx ⟨rfl,⟨v1,v2,v3,rfl⟩,hi⟩;obtain⟨t,m,rfl,hm,ht⟩:=Ni tl hx;have hmem:=zyb hm;obtain⟨s1,s2,s3⟩:=sm m hmem;have bad:badM m->E (.ref a.zpn) none H':=fun hb=>h1 ⟨m,hmem,hb⟩;refine⟨t,_,rfl,SqT.of ht,rfl,_,_,rfl,_,_,rfl,_,_,rfl,rfl,?_⟩;refine⟨_,rfl,_,1,99,rfl,s1,Yl ⋯,Yl ⋯,?_⟩;refine Du (fun b1=>bad (by unfold badM;omega)) fun b1=>?_;refine⟨_,rfl,_,1,99,rfl,s2,Yl ⋯,Yl ⋯,?_⟩;refine Du (fun b2=>bad (by unfold badM;omega)) fun b2=>?_;refine⟨_,rfl,_,1,9,rfl,s3,Yl ⋯,Yl ⋯,?_⟩;refine Du (fun b3=>bad (by unfold badM;omega)) fun b3=>?_;exact⟨rfl,⟨_,_,_,rfl⟩,Bj hm hi (by unfold badM;omega)⟩
 ·rintro σ H' ⟨rfl,⟨v1,v2,v3,rfl⟩,hi⟩;rw[hlen,zyi] at hi;exact h2 fun ⟨m,hm,hb⟩=>hi m hm hb
abbrev Rk:Stmt:=top 37
theorem V8:#[n,["matches","home","guest","grade"],["matches"],Rk]:=fnS
theorem Er(F:#[g,"check_clubs","check_clubs",Rk])(T:#[j]):FnOk P w K mg base #[f] 1 f fd ["matches"] (zbh K (ca a)):=by
 refine #[k,V8];obtain⟨b,ts,Ms,rfl,hs,tl,sm,h1,h2⟩:=h;refine⟨_,(Zd (Yp PassesOwn.leaving rfl (Z9 (K:=K) rfl (pv 0)) (Xu (K:=K) (n:=3) rfl rfl (Zv (pN 1 V8.nd) (Zv (pN 2 V8.nd) (Zv (pN 3 V8.nd) Xt))))
  (Zd (Z2 (Zp Wd (pv 1) (pv 2) (Zt _))
   (Zd (Xk Xj rfl T.zu3 rfl (Za (Ve (Z5 (Xv ⋯) (Z5 (W4 (pv 1)) (Z5 (Xv ⋯) Vd))) ⋯) Zb)))
   Zo)))),?_⟩
 have hlen:ts.length=Ms.length:=by rw[tl.length,zx1]
 let jv2:Nat->L2.St->Hp->Prop:=fun i σ H'=>H'=H/\(∃ v1 v2 v3,σ=[some (.ref b),v1,v2,v3])/\∀ m∈Ms.take i,¬ (m.1=m.2.1)
 refine⟨_,rfl,b,rfl,⟨_,hs⟩,Xr (K:=K) (a:=b) (xs:=ts) jv2 ⟨rfl,⟨_,_,_,rfl⟩,by simp⟩ (fun i σ H' _ ⟨e,_⟩=>e▸hs) ?_ ?_⟩
 ·rintro i x σ H' hx ⟨rfl,⟨v1,v2,v3,rfl⟩,hi⟩;obtain⟨t,m,rfl,hm,ht⟩:=Ni tl hx;have hmem:=zyb hm;obtain⟨s1,s2,s3⟩:=sm m hmem;refine⟨t,_,rfl,SqT.of ht,rfl,_,_,rfl,_,_,rfl,_,_,rfl,rfl,?_⟩;refine⟨_,rfl,_,rfl,rfl,_,rfl,?_⟩;refine itV (fun he=>?_) fun he=>?_
  ·exact#[aj,_,_,s1,h1 ⟨m,hmem,he⟩]
  ·exact⟨rfl,⟨_,_,_,rfl⟩,Bj (p:=fun m=>m.1=m.2.1) hm hi he⟩
 ·rintro σ H' ⟨rfl,⟨v1,v2,v3,rfl⟩,hi⟩;rw[hlen,zyi] at hi;exact h2 fun ⟨m,hm,hb⟩=>hi m hm hb
abbrev Jc:Stmt:=top 38
theorem zdk:#[n,["matches"],["matches"],Jc]:=fnS
theorem zdl(F:#[g,"checked","checked",Jc])(T:#[j])(zsq:Zz P w K mg base "check_count" 1 ["matches"] (zbg K (ca a)))(zr3:Zz P w K mg base "check_ranges" 2 ["matches"] (Bl K (ca a)))(zsm:Zz P w K mg base "check_clubs" 1 ["matches"] (zbh K (ca a))):FnOk P w K mg base #[f] 3 f fd ["matches"] (Ft K (ca a)):=by
 refine #[k,zdk];obtain⟨b,ts,Ms,rfl,hs,tl,sm,hl,h1,h2,h3,h4⟩:=h;refine⟨_,(Zc (Z7 (pF zsq hr (Za (pv 0) Zb)))
 (Zc (Z7 (pF zr3 hr (Za (pv 0) Zb)))
 (Zc (Z7 (pF zsm hr (Za (pv 0) Zb)))
 (Zd (Zl (Xp (Y0 (K:=K) rfl) (by rfl) T.zp9 PyProof.Rows.boot_list (Za (pv 0) Zb))))))),?_⟩
 have hlen:ts.length=Ms.length:=by rw[tl.length,zx1]
 refine⟨_,rfl,b,ts,rfl,hs,by omega,fun hc=>h1 ⋯,fun hc=>?_⟩;refine⟨_,rfl,b,ts,Ms,rfl,hs,tl,sm,fun hb=>h2 ⋯ hb,fun hb=>?_⟩;refine⟨_,rfl,b,ts,Ms,rfl,hs,tl,sm,fun hb2=>h3 ⋯ hb hb2,fun hb2=>?_⟩;exact⟨_,rfl,b,ts,rfl,.inl hs,h4 ⋯ hb hb2⟩
abbrev V9:Stmt:=Z1 (top 40) 0
theorem Mq:#[aa,V9]:=fnS
theorem Mr(F:#[g,"__init__","Roster.__init__",V9])(T:#[j]):FnOk P w K mg base #[f] 1 f fd ["self"] #[e,zen]:=by
 refine #[k,Mq];obtain⟨p,dx,rfl,hp,h⟩:=h;refine⟨_,Zd (Xg (K:=K) rfl (pv 0) P9 rfl),?_⟩;intro d hd;exact⟨_,rfl,p,a.zo2,dx,[],rfl,(by rw[Zj (Zh hp hd)];exact hp),T.zph,T.zqi,⋯,h d hd⟩
abbrev Vt:Stmt:=Z1 (top 40) 1
theorem Nl:#[n,#[ae],#[ae],Vt]:=fnS
theorem Nm(F:#[g,"check_new","Roster.check_new",Vt])(T:#[j])(zpc:Zz P w K mg base "check_range" 1 ["value","least","most"] (Ll a.zpn)):FnOk P w K mg base #[f] 2 f fd #[ae] #[e,Ma]:=by
 refine #[k,Nl];obtain⟨p,d,R,n,g,c,rfl,RA,sm,h⟩:=h;have hu:=We hr;refine⟨_,(Zc (Z7 (pF zpc hr (Za (pv 1) (Za Zf (Za (Wz rfl T.zso) Zb)))))
 (Zc (Z7 (pF zpc hr (Za (pv 2) (Za Zf (Za (Wz rfl T.zru) Zb)))))
 (Zc (Z7 (pF zpc hr (Za (pv 3) (Za Zf (Za (Wz rfl T.zrj) Zb)))))
 (Zc (Z2 (Qf (N3 hu (pv 1) (Zs (K:=K) rfl (pv 0) rfl)))
  (Zd (Xk Xj rfl T.zug rfl (Za (Ve (Z5 (Xv ⋯) (Z5 (W4 (pv 1)) (Z5 (Xv ⋯) Vd))) ⋯) Zb)))
  Zo)
 (Zd (Z2 (Zp zdv (Zm zfm (by rfl) T.zo5 PySem.boot_len (Za (Zs (K:=K) rfl (pv 0) rfl) Zb)) (Wz rfl T.zqq) (Zt _))
  (Zd (Xk Xj rfl T.zty rfl (Za (Ve (Z5 (Xv ⋯) (Z5 (W4 (Wz rfl T.zqq)) (Z5 (Xv ⋯) Vd))) ⋯) Zb)))
  Zo)))))),?_⟩
 obtain⟨sn,sg,sc⟩:=sm;obtain⟨⟨dx,kvs,hp,hd,en⟩,nd⟩:=id RA;have bad:∀ {A B:Prop},(badI n g c->(if badI n g c then A else B)->A):=fun hb z=>by rw[if_pos hb] at z;exact z
 refine⟨_,rfl,n,1,999,rfl,sn,Yl ⋯,Yl ⋯,?_⟩;refine Du (fun b1=>bad (by unfold badI;omega) h) fun b1=>?_;refine⟨_,rfl,g,1,9,rfl,sg,Yl ⋯,Yl ⋯,?_⟩;refine Du (fun b2=>bad (by unfold badI;omega) h) fun b2=>?_;refine⟨_,rfl,c,1,99,rfl,sc,Yl ⋯,Yl ⋯,?_⟩;refine Du (fun b3=>bad (by unfold badI;omega) h) fun b3=>?_;rw[if_neg (by unfold badI;omega)] at h;refine⟨_,rfl,_,rfl,p,a.zo2,dx,_,_,rfl,hp,T.zph,T.zqi,Vr,d,_,rfl,DGet.k (k:=inl n) hd,_,rfl,?_⟩;rw[en.isSome nd];refine itD (fun hn=>?_) fun hn=>?_
 ·rw[if_pos hn] at h;exact#[aj,_,_,sn,h]
 rw[if_neg hn] at h;refine⟨_,rfl,p,a.zo2,dx,_,_,rfl,hp,T.zph,T.zqi,Vr,d,_,rfl,hd,_,_,rfl,rfl,_,rfl,?_⟩;rw[en.length];refine itD (fun hz=>?_) fun hz=>?_
 ·rw[if_pos ⋯] at h;exact⟨.inl ⟨_,rfl,Yl ⋯⟩,fun z=>⟨sz1,h⟩⟩
 rw[if_neg ⋯] at h;exact h
abbrev W9:Stmt:=Z1 (top 40) 2
theorem Pu:#[n,#[Q],#[Q],W9]:=fnS
theorem Pw(F:#[g,"check_known","Roster.check_known",W9])(T:#[j]):FnOk P w K mg base #[f] 1 f fd #[Q] #[e,V5]:=by
 refine #[k,Pu];obtain⟨p,d,R,n,rfl,RA,sn,h⟩:=h;have hu:=We hr;refine⟨_,(Zd (Z2 (Qf (Kr hu (pv 1) #[V,Zs,0]))
  (Zd (Xk Xj rfl T.zt4 rfl (Za (Ve (Z5 (Xv ⋯) (Z5 (W4 (pv 1)) (Z5 (Xv ⋯) Vd))) ⋯) Zb)))
  Zo)),?_⟩
 obtain⟨⟨dx,kvs,hp,hd,en⟩,nd⟩:=id RA;refine⟨_,rfl,_,rfl,p,a.zo2,dx,_,_,rfl,hp,T.zph,T.zqi,Vr,d,_,rfl,DGet.k (k:=inl n) hd,_,rfl,?_⟩;rw[en.isSome nd];by_cases hn:n∈R.map (·.1)
 ·rw[zx9 hn];rw[if_pos hn] at h;exact iteF h
 ·rw[zye hn];rw[if_neg hn] at h;exact iteT #[aj,_,_,sn,h]
abbrev Qw:Stmt:=Z1 (top 40) 3
theorem D6:#[n,#[ae],#[ae],Qw]:=fnS
theorem D7(F:#[g,"add","Roster.add",Qw])(T:#[j])(zpp:Zq P w K mg base a.zo2 "check_new" 2 #[ae] #[e,Ma]):FnOk P w K mg base #[f] 3 f fd #[ae] #[e,zij]:=by
 refine #[k,D6];obtain⟨p,d,R,n,g,c,rfl,RA,sm,hl,h⟩:=h;have hu:=We hr;refine⟨_,(Zc (Z7 (Yj (pv 0) T.zph zpp (hr.mono ⋯) Zi (Za (pv 1) (Za (pv 2) (Za (pv 3) Zb)))))
 (Zd (Yu hu (Zs (K:=K) rfl (pv 0) rfl) (pv 1) (Yc (Za (pv 2) (Za (pv 3) Zb))) rfl))),?_⟩
 obtain⟨⟨dx,kvs,hp,hd,en⟩,nd⟩:=id RA;refine⟨_,rfl,p,dx,_,rfl,hp,Xe.no ⋯,_,rfl,_,rfl,_,rfl,p,d,R,n,g,c,rfl,RA,sm,?_⟩;refine it2 h (fun _ z=>z) fun hb h=>it2 h (fun _ z=>z) fun hn h=>it2 h (fun _ z=>z) fun hz h=>?_;refine⟨_,rfl,_,rfl,sz2,fun t ht=>?_⟩;have ntp:p≠t:=Zh hp ht;have ntd:d≠t:=Zh hd ht;have npd:p≠d:=Y2 hp hd (by intro z;cases z);refine⟨_,rfl,p,a.zo2,dx,_,_,rfl,(by rw[Zj ntp];exact hp),T.zph,T.zqi,Vr,_,rfl,d,_,rfl,DPut.k (k:=inl n) (by rw[Zj ntd];exact hd) (Up (by rw[en.length];exact hl)),?_⟩;rw[zf5 (en.val_none hn)];refine h _ ⟨⟨dx,_,(by rw[Zj npd,Zj ntp];exact hp),Ze,?_⟩,?_⟩ fun b o e hb=>(by rw[Zj hb,Zj (Zh e ht)];exact e)
 ·refine Vq.snoc (by rw[Zj (Ne.symm ntd)];exact Ze) (en.mono fun b xs e=>?_);rw[Zj (Y2 e hd (by intro z;cases z)),Zj (Zh e ht)];exact e
 ·rw[zx7];exact B1 nd hn
abbrev Ta:Stmt:=Z1 (top 40) 4
theorem Jd:#[n,#[Q],#[Q],Ta]:=fnS
theorem Je(F:#[g,"strike","Roster.strike",Ta])(T:#[j]):FnOk P w K mg base #[f] 1 f fd #[Q] #[e,za6]:=by
 refine #[k,Jd];obtain⟨p,d,R,n,g,c,rfl,RA,h⟩:=h;refine⟨_,Zd (Z7 (zhg #[V,Zs,0] (pv 1) ⟨rfl,rfl,rfl,rfl⟩)),?_⟩;obtain⟨⟨dx,kvs,hp,hd,en⟩,nd⟩:=id RA;have npd:p≠d:=Y2 hp hd (by intro z;cases z);obtain⟨t,e1,e2⟩:=en.val_some nd (show (n,g,c)∈R++[(n,g,c)] by simp);have hn:n∉R.map (·.1):=by
  rw[zx7,List.nodup_append] at nd;exact fun z=>nd.2.2 n z n (by simp) rfl
 refine⟨_,rfl,p,a.zo2,dx,_,_,rfl,hp,T.zph,T.zqi,Vr,d,rfl,.inl ⟨kvs,.inl hd⟩,_,rfl,kvs,inl n,_,hd,rfl,e1,?_⟩;refine h _ ⟨⟨dx,_,(by rw[Zj npd];exact hp),Ze,(en.unsnoc hn).mono fun b xs e=>?_⟩,?_⟩ fun b o e hb=>(by rw[Zj hb];exact e)
 ·rw[Zj (Y2 e hd (by intro z;cases z))];exact e
 ·rw[zx7,List.nodup_append] at nd;exact nd.1
abbrev Us:Stmt:=Z1 (top 40) 6
theorem Lv:#[aa,Us]:=fnS
theorem Lw(F:#[g,"numbers","Roster.numbers",Us])(T:#[j]):FnOk P w K mg base #[f] 1 f fd ["self"] #[e,Mb]:=by
 refine #[k,Lv];obtain⟨p,d,R,rfl,RA,h⟩:=h;refine⟨_,Zd (Zl (Xp (zcv rfl) (by rfl) T.zp9 PyProof.Rows.boot_list (Za (Zs (K:=K) rfl (pv 0) rfl) Zb))),?_⟩;obtain⟨⟨dx,kvs,hp,hd,en⟩,nd⟩:=id RA;refine⟨_,rfl,p,a.zo2,dx,_,_,rfl,hp,T.zph,T.zqi,Vr,d,kvs,rfl,.inl hd,fun l hl=>?_⟩;rw[en.keys];exact h l hl
abbrev Se:Stmt:=Z1 (top 40) 7
theorem Hg:#[n,#[Q],#[Q],Se]:=fnS
theorem Hh(F:#[g,"entry","Roster.entry",Se])(T:#[j])(zo4:Zq P w K mg base a.zo2 "check_known" 1 #[Q] #[e,V5]):FnOk P w K mg base #[f] 2 f fd #[Q] #[e,Fm]:=by
 refine #[k,Hg];obtain⟨p,d,R,n,rfl,RA,sn,h1,h2⟩:=h;have hu:=We hr;refine⟨_,(Zc (Z7 (Yj (pv 0) T.zph zo4 (hr.mono ⋯) Zi (Za (pv 1) Zb)))
 (Zd (Zl (pD hu (Zs (K:=K) rfl (pv 0) rfl) (pv 1))))),?_⟩
 obtain⟨⟨dx,kvs,hp,hd,en⟩,nd⟩:=id RA;refine⟨_,rfl,p,dx,_,rfl,hp,Xe.no ⋯,_,rfl,p,d,R,n,rfl,RA,sn,?_⟩;refine Du (fun hn=>?_) fun hn=>h1 hn;obtain⟨⟨m,g,c⟩,q,rfl⟩:=zya.mp hn;obtain⟨t,e1,e2⟩:=en.val_some nd q;exact⟨_,rfl,p,a.zo2,dx,_,_,rfl,hp,T.zph,T.zqi,Vr,_,rfl,d,_,rfl,(by rw[<- e1];exact DGet.k (k:=inl m) hd),h2 g c t q e2⟩
abbrev Tb:Stmt:=Z1 (top 40) 10
theorem Jf:#[n,#[Q],#[Q],Tb]:=fnS
theorem Jg(F:#[g,"person","Roster.person",Tb])(T:#[j])(zqd:Zq P w K mg base a.zo2 "entry" 2 #[Q] #[e,Fm]):FnOk P w K mg base #[f] 3 f fd #[Q] #[e,Fn]:=by
 refine #[k,Jf];obtain⟨p,d,R,n,rfl,RA,sn,h1,h2⟩:=h;refine⟨_,Zd (Zl (Zu (za7 (K:=K) rfl) (Yc (Za (pv 1) Zb)) (Yj (pv 0) T.zph zqd (hr.mono ⋯) Zi (Za (pv 1) Zb)))),?_⟩;obtain⟨⟨dx,kvs,hp,hd,en⟩,nd⟩:=id RA;refine⟨_,rfl,sz1,fun t1 ht1=>?_⟩;refine al (upd _ t1 _) ht1 rfl fun H1 q1 s1=>?_;refine⟨_,rfl,p,dx,_,rfl,s1 _ _ hp,Xe.no ⋯,_,rfl,p,d,R,n,rfl,RA.same s1,sn,fun hn=>h1 hn H1 s1,fun g c t q ht=>?_⟩;refine⟨t1,t,_,_,rfl,rfl,SqT.of q1,SqT.of ht,by simp,by show 1+2<=sizeLine;exact sz3,fun z=>absurd z (by simp),fun _ t2 ht2=>?_⟩;exact h2 g c t2 _ q Ze (s1.trans (Zk ht2)) (s1.free ht2)
abbrev Et:Stmt:=top 4
theorem zgp:#[n,["people","match","out","ledger","rest"],["people","match","out","ledger","rest"],Et]:=fnS
theorem zgq(F:#[g,"takers","takers",Et])(T:#[j])(zqa:Zz P w K mg base "reasons_bars" 3 ["referee","match","out","ledger","rest"] (K1 K a.zoz)):FnOk P w K mg base #[f] 4 f fd ["people","match","out","ledger","rest"] (zay K a.zoz):=by
 refine #[k,zgp];obtain⟨lp,lo,tm,p,lr,ld,Rs,ts,Ms,os,h,gu,d,rest,rfl,hp,tl,ho,hoo,ht,LA,hl,hq⟩:=h;refine⟨_,Zd (Zl (Ww rfl (cT ["match","ledger","rest","out"] [1,3,4,2]) (Z9 (K:=K) rfl (pv 0)) (fun _ _ _ _ _=>Sz (Yg (C6 (K:=K) rfl (zd5 zqa (hr.mono ⋯) zau rfl (Za (pv 0) (Za (pv 1) (Za (Vn (Fb (K:=K) rfl) (pI (iU K) (pv 0) Zf) (pv 4) (by with_unfolding_all rfl)) (Za (pv 2) (Za (pv 3) Zb)))))) fun _=>rfl))) fun _ _ _ _ _=>(pI (iU K) (pv 0) Zf))),?_⟩;have hlen:ts.length=Ms.length:=by rw[tl.length,zx1]
 refine⟨_,rfl,lp,rfl,⟨_,SqL.of hp⟩,?_⟩;refine X0 (K:=K) (a:=lp) (xs:=ts) (fun i ys H'=>#[p]/\ys=((Ms.take i).filter (Od Rs h gu d os rest)).map fun m=>V.int m.1) #[y,Same.refl _] (fun i ys H' _ ⟨s,_⟩=>#[K,s,hp]) (by rw[hlen];exact szN hl) (fun i ys H' ⟨_,e⟩=>by rw[e,zx1];exact zyg (zyw _ _) (zzc _ _)) ?_ ?_
 ·rintro i x ys H' hx ⟨sm,rfl⟩;obtain⟨t,m,rfl,hm,htt⟩:=Ni tl hx;have htt':=sm _ _ htt;refine⟨_,rfl,_,rfl,_,rfl,t,_,_,_,rfl,rfl,SqT.of htt',show atI (pV m) 0=some _ from rfl,_,rfl,lo,os,rfl,#[x,sm _ _ ho],rfl,List.all_eq_true.mpr fun y hy=>zhz (hoo y hy),_,rfl,_,rfl,t,tm,p,lr,ld,Rs,m.1,m.2.1,m.2.2,h,gu,d,rest,inV (.int m.1) os,rfl,htt',sm _ _ ht,LA.same sm,fun l H2 hl2 s2 _=>?_⟩;refine⟨_,.inl ⟨_,SqL.of hl2,rfl⟩,?_⟩;have e:((whyS Rs m.1 m.2.1 m.2.2 h gu d (inV (.int m.1) os) rest).map V.str).isEmpty=Od Rs h gu d os rest m:=by unfold Od;rw[List.isEmpty_map]
  have hys:∀ ys',((Ms.take (i+1)).filter (Od Rs h gu d os rest)).map (fun m=>V.int m.1)=((Ms.take i).filter (Od Rs h gu d os rest)).map (fun m=>V.int m.1)++ys'↔ys'=if Od Rs h gu d os rest m then [V.int m.1] else []:=fun ys'=>by
   rw[zzd,hm,zzk,zx7,List.append_cancel_left_eq];cases q:Od Rs h gu d os rest m<;>simp[q,eq_comm]
  dsimp only;rw[e];refine itB (fun hb=>?_) fun hb=>?_
  ·rw[Bool.not_not] at hb;refine⟨_,rfl,t,_,_,_,rfl,rfl,SqT.of (s2 _ _ htt'),show atI (pV m) 0=some _ from rfl,sm.trans s2,?_⟩;exact((hys [V.int m.1]).mpr (by rw[hb];rfl)).symm
  ·rw[Bool.not_not] at hb;refine⟨sm.trans s2,?_⟩;have:=(hys []).mpr (by rw[hb];rfl);rw[z0e] at this;exact this.symm
 ·rintro ys H' ⟨sm,rfl⟩ l hl';rw[hlen,zyi];exact hq l _ Ze (sm.trans (Zk hl')) (sm.free hl')
abbrev Sf:Stmt:=top 42
theorem Vp:#[n,["given","taken","place","number"],["given"],Sf]:=fnS
theorem Hi(F:#[g,"places_taken","places_taken",Sf])(T:#[j]):FnOk P w K mg base #[f] 1 f fd ["given"] (Af K):=by
 refine #[k,Vp];obtain⟨b,gs,rfl,hb,ho,hinj,hl,h⟩:=h;have hu:=We hr;refine⟨_,(Zc (pS 1 Vp.nd P9)
 (Zc (Yp PassesOwn.leaving rfl (zei (K:=K) rfl rfl T.zsd (Za (pv 0) Zb)) (Xu (K:=K) (n:=2) rfl rfl (Zv (pN 2 Vp.nd) (Zv (pN 3 Vp.nd) Xt)))
  (Zd (Z2 (Zp Tj (pv 3) Y3 (Zt _))
   (Zd (Yu hu (pv 1) (pv 3) (pv 2) rfl))
   Zo)))
 (Zd (Zl (pv 1))))),?_⟩
 have line:100<sizeLine:=by rw[sizeLine_eq];decide
 intro d hd
 let jv1:Nat->L2.St->Hp->Prop:=fun i σ' H'=>(∃ u v,σ'=[some (.ref b),some (.ref d),u,v])/\#[p]/\∃ kvs,H' d=#[b,.dK,kvs]/\kvs.length<=i/\(∀ (n:Int) (j:Nat),j<i->gs[j]?=some (.int n)->valV kvs (inl n:Key)=some (.int (j:Nat)))/\(∀ n:Int,(∀ j:Nat,j<i->gs[j]?≠some (.int n))->valV kvs (inl n:Key)=none)
 refine⟨_,rfl,b,rfl,⟨gs,SqL.of (Zk hd _ _ hb)⟩,zh8 (xs:=gs) jv1
  ⟨⟨none,none,rfl⟩,Zk hd,[],Ze,zyc _,fun n j hj=>absurd hj (zz5 _),fun n _=>rfl⟩ (fun i σ' H' hi p=>#[K,p.2.1,hb]) (fun i x t σ' H' hx p htn=>?_) (fun σ' H' p=>?_)⟩
 ·obtain⟨⟨u,v,rfl⟩,hs,kvs,hk,hkl,h1,h2⟩:=p;have s2:=hs.trans (Zk (o:=.tup [.int (i:Nat),x]) htn);have hk2:=Zk (o:=.tup [.int (i:Nat),x]) htn _ _ hk;refine⟨t,_,rfl,SqT.of Ze,rfl,_,_,rfl,_,_,rfl,rfl,?_⟩;generalize upd H' t (.tup [.int (i:Nat),x])=H2 at s2 hk2;have hi:i<gs.length:=(zx3.mp hx).1;refine W0 (b:=!decide (x=.non)) (fun Q k=>⟨_,rfl,rfl,_,rfl,k⟩) ?_;rcases ho x (zyb hx) with rfl|⟨n,rfl⟩
  ·refine iteF (Zx ⟨⟨_,_,rfl⟩,s2,kvs,hk2,by omega,fun n j hj hg=>?_,fun n hn=>h2 n fun j hj=>hn j ⋯⟩);by_cases e:j=i
   ·subst e;rw[hx] at hg;cases hg
   ·exact h1 n j ⋯ hg
  ·refine iteT ⟨_,rfl,_,rfl,_,rfl,d,_,rfl,DPut.k (k:=inl n) hk2 ⋯,⟨_,_,rfl⟩,?_,_,Ze,?_,fun m j hj hg=>?_,fun m hm=>?_⟩
   ·exact Yx hd s2
   ·exact zyg (X4 kvs _ _) ⋯
   ·rw[U5];by_cases e:j=i
    ·subst e;rw[hx] at hg;cases hg;rw[if_pos rfl]
    ·have hne:¬ ((inl m:Key)=inl n):=fun z=>by
      rw[inl.inj z] at hg;exact e (hinj j i n hg hx)
     rw[if_neg hne];exact h1 m j ⋯ hg
   ·have hne:¬ ((inl m:Key)=inl n):=fun z=>by
     rw[inl.inj z] at hm;exact hm i ⋯ hx
    rw[U5,if_neg hne];exact h2 m fun j hj=>hm j ⋯
 ·obtain⟨⟨u,v,rfl⟩,hs,kvs,hk,hkl,h1,h2⟩:=p;exact#[q,_,h d kvs H' hk ⟨fun n j hj=>h1 n j (zx3.mp hj).1 hj,fun n hn=>h2 n fun j _=>hn j⟩ hs hd]
abbrev Qx:Stmt:=top 43
theorem Wc:#[n,["may","taken","start","into","waiting","done","place","number"],["may","taken","start"],Qx]:=fnS
theorem D8(F:#[g,"steps_into","steps_into",Qx])(T:#[j]):FnOk P w K mg base #[f] 1 f fd ["may","taken","start"] (zc2 K):=by
 refine #[k,Wc];obtain⟨l,d,ls,rows,kvs,gs,p,rfl,hl,il,hrl,hd,tk,FP,hp,h⟩:=h;have hu:=We hr;refine⟨_,(Zc (pS 3 Wc.nd (zdz (Tv (pv 2) Y3 zdy) rfl rfl (by simp) ⋯))
 (Zc (pS 4 Wc.nd (Yd (Za (pv 2) Zb)))
 (Zc (pS 5 Wc.nd Zf)
 (Zc (G2 PassesOwn.leaving (Zp Cv (pv 5) (Zm (cL K) (by rfl) T.zo5 PySem.boot_len (Za (pv 4) Zb)) (Zt _))
  (Zc (pS 6 Wc.nd (pI (iL K) (pv 4) (pv 5)))
  (Zc (pS 5 Wc.nd (Zu Yq (pv 5) Zf))
  (Zd (Yp PassesOwn.leaving rfl (Z9 (K:=K) rfl (pI (iL K) (pv 0) (pv 6))) (pN 7 Wc.nd)
   (Zd (Z2 (PW.pt (Ny (Qf (N3 hu (pv 7) (pv 1))) (Qg (Qf (Kr hu (pD hu (pv 1) (pv 7)) (pv 3))))))
    (Zc (Yu hu (pv 3) (pD hu (pv 1) (pv 7)) (Yc (Za (pv 6) (Za (pv 7) Zb))) rfl)
    (Zd (Y6 (pv 4) (pD hu (pv 1) (pv 7)))))
    Zo)))))))
 (Zd (Zl (pv 3))))))),?_⟩
 show let y1:TS:=_;let y2:TS:=Z0 _ y1;let y3:TS:=_;let y4:TS:=Z0 (zcd _ (Z0 _ y2)) y3;let y5:TS:=Z0 _ y4;let y6:TS:=Z0 _ y5;Z0 _ y6 _ _ _;intro y1 y2 y3 y4 y5 y6;have line0:200<sizeLine:=by rw[sizeLine_eq];decide
 intro ld hld;refine⟨_,rfl,Ze,[(inl (p:Int),.non)],rfl,(by show 1<=15;decide),?_⟩;have s0:Same H (upd (upd H ld (.dK [])) ld (.dK (Uo [] [(inl (p:Int),.non)]))):=Yx hld (Zk hld);have q0:upd (upd H ld (.dK [])) ld (.dK (Uo [] [(inl (p:Int),.non)])) ld=#[b,.dK,[((inl (p:Int):Key),V.non)]]:=Ze;generalize upd (upd H ld (.dK [])) ld (.dK (Uo [] [(inl (p:Int),.non)]))=H1 at s0 q0;refine⟨_,rfl,sz1,fun ln hln=>?_⟩;refine #[F,ln,hln,fun H2 TH2 s1=>?_];have e1:H2 ln=some (.lst (Vg [p])):=TH2;have q1:=s1 _ _ q0;have s01:=s0.trans s1;have nln:ld≠ln:=Zh q0 hln;have fln:H ln=none:=s0.free hln;have hbound:∀ line:List Nat,line.Nodup->(∀ c∈line,c<rows.length)->line.length<=rows.length:=fun line nd hc=>by
  have:=nd.length_le_of_subset (l₂:=List.range rows.length) fun c hcc=>zza.mpr (hc c hcc);rw[zy6] at this;exact this
 refine⟨fun m σ' H'=>∃ (line:List Nat) (dep:Nat->Nat) (fr:Nat->Option (Nat×Int)) (into:#[N]) (dn:Nat) (v6 v7:Option V),m=rows.length-dn/\dn<=line.length/\σ'=[#[d,l],#[d,d],#[l,p],#[d,ld],#[d,ln],#[l,(dn:Nat)],v6,v7]/\#[p]/\H' ld=#[b,.dK,into]/\H' ln=#[R,Vg,line]/\Wb H' into line fr/\Bfs rows gs p line dep/\Done rows gs line dep dn/\T2 rows gs p line dep fr/\(∀ q∈line,q<rows.length)/\∀ here,line[dn]?=some here->∀ x∈line,dep x<=dep here+1,
  ⟨_,[p],fun _=>0,fun _=>none,_,0,_,_,rfl,zyv _,rfl,s01,q1,e1,zc3 _ _,zfz rows gs p,fun i q hi=>absurd hi (zz5 _),zc4,by simpa using hp,fun here _ x _=>zyv _⟩,?_⟩
 rintro m σ Ha ⟨line,dep,fr,into,dn,v6,v7,rfl,hdn,rfl,sa,hda,hna,io,B,Dn,fo,hlt,near⟩;have hll:=hbound _ B.nodup hlt;have hnl:(Vg line).length=line.length:=by unfold Vg;rw[zx1]
 refine⟨_,rfl,_,rfl,ln,_,rfl,#[x,hna],_,_,rfl,rfl,_,rfl,?_⟩;rw[hnl];by_cases hlt2:dn<line.length
 ·rw[zx9 (show ((dn:Nat):Int)<(line.length:Nat) by omega)];refine iteT ?_;obtain⟨here,hh⟩:∃ here,line[dn]?=some here:=⟨_,zx2 hlt2⟩;have hhm:=zyb hh;have hhere:=hlt here hhm;have hhv:(Vg line)[dn]?=#[l,(here:Nat)]:=by unfold Vg;rw[zx5,hh];rfl
  refine⟨fun σ' H'=>∃ (line:List Nat) (dep:Nat->Nat) (fr:Nat->Option (Nat×Int)) (into:#[N]) (v6 v7:Option V),dn+1<=line.length/\σ'=[#[d,l],#[d,d],#[l,p],#[d,ld],#[d,ln],#[l,((dn+1:Nat):Int)],v6,v7]/\#[p]/\H' ld=#[b,.dK,into]/\H' ln=#[R,Vg,line]/\Wb H' into line fr/\Bfs rows gs p line dep/\Done rows gs line dep (dn+1)/\T2 rows gs p line dep fr/\(∀ q∈line,q<rows.length)/\∀ here,line[dn+1]?=some here->∀ x∈line,dep x<=dep here+1,
   (by rintro σ' H' ⟨line,dep,fr,into,v6,v7,a1,a2⟩;exact⟨rows.length-(dn+1),by omega,line,dep,fr,into,dn+1,v6,v7,rfl,a1,a2⟩),?_⟩
  have hr':rows[here]?=some (rows[here]'hhere):=zx2 hhere;generalize (rows[here]'hhere)=r at hr';obtain⟨lr,e2,e3⟩:=il.getR hr';have hl':(ls.map V.ref)[here]?=#[d,lr]:=by rw[zx5,e2];rfl
  refine⟨_,rfl,_,rfl,ln,_,_,_,rfl,rfl,SqL.of hna,Z4 hhv,?_⟩;refine⟨_,rfl,_,_,rfl,rfl,?_⟩;refine⟨_,rfl,_,rfl,l,_,_,_,rfl,rfl,#[K,sa,hl],Z4 hl',lr,rfl,⟨_,SqL.of (sa _ _ e3)⟩,?_⟩
  let jv2:Nat->L2.St->Hp->Prop:=fun j σ' H'=>∃ (line:List Nat) (dep:Nat->Nat) (fr:Nat->Option (Nat×Int)) (into:#[N]) (v7:Option V),σ'=[#[d,l],#[d,d],#[l,p],#[d,ld],#[d,ln],#[l,((dn+1:Nat):Int)],#[l,(here:Nat)],v7]/\#[p]/\H' ld=#[b,.dK,into]/\H' ln=#[R,Vg,line]/\Wb H' into line fr/\Bfs rows gs p line dep/\Done rows gs line dep dn/\T2 rows gs p line dep fr/\(∀ q∈line,q<rows.length)/\line[dn]?=some here/\(∀ x∈line,dep x<=dep here+1)/\∀ n∈r.take j,∀ q':Nat,gs[q']?=#[l,n]->q'∈line
  refine Xr (K:=K) (a:=lr) (xs:=r.map V.int) jv2
   ⟨line,dep,fr,into,_,rfl,sa,hda,hna,io,B,Dn,fo,hlt,hh,near here hh,by simp⟩ (by rintro j σ' H' _ ⟨_,_,_,_,_,_,z,_⟩;exact #[K,z,e3]) ?_ ?_
  ·rintro j y σ' Hx hy ⟨line,dep,fr,into,w7,rfl,sx,hdx,hnx,io,B,Dn,fo,hlt,hh,near,pr⟩;have hj:j<r.length:=by have:=(zx3.mp hy).1;rw[zx1] at this;exact this
   have hhm:=zyb hh;have hrj:r[j]?=some (r[j]'hj):=zx2 hj;have etk:r.take (j+1)=r.take j++[r[j]'hj]:=zyl hj;generalize (r[j]'hj)=n at hrj etk;have ey:y=.int n:=by rw[zx5,hrj] at hy;exact(Option.some.inj hy).symm
   subst ey;have hnr:=zyb hrj;have hll:=hbound _ B.nodup hlt;have prev:(∀ q':Nat,gs[q']?=#[l,n]->q'∈line)->∀ m∈r.take (j+1),∀ q':Nat,gs[q']?=#[l,m]->q'∈line:=fun k m hm=>by
    rw[etk] at hm;rcases zyd.mp hm with z|z
    ·exact pr m z
    ·rw[zx6.mp z];exact k
   rcases tk.iff n with ⟨q',hq',hv⟩|⟨hno,hv⟩
   ·by_cases hin:q'∈line
    ·refine W0 (b:=false) (fun Q k=>?_) (iteF (Zx ⟨line,dep,fr,into,_,rfl,sx,hdx,hnx,io,B,Dn,fo,hlt,hh,near,prev fun q2 h2=>by rw[FP.inj q2 q' n h2 hq'];exact hin⟩));refine⟨_,rfl,_,rfl,d,_,rfl,DGet.k (k:=inl n) (sx _ _ hd),_,rfl,?_⟩;rw[hv];refine iteT ⟨_,rfl,_,rfl,d,_,rfl,hv▸DGet.k (k:=inl n) (sx _ _ hd),_,rfl,ld,_,rfl,DGet.k (k:=inl (q':Int)) hdx,_,rfl,?_⟩;rw[(io.has q').mpr hin];exact k
    ·have hnin:(valV into (inl (q':Int):Key)).isSome=false:=by
      rw[Bool.eq_false_iff];exact fun z=>hin ((io.has q').mp z)
     have hq'l:q' < rows.length:=by
      have:=(zx3.mp hq').1;rw[FP.len] at this;exact this
     have ha:adjN rows gs here n q':=⟨⟨r,hr',hnr⟩,hq'⟩;obtain⟨B',old,all⟩:=B.app (dn:=dn) hh near ha hin;refine W0 (b:=true) (fun Q k=>?_) (iteT ?_)
     ·refine⟨_,rfl,_,rfl,d,_,rfl,DGet.k (k:=inl n) (sx _ _ hd),_,rfl,?_⟩;rw[hv];refine iteT ⟨_,rfl,_,rfl,d,_,rfl,hv▸DGet.k (k:=inl n) (sx _ _ hd),_,rfl,ld,_,rfl,DGet.k (k:=inl (q':Int)) hdx,_,rfl,?_⟩;rw[hnin];exact k
     ·refine⟨_,rfl,_,rfl,sz2,fun t ht=>?_⟩;refine #[F,t,ht,fun Ht et t1=>?_];have st:=sx.trans t1;have hdt:=t1 _ _ hdx;have hnt:=t1 _ _ hnx;have iot:=io.same t1;refine⟨_,rfl,_,rfl,_,rfl,d,_,rfl,hv▸DGet.k (k:=inl n) (st _ _ hd),ld,_,rfl,DPut.k (k:=inl (q':Int)) hdt ?_,?_⟩
      ·have:=io.len;omega
      have sd:Same H (upd Ht ld (.dK (putK into (inl (q':Int)) (.ref t)))):=Yx hld st;have ed:upd Ht ld (.dK (putK into (inl (q':Int)) (.ref t))) ld=#[b,.dK,putK into (inl (q':Int)) (.ref t)]:=Ze;have en:upd Ht ld (.dK (putK into (inl (q':Int)) (.ref t))) ln=some (.lst (Vg line)):=by rw[Zj (Ne.symm nln)];exact hnt
      have iod:Wb (upd Ht ld (.dK (putK into (inl (q':Int)) (.ref t)))) (putK into (inl (q':Int)) (.ref t)) (line++[q']) (J8 fr q' (here,n)) :=
       (iot.app hin et).mono fun c xs e=>by rw[Zj (Y2 e hdt (fun z=>nomatch z))];exact e
      generalize upd Ht ld (.dK (putK into (inl (q':Int)) (.ref t)))=Hd at sd ed en iod;have hsz:(Vg line).length<sizeLine:=by unfold Vg;rw[zx1];omega
      refine⟨_,rfl,ln,_,rfl,en,_,rfl,_,rfl,d,_,rfl,hv▸DGet.k (k:=inl n) (sd _ _ hd),_,en,hsz,line++[q'],V4 dep q' (dep here+1),J8 fr q' (here,n),putK into (inl (q':Int)) (.ref t),_,rfl,Yx fln sd,?_,?_,?_,B',Dn.app ?_ #[y,_] old,fo.app hin B.memp hhm ha,?_,?_,?_,?_⟩
      ·rw[Zj nln];exact ed
      ·rw[Ze];unfold Vg;rw[zx7];rfl
      ·exact iod.mono fun c xs e=>by rw[Zj (Y2 e en (fun z=>nomatch z))];exact e
      ·have:=(zx3.mp hh).1;omega
      ·intro q hq;rcases zyd.mp hq with z|z
       ·exact hlt q z
       ·rw[zx6.mp z];exact hq'l
      ·rw[zy0 (zx3.mp hh).1];exact hh
      ·intro x hx;rw[old here hhm];exact all x hx
      ·intro m hm q2 h2;rw[etk] at hm;rcases zyd.mp hm with z|z
       ·exact zyp _ (pr m z q2 h2)
       ·rw[zx6.mp z] at h2;rw[FP.inj q2 q' n h2 hq'];exact zyq _ (zx6.mpr rfl)
   ·refine W0 (b:=false) (fun Q k=>?_) (iteF (Zx ⟨line,dep,fr,into,_,rfl,sx,hdx,hnx,io,B,Dn,fo,hlt,hh,near,prev fun q2 h2=>absurd h2 (hno q2)⟩));refine⟨_,rfl,_,rfl,d,_,rfl,DGet.k (k:=inl n) (sx _ _ hd),_,rfl,?_⟩;rw[hv];exact iteF k
  ·rintro σ' Hx ⟨line,dep,fr,into,w7,rfl,sx,hdx,hnx,io,B,Dn,fo,hlt,hh,near,pr⟩;rw[zx1,zyi] at pr;have hlt3:=(zx3.mp hh).1;refine⟨line,dep,fr,into,_,_,by omega,rfl,sx,hdx,hnx,io,B,fun i q hi hq n q' ha=>?_,fo,hlt,fun here2 hh2 x hx=>?_⟩
   ·by_cases e:i=dn
    ·rw[e,hh] at hq;cases hq;obtain⟨⟨r2,h1,h2⟩,h3⟩:=ha;rw[hr'] at h1;cases h1;have hm:=pr n h2 q' h3;exact⟨hm,near q' hm⟩
    ·exact Dn i q ⋯ hq n q' ha
   ·have:=B.sorted dn (dn+1) here here2 ⋯ hh hh2;have:=near x hx;omega
 ·rw[zye (show ¬ (((dn:Nat):Int)<(line.length:Nat)) by omega)];refine iteF ⟨_,rfl,?_⟩;have e:dn=line.length:=by omega
  subst e;exact h ld into line dep fr Ha hda io B Dn fo hlt sa hld
abbrev Sg:Stmt:=top 44
theorem Pl:#[n,["numbers","taken","number"],["numbers","taken"],Sg]:=fnS
theorem Hj(F:#[g,"free_referee","free_referee",Sg])(T:#[j]):FnOk P w K mg base #[f] 1 f fd ["numbers","taken"] (Bc K):=by
 refine #[k,Pl];obtain⟨l,d,r,kvs,rfl,hl,hd,h⟩:=h;have hu:=We hr;refine⟨_,(Zc (Yp PassesOwn.leaving rfl (Z9 (K:=K) rfl (pv 0)) (pN 2 Pl.nd)
  (Zd (Z2 (Qf (Kr hu (pv 2) (pv 1)))
   (Zd (Zl (pv 2)))
   Zo)))
 (Zd (Zl Y3))),?_⟩
 let jv3:Nat->L2.St->Hp->Prop:=fun i σ' H'=>(∃ u,σ'=[some (.ref l),some (.ref d),u])/\H'=H/\∀ n∈r.take i,(valV kvs (inl n:Key)).isSome=true
 refine⟨_,rfl,l,rfl,⟨_,SqL.of hl⟩,Xr (xs:=r.map V.int) jv3
  ⟨⟨none,rfl⟩,rfl,by simp⟩ (fun i σ' H' hi p=>by rw[p.2.1];exact SqL.of hl) (fun i x σ' H' hx p=>?_) (fun σ' H' p=>?_)⟩
 ·obtain⟨⟨u,rfl⟩,rfl,hp⟩:=p;have hi:i<r.length:=by have:=(zx3.mp hx).1;rw[zx1] at this;exact this
  have e:x=.int (r[i]'hi):=by
   rw[zx5,zx2 hi] at hx;exact(Option.some.inj hx).symm
  subst e;refine W0 (b:=!(valV kvs (inl (r[i]'hi):Key)).isSome) (fun Q k=>⟨_,rfl,_,rfl,d,_,rfl,DGet.k (k:=inl (r[i]'hi)) hd,_,rfl,k⟩) ?_;cases hv:valV kvs (inl (r[i]'hi):Key) with
  | none=>exact iteT ⟨_,rfl,h (some (r[i]'hi)) (fun n hn=>by cases hn;exact⟨zyx hi,hv⟩) (fun z=>nomatch z)⟩
  | some y =>
    refine iteF (Zx #[q,#[y,_],fun n hn=>?_]);rw[zyl hi] at hn;rcases zyd.mp hn with z|z
    ·exact hp n z
    ·rw[zx6.mp z,hv];rfl
 ·obtain⟨⟨u,rfl⟩,rfl,hp⟩:=p;rw[zx1,zyi] at hp;exact h none (fun n z=>nomatch z) fun _=>hp
abbrev Eu:Stmt:=top 45
theorem Ng:#[n,["into","place","number","steps","step"],["into","place","number"],Eu]:=fnS
theorem zgr(F:#[g,"traced","traced",Eu])(T:#[j]):FnOk P w K mg base #[f] 1 f fd ["into","place","number"] (za1 K):=by
 refine #[k,Ng];obtain⟨t,q,p,w,rows,gs,into,line,dep,fr,rfl,ht,io,fo,d0,hp,hq,hdq,h⟩:=h;have hu:=We hr;refine⟨_,(Zc (pS 3 Ng.nd (Yd (Za (Yc (Za (pv 1) (Za (pv 2) Zb))) Zb)))
 (Zc (pS 4 Ng.nd (pD hu (pv 0) (pv 1)))
 (Zc (G2 PassesOwn.leaving (Zp Tj (pv 4) Y3 (Zt _))
  (Zc (Y6 (pv 3) (pv 4))
  (Zd (pS 4 Ng.nd (pD hu (pv 0) (pI (iU K) (pv 4) Zf))))))
 (Zc (Z7 (zhj PySem.F.plainAttrs_list PySem.F.slot_list_reverse PySem.F.type_list_reverse zct (pv 3)))
 (Zd (Zl (pv 3))))))),?_⟩
 have line0:200<sizeLine:=by rw[sizeLine_eq];decide
 have get:∀ {H':Hp},#[p]->∀ k:Nat,DGet H' t (.int (k:Nat)) (valV into (inl (k:Int):Key)):=fun {H'} hs k=>.inl ⟨into,inl (k:Int),ht.imp (hs _ _) fun ⟨o,e⟩=>⟨o,hs _ _ e⟩,rfl,rfl⟩;have fr0:∀ c∈line,fr c=none->c=p:=fun c hc hf=>by
  by_cases e:c=p
  ·exact e
  ·obtain⟨par,n,h1,_⟩:=fo.2 c hc e;rw[hf] at h1;cases h1
 have some_of:∀ c∈line,∃ v,valV into (inl (c:Int):Key)=some v:=fun c hc=>zzh.mp ((io.has c).mpr hc);refine⟨_,rfl,_,rfl,sz2,fun m hm=>⟨sz1,fun lt hlt=>?_⟩⟩;have s1:=Zk (o:=.tup [.int (q:Nat),oV w]) hm;have e1:upd H m (.tup [.int (q:Nat),oV w]) m=some (.tup (Vz (q,w))):=Ze;generalize upd H m (.tup [.int (q:Nat),oV w])=H1 at s1 e1 hlt;refine #[F,lt,hlt,fun H2 e2 s2=>?_];have e3:=s2 _ _ e1;have s3:=s1.trans s2;have hltn:H lt=none:=s1.free hlt;obtain⟨v0,hv0⟩:=some_of q hq;refine⟨_,rfl,_,rfl,t,v0,rfl,hv0▸get s3 q,?_⟩;refine⟨fun mm σ' H'=>∃ (cur:Nat) (st:#[H]) (ts:#[a]) (v:V),mm=dep cur/\cur∈line/\valV into (inl (cur:Int):Key)=some v/\σ'=[#[d,t],#[l,(q:Nat)],#[b,oV,w],#[d,lt],some v]/\#[p]/\H' lt=#[r,ts]/\Z8 H' ts (st.reverse.map Vz)/\Ch rows gs cur st q w/\st.length+dep cur=dep q+1,
  ⟨_,q,[(q,w)],_,v0,rfl,hq,hv0,rfl,s3,e2,.cons e3 .nil,.one q w,by show 1+dep q=_;omega⟩,?_⟩
 rintro mm σ' Ha ⟨cur,st,ts,v,rfl,hc,hv,rfl,sa,hta,htl,hch,hlen⟩;have htsl:ts.length=st.length:=by have:=htl.length;rw[zx1,List.length_reverse] at this;exact this
 refine⟨_,rfl,rfl,_,rfl,?_⟩;cases hf:fr cur with
 | none =>
   have hcp:=fr0 cur hc hf;subst hcp;have hvn:=io.none cur hc hf;rw[hv] at hvn;cases hvn;refine iteF ?_;refine⟨_,rfl,.inl ⟨rfl,_,SqL.of hta⟩,lt,ts,rfl,rfl,hta,_,rfl,?_⟩;refine h lt ts.reverse st _ Ze ?_ hch ⋯ (Yx hltn sa) hltn;have hr:=htl.reverse;rw[<- List.map_reverse,List.reverse_reverse] at hr;exact hr.mono fun c xs e=>by rw[Zj (Y2 e hta (fun z=>nomatch z))];exact e
 | some x =>
   obtain⟨par,n⟩:=x;obtain⟨tt,h1,h2⟩:=io.some cur hc par n hf;rw[hv] at h1;cases h1;have hcp:cur≠p:=fun z=>by rw[z,fo.1] at hf;cases hf
   obtain⟨par',n',h3,h4,h5,h6⟩:=fo.2 cur hc hcp;rw[hf] at h3;cases h3;obtain⟨v',hv'⟩:=some_of par h4;refine iteT ?_;refine⟨fun σ' H'=>∃ (st:#[H]) (ts:#[a]),σ'=[#[d,t],#[l,(q:Nat)],#[b,oV,w],#[d,lt],some v']/\#[p]/\H' lt=#[r,ts]/\Z8 H' ts (st.reverse.map Vz)/\Ch rows gs par st q w/\st.length+dep par=dep q+1,
    fun σ' H' ⟨st,ts,a1,a2,a3,a4,a5,a6⟩=>⟨dep par,by omega,par,st,ts,v',rfl,h4,hv',a1,a2,a3,a4,a5,a6⟩,?_⟩
   have s4:Same H (upd Ha lt (.lst (ts++[V.ref tt]))):=Yx hltn sa;refine⟨_,rfl,lt,_,rfl,hta,_,rfl,_,hta,by omega,?_⟩;refine⟨_,rfl,_,rfl,tt,_,_,_,rfl,rfl,SqT.of (s4 _ _ h2),rfl,t,v',rfl,hv'▸get s4 par,(par,some n) :: st,ts++[V.ref tt],rfl,s4,Ze,?_,.step h5 hch,?_⟩
   ·rw[zz8,zx7];exact(htl.mono fun c xs e=>by rw[Zj (Y2 e hta (fun z=>nomatch z))];exact e).snoc (s4 _ _ h2)
   ·rw[zyk];omega
abbrev Aw:Stmt:=top 46
theorem Om:#[n,["may","given","place","taken","into","reached","number"],["may","given","place"],Aw]:=fnS
theorem zi4(F:#[g,"chain","chain",Aw])(T:#[j])(zp7:Zz P w K mg base "places_taken" 1 ["given"] (Af K))(zqn:Zz P w K mg base "steps_into" 1 ["may","taken","start"] (zc2 K))(zr0:Zz P w K mg base "free_referee" 1 ["numbers","taken"] (Bc K))(zt2:Zz P w K mg base "traced" 1 ["into","place","number"] (za1 K)):FnOk P w K mg base #[f] 2 f fd ["may","given","place"] (Ac K):=by
 refine #[k,Om];obtain⟨l,lg,ls,rows,nu,gs,p,rfl,hl,il,mo,hg,FP,hp,hgp,h⟩:=h;refine⟨_,(Zc (pS 3 Om.nd (pF zp7 hr (Za (pv 1) Zb)))
 (Zc (pS 4 Om.nd (pF zqn hr (Za (pv 0) (Za (pv 3) (Za (pv 2) Zb)))))
 (Zc (Yp PassesOwn.leaving rfl (zej (pv 4)) (pN 5 Om.nd)
  (Zc (pS 6 Om.nd (pF zr0 hr (Za (pI (iL K) (pv 0) (pv 5)) (Za (pv 3) Zb))))
  (Zd (Z2 (Zp Tj (pv 6) Y3 (Zt _))
   (Zd (Zl (pF zt2 hr (Za (pv 4) (Za (pv 5) (Za (pv 6) Zb))))))
   Zo))))
 (Zd (Zl (pF zt2 hr (Za (pv 4) (Za (Zm (zf2 rfl) (by rfl) T.zuk PyProof.Rows.boot_max (Za (pv 4) Zb)) (Za Y3 Zb))))))))),?_⟩
 have hrl:rows.length<=100:=zyg mo.few ⋯;refine⟨_,rfl,lg,gs,rfl,hg,FP.one,FP.inj,by rw[FP.len];exact hrl,fun d kvs H1 hd1 tk s1 hdn=>?_⟩;refine⟨_,rfl,_,rfl,_,rfl,l,d,ls,rows,kvs,gs,p,rfl,s1 _ _ hl,il.same s1,hrl,hd1,tk,FP,hp,fun t into line dep fr H2 ht io B Dn fo hlt s2 htn=>?_⟩;have hbound:line.length<=rows.length:=by
  have:=B.nodup.length_le_of_subset (l₂:=List.range rows.length) fun c hcc=>zza.mpr (hlt c hcc);rw[zy6] at this;exact this
 have hd2:=s2 _ _ hd1;have s02:=s1.trans s2;have hfree:∀ q n,(∃ r,rows[q]?=some r/\n∈r)->valV kvs (inl n:Key)=none->N5 rows gs q n:=fun q n hr hv=>⟨hr,fun j hj=>by rw[tk.has n j hj] at hv;cases hv⟩
 have hdep:∀ q∈line,dep q<=100:=fun q hq=>by
  obtain⟨pre,hc,hlp⟩:=fo.back B.d0 (dep q) q q none [(q,none)] rfl hq (.one q none);have nd:=hc.nodup fun k hk=>by
   rw[zx4,hlp];have:=(B.full Dn hk).2;show dep q+1<=k+1;omega
  have hlt':=hc.lt FP hp;have:=nd.length_le_of_subset (l₂:=List.range rows.length) fun x hx=>by
   obtain⟨s,hs,rfl⟩:=zya.mp hx;exact zza.mpr (hlt' s hs)
  rw[zx1,zy6,zx4,hlp] at this;omega
 have htH:H t=none:=s1.free htn;refine⟨_,rfl,t,into,rfl,ht,fun o=>?_⟩;have e0:upd H2 t (.frz o (.dK into)) t=some (.frz o (.dK into)):=Ze;have s3:Same H (upd H2 t (.frz o (.dK into))):=Yx htH s02;have hd3:upd H2 t (.frz o (.dK into)) d=#[b,.dK,kvs]:=by rw[Zj (Zh hd1 htn)];exact hd2
 have io3:Wb (upd H2 t (.frz o (.dK into))) into line fr:=io.mono fun c xs e=>by rw[Zj (Y2 e ht (fun z=>nomatch z))];exact e
 generalize upd H2 t (.frz o (.dK into))=H3 at e0 s3 hd3 io3;have hil:into.length=line.length:=io.len;have key:∀ (i:Nat) (k:Key) (v:V),into[i]?=some (k,v)->∃ q:Nat,line[i]?=some q/\k=inl (q:Int):=fun i k v e=>by
  have:=congrArg (·[i]?) io.keys;simp only[zx5,e,zy8] at this;cases hq:line[i]? with
  | none=>rw[hq] at this;cases this
  | some q=>rw[hq] at this;exact#[q,q,Option.some.inj this]
 let jv4:Nat->L2.St->Hp->Prop:=fun i σ' H'=>(∃ u v,σ'=[some (.ref l),some (.ref lg),some (.int p),some (.ref d),some (.ref t),u,v])/\H'=H3/\∀ (j q:Nat),j<i->line[j]?=some q->¬ U3 rows gs q
 refine za0 (a:=t) (o:=o) (kvs:=into) jv4 #[q,⟨none,none,rfl⟩,fun j q hj=>absurd hj (zz5 _)] (fun i σ' H' _ p=>by rw[p.2.1];exact e0) (fun i k v σ' H' hk hP=>?_) fun σ' H' hP=>?_
 ·obtain⟨⟨u,v',rfl⟩,rfl,hno⟩:=hP;obtain⟨q,hq,rfl⟩:=key i k v hk;have hqm:=zyb hq;have hqr:rows[q]?=some (rows[q]'(hlt q hqm)):=zx2 (hlt q hqm);generalize (rows[q]'(hlt q hqm))=r at hqr;obtain⟨lr,e2,e3⟩:=il.getR hqr;have hl':(ls.map V.ref)[q]?=#[d,lr]:=by rw[zx5,e2];rfl
  refine⟨_,rfl,_,rfl,l,_,_,_,rfl,rfl,#[K,s3,hl],Z4 hl',_,rfl,lr,d,r,kvs,rfl,s3 _ _ e3,hd3,fun w hw1 hw2=>?_⟩;walk_at "if";refine W0 (b:=!decide (oV w=.non)) (fun Q k=>⟨_,rfl,rfl,_,rfl,k⟩) ?_;cases w with
  | none =>
    refine iteF (Zx #[q,⟨_,_,rfl⟩,fun j q2 hj hq2=>?_]);by_cases e:j=i
    ·rw[e,hq] at hq2;cases hq2;rintro⟨n,⟨r2,h1,h2⟩,h3⟩;rw[hqr] at h1;cases h1;have:=hw2 rfl n h2;rw[tk.not n h3] at this;cases this
    ·exact hno j q2 ⋯ hq2
  | some n =>
    obtain⟨hn1,hn2⟩:=hw1 n rfl;refine iteT ⟨_,rfl,_,rfl,_,rfl,t,q,p,some n,rows,gs,into,line,dep,fr,rfl,.inr ⟨o,e0⟩,io3,fo,B.d0,B.memp,hqm,hdep q hqm,fun lt ts st H4 h1 h2 h3 h4 s4 hltn=>?_⟩;have hf:=hfree q n ⟨r,hqr,hn1⟩ hn2;have Di:Done rows gs line dep i:=fun j x hj=>Dn j x (Nat.lt_trans hj (zx3.mp hq).1);exact h lt ts st q (some n) H4 h1 h2 (zcz B Di hq hno hf h3 h4) (s3.trans s4) (s3.free hltn)
 ·obtain⟨⟨u,v',rfl⟩,rfl,hno⟩:=hP;have hpos:0<line.length:=List.length_pos_of_mem B.memp;refine#[q,_,⟨_,rfl,t,into,line.map fun q:Nat=>(q:Int),rfl,.inr ⟨o,e0⟩,by rw[io.keys,zzi];rfl,by rw[zx1];exact hpos,fun M hM hmax=>?_⟩];obtain⟨e,he,rfl⟩:=zya.mp hM;refine⟨t,e,p,none,rows,gs,into,line,dep,fr,rfl,.inr ⟨o,e0⟩,io3,fo,B.d0,B.memp,he,hdep e he,fun lt ts st H4 h1 h2 h3 h4 s4 hltn=>?_⟩;refine h lt ts st e none H4 h1 h2 (zc0 B Dn (fun q hq=>?_) (fun q hq=>?_) h3 h4) (s3.trans s4) (s3.free hltn)
  ·obtain⟨j,hj,e2⟩:=zzg hq;exact hno j q ⋯ (by rw[zx2 hj,e2])
  ·have:=hmax _ (zya.mpr ⟨q,hq,rfl⟩);omega
abbrev Jh:Stmt:=top 47
theorem Qy:#[n,["given","steps","behind","place","number"],["given","steps"],Jh]:=fnS
theorem zdm(F:#[g,"stepped","stepped",Jh])(T:#[j]):FnOk P w K mg base #[f] 1 f fd ["given","steps"] (K3 K):=by
 refine #[k,Qy];obtain⟨b,c,xs,ts,st,rfl,hb,hc,ht,hst,ho,hl,hls,h⟩:=h;refine⟨_,(Zc (pS 2 Qy.nd (Xp (Y0 (K:=K) rfl) (by rfl) T.zp9 PyProof.Rows.boot_list (Za (pv 0) Zb)))
 (Zc (Yp PassesOwn.leaving rfl (Z9 (K:=K) rfl (pv 1)) (Xu (K:=K) (n:=2) rfl rfl (Zv (pN 3 Qy.nd) (Zv (pN 4 Qy.nd) Xt)))
  (Zd (Nz (pv 4) (zk2 (pv 2) (pv 3) zhi))))
 (Zd (Zl (pv 2))))),?_⟩
 have htl:ts.length=st.length:=by have:=ht.length;rw[zx1] at this;exact this
 refine⟨_,rfl,b,_,rfl,#[x,hb],fun l hln=>?_⟩
 let jv5:Nat->L2.St->Hp->Prop:=fun i σ' H'=>(∃ u v,σ'=[some (.ref b),some (.ref c),some (.ref l),u,v])/\H' l=#[r,Yz (st.take i) xs]/\(∀ a o,H a=some o->H' a=some o)
 refine⟨_,rfl,c,rfl,⟨ts,SqL.of (Zk hln _ _ hc)⟩,Xr (xs:=ts) jv5 ⟨⟨none,none,rfl⟩,Ze,Zk hln⟩ (fun i σ' H' hi p=>#[K,p.2.2,hc]) (fun i x σ' H' hx p=>?_) fun σ' H' p=>?_⟩
 ·obtain⟨⟨u,v,rfl⟩,hl2,hs⟩:=p;have hi:i<st.length:=by rw[<- htl];exact(zx3.mp hx).1
  obtain⟨t,e1,e2⟩:=zni ht (zx2 hi);rw[hx] at e1;cases e1;refine⟨t,_,rfl,SqT.of (hs _ _ e2),rfl,_,_,rfl,_,_,rfl,rfl,?_⟩;have hlen:(Yz (st.take i) xs).length=xs.length:=Wo _ _;have hp:(st[i]'hi).1<xs.length:=hst _ (zyx hi);have e3:Yz (st.take (i+1)) xs=(Yz (st.take i) xs).set (st[i]'hi).1 (oV (st[i]'hi).2):=by
   rw[zyl hi,Bb];rfl
  refine⟨_,rfl,_,rfl,_,rfl,l,_,_,(st[i]'hi).1,rfl,rfl,hl2,(show ixN _ (((st[i]'hi).1:Nat):Int)=some _ by unfold ixN;rw[if_pos ⋯,if_pos ⋯,zyh]),⟨_,_,rfl⟩,?_,fun a o q=>?_⟩
  ·rw[e3];exact Ze
  ·rw[Zj (Zh q hln)];exact hs a o q
 ·obtain⟨⟨u,v,rfl⟩,hl2,hs⟩:=p;rw[htl,zyi] at hl2;exact#[q,_,h l H' hl2 hs hln]
abbrev zdn:Stmt:=top 49
theorem Gz:#[n,["may","given","place"],["may"],zdn]:=fnS
theorem zke(F:#[g,"fill","fill",zdn])(T:#[j])(zrd:Zz P w K mg base "stepped" 1 ["given","steps"] (K3 K))(ztl:Zz P w K mg base "chain" 2 ["may","given","place"] (Ac K)):FnOk P w K mg base #[f] 3 f fd ["may"] (zh2 K):=by
 refine #[k,Gz];obtain⟨l,ls,rows,nu,rfl,hl,il,mo,h⟩:=h;refine⟨_,(Zc (V1 (i:=1) Gz.nd rfl rfl rfl (cT [] []) (Z9 (K:=K) rfl (pv 0)) (fun _ _ _ _ _=>Wn) fun _ _ _ _ _=>Y3)
 (Zc (Yp PassesOwn.leaving rfl (Yw rfl T.zpl (Za (Zm (cL K) (by rfl) T.zo5 PySem.boot_len (Za (pv 0) Zb)) Zb)) (pN 2 Gz.nd)
  (Zd (pS 1 Gz.nd (pF zrd hr (Za (pv 1) (Za (pF ztl hr (Za (pv 0) (Za (pv 1) (Za (pv 2) Zb)))) Zb))))))
 (Zd (Zl (pv 1))))),?_⟩
 have hlen:=il.length;have hrl:rows.length<=100:=zyg mo.few ⋯;refine⟨_,rfl,l,rfl,⟨_,SqL.of hl⟩,?_⟩;refine X0 (K:=K) (a:=l) (xs:=ls.map V.ref) (fun i ys H'=>H'=H/\ys=(rows.take i).map fun _=>V.non) ⟨rfl,by simp⟩ (fun i ys H' _ z=>by rw[z.1];exact SqL.of hl) (szN (by rw[zx1];omega)) (fun i ys H' z=>by rw[z.2,zx1,z0a];omega) ?_ ?_
 ·rintro i x ys H' hx ⟨rfl,rfl⟩;have hi:i<rows.length:=by
   have:=(zx3.mp hx).1;rw[zx1] at this;omega
  unfold tYes;dsimp only;rw[if_pos rfl];refine⟨rfl,?_⟩;rw[zyl hi,zx7];rfl
 ·rintro ys H' ⟨rfl,rfl⟩ lg hlg;rw[zx1,hlen,zyi];refine #[F,lg,hlg,fun H1 e1 s1=>?_];refine⟨_,rfl,l,_,rfl,#[x,s1 _ _ hl],_,rfl,by omega,by rw[zx1];omega,?_⟩;rw[zx1,hlen,zyh]
  let jv6:Nat->L2.St->Hp->Prop:=fun i σ' Hx=>∃ (lg:Addr) (gs:List V) (v2:Option V),σ'=[#[d,l],#[d,lg],v2]/\Same H' Hx/\Hx lg=#[r,gs]/\Tn rows gs i/\H' lg=none
  refine Xa jv6 ⟨lg,_,_,rfl,s1,e1,D1 rows,hlg⟩ ?_ ?_
  ·rintro i σ' Hx hi ⟨lg,gs,v2,rfl,sx,hgx,F,hn⟩;rw[zy7];refine#[q,_,⟨_,rfl,_,rfl,_,rfl,l,lg,ls,rows,nu,gs,i,rfl,sx _ _ hl,il.same sx,mo,hgx,F.fill,hi,F.non (zyc _) hi,fun lt ts st e w H2 h1 h2 c s2 hltn=>?_⟩];refine⟨lg,lt,gs,ts,st,rfl,s2 _ _ hgx,h1,h2,fun s hs=>?_,F.fill.one,by rw[F.fill.len];omega,?_,fun l' H3 h3 s3 hl'=>?_⟩
   ·rw[F.fill.len];exact c.ch.lt F.fill hi s hs
   ·have:=c.len F.fill hi;omega
   ·exact⟨l',_,_,rfl,(sx.trans s2).trans s3,h3,F.step hi c,(sx.trans s2).free hl'⟩
  ·rintro σ' Hx ⟨lg,gs,v2,rfl,sx,hgx,F,hn⟩;exact#[q,_,h lg gs Hx hgx F.fill F.last sx hn]
abbrev Sh:Stmt:=top 50
theorem Hk:#[n,["given"],["given"],Sh]:=fnS
theorem Hl(F:#[g,"left_without","left_without",Sh])(T:#[j]):FnOk P w K mg base #[f] 1 f fd ["given"] (zcy K):=by
 refine #[k,Hk];obtain⟨b,xs,rfl,hb,ho,hl,h⟩:=h;refine⟨_,Zd (Zl (Of rfl (Oe.mk (xo:=["place","number"]) (ys:=[]) (js:=[]) rfl rfl ⋯ ⋯ rfl (by repeat' (first|exact True.intro|apply And.intro|rfl)) (by repeat' (first|exact True.intro|apply And.intro|rfl)) ⋯) (zei (K:=K) rfl rfl T.zsd (Za (pv 0) Zb)) (fun _ _ _ _ _=>Sz (Zp P8 (pv 1) Y3 (Zt _))) (fun _ _ _ _ _=>(Xu (K:=K) (n:=2) rfl rfl #[ar,Zv,Vc,(show List.Nodup [("place":Str),("number":Str)] by decide +kernel),Zv,Vc,(show List.Nodup [("place":Str),("number":Str)] by decide +kernel),Xt])) fun _ _ _ _ _=>(pv 0))),?_⟩;refine⟨_,rfl,b,rfl,⟨_,SqL.of hb⟩,zc1 (fun i=>#[i,xs[i]?=some .non]) (fun i=>.int (i:Nat)) ⋯ (SqL.of hb) (fun i x t H' N ys hx hs ht k=>?_) fun H' l hs hl'=>?_⟩
 ·refine⟨t,_,rfl,SqT.of Ze,rfl,?_⟩;have k':=k _ (hs.trans (Zk (o:=.tup [.int (i:Nat),x]) ht));refine⟨_,_,rfl,_,_,rfl,rfl,#[q,[#[l,(i:Nat)],some x],rfl],?_⟩;rw[hx] at k';have e2:#[i,some x=some V.non]=#[i,x=V.non]:=by
   by_cases z:x=V.non
   ·rw[zx9 z,zx9 (congrArg some z)]
   ·rw[zye z,zye fun q=>z (Option.some.inj q)]
  rw[e2] at k';refine⟨_,rfl,rfl,_,rfl,?_⟩;by_cases z:x=V.non
  ·rw[zx9 z] at k' ⊢;exact#[q,_,k']
  ·rw[zye z] at k' ⊢;exact k'
 ·exact h l _ Ze (hs.trans (Zk hl')) (hs.free hl')
abbrev Mt:Stmt:=top 51
theorem zb1:#[n,["given","number"],["given","number"],Mt]:=fnS
theorem zb2(F:#[g,"place_of","place_of",Mt])(T:#[j]):FnOk P w K mg base #[f] 1 f fd ["given","number"] (C9 K):=by
 refine #[k,zb1];obtain⟨b,xs,n,rfl,hb,ho,hl,h⟩:=h;refine⟨_,Zd (Zl (zae (Zp (Fb (K:=K) rfl) (pv 1) (pv 0) (by with_unfolding_all rfl)) (zkj PySem.F.plainAttrs_list PySem.F.slot_list_index PySem.F.type_list_index zh6 (pv 0) (Za (pv 1) Zb)) Y3)),?_⟩;have fl:xs.all Pf=true:=List.all_eq_true.mpr fun x hx=>by rcases ho x hx with rfl|⟨_,rfl⟩<;>rfl
 refine⟨_,rfl,_,rfl,b,xs,rfl,#[x,hb],rfl,fl,_,rfl,?_⟩;have key:=@zh7 xs n ho;show if inV (V.int n) xs=true then _ else _
 cases hp:Wa xs n with
 | none =>
   rw[hp] at h;have hno:¬ inV (V.int n) xs=true:=fun z=>by
    obtain⟨j,hj⟩:=key.mp z;have:=List.find?_eq_none.mp hp j (zza.mpr (zx3.mp hj).1);exact this (zx9 hj)
   rw[if_neg hno];exact h H (Same.refl H)
 | some j =>
   rw[hp] at h;obtain⟨h1,h2,h3⟩:=List.find?_range_eq_some.mp hp;have hj:xs[j]?=#[l,n]:=of_decide_eq_true h1;rw[if_pos (key.mpr ⟨j,hj⟩)];refine⟨_,rfl,?_,_,rfl,b,xs,.int n,j,rfl,rfl,hb,rfl,fl,⟨_,hj,(Gw (.inr ⟨_,rfl⟩)).mpr rfl⟩,fun m z hm hz=>?_,h H (Same.refl H)⟩
   ·exact .inl ⟨rfl,xs,SqL.of hb⟩
   ·have:=h3 m hm;have hne:¬ z=.int n:=fun q=>by
     rw[q] at hz;rw[zx9 hz] at this;cases this
    cases hb2:eqV z (.int n) with
    | false=>rfl
    | true=>exact absurd ((Gw (ho z (zyb hz))).mp hb2) hne
abbrev Mu:Stmt:=top 53
theorem Va:#[n,["may","given","taken","places","gap","referees","place","number"],["may","given"],Mu]:=fnS
theorem zb3(F:#[g,"shortage","shortage",Mu])(T:#[j])(zp7:Zz P w K mg base "places_taken" 1 ["given"] (Af K))(zp8:Zz P w K mg base "left_without" 1 ["given"] (zcy K))(zqn:Zz P w K mg base "steps_into" 1 ["may","taken","start"] (zc2 K)):FnOk P w K mg base #[f] 2 f fd ["may","given"] (zem K):=by
 refine #[k,Va];obtain⟨l,lg,ls,rows,nu,gs,rfl,hl,il,mo,hg,FP,NA,h⟩:=h;have hu:=We hr;refine⟨_,(Zc (pS 2 Va.nd (pF zp7 hr (Za (pv 1) Zb)))
 (Zc (pS 3 Va.nd P9)
 (Zc (Yp PassesOwn.leaving rfl (Z9 (K:=K) rfl (pF zp8 hr (Za (pv 1) Zb))) (pN 4 Va.nd)
  (Zd (Z7 (zkj PySem.F.plainAttrs_dict PySem.F.slot_dict_update PySem.F.type_dict_update zf4 (pv 3) (Za (pF zqn hr (Za (pv 0) (Za (pv 2) (Za (pv 4) Zb)))) Zb)))))
 (Zc (pS 5 Va.nd P9)
 (Zc (Yp PassesOwn.leaving rfl (zej (pv 3)) (pN 6 Va.nd)
  (Zd (Yp PassesOwn.leaving rfl (Z9 (K:=K) rfl (pI (iL K) (pv 0) (pv 6))) (pN 7 Va.nd)
   (Zd (Yu hu (pv 5) (pv 7) Yn rfl)))))
 (Zd (Zl (Yc (Za (Zm (Qo rfl) (by rfl) T.ztk PyProof.Rows.boot_sorted (Za (pv 3) Zb)) (Za (Zm (Qo rfl) (by rfl) T.ztk PyProof.Rows.boot_sorted (Za (pv 5) Zb)) Zb)))))))))),?_⟩
 have hrl:rows.length<=100:=zyg mo.few ⋯;have hgl:gs.length<=100:=by rw[FP.len];exact hrl
 have line0:1000<sizeLine:=Up ⋯;refine⟨_,rfl,lg,gs,rfl,hg,FP.one,FP.inj,hgl,fun d kvs H1 hd1 tk s1 hdn=>?_⟩;intro lp hlp;refine #[F,lp,hlp,fun H2 e2 s2=>?_];have hlpn:H lp=none:=s1.free hlp;have npd:lp≠d:=Ne.symm (Zh hd1 hlp);have s02:=s1.trans s2;have hd2:=s2 _ _ hd1;have hlft:=@T3 gs;refine⟨_,rfl,lg,gs,rfl,s02 _ _ hg,FP.one,hgl,fun ln H3 hln s3 fln=>?_⟩;refine⟨ln,rfl,⟨_,SqL.of hln⟩,?_⟩;have nln:ln≠lp:=Ne.symm (Zh e2 fln);have hbound:∀ line:List Nat,line.Nodup->(∀ c∈line,c<rows.length)->line.length<=rows.length:=fun line nd hc=>by
  have:=nd.length_le_of_subset (l₂:=List.range rows.length) fun c hcc=>zza.mpr (hc c hcc);rw[zy6] at this;exact this
 have hwlt:∀ g q k,g<rows.length->#[O,g,q,k]->q<rows.length:=fun g q k hg' hw=>by
  cases hw with
  | nil=>exact hg'
  | snoc _ a=>rw[<- FP.len];exact(zx3.mp a.2).1
 refine Xr (K:=K) (a:=ln) (xs:=(Xz gs).map fun i=>V.int (i:Nat)) (fun i σ' H'=>∃ (v4:Option V) (kp:List (Key×V)) (pl:List Nat),σ'=[#[d,l],#[d,lg],#[d,d],#[d,lp],v4,none,none,none]/\#[p]/\(∀ b o,H3 b=some o->b≠lp->H' b=some o)/\H' lp=#[b,.dK,kp]/\kp.map (·.1)=pl.map (fun q:Nat=>(inl (q:Int):Key))/\pl.Nodup/\∀ q,q∈pl↔∃ g k,g∈(Xz gs).take i/\#[O,g,q,k])
  ⟨_,[],[],rfl,s02.trans s3,fun _ _ e _=>e,s3 _ _ e2,rfl,zzw,by simp⟩ (by rintro i σ' H' _ ⟨_,_,_,_,_,z,_⟩;exact SqL.of (z _ _ hln nln)) ?_ ?_
 ·rintro i x σ' Ha hx ⟨v4,kp,pl,rfl,sa,k3,hpa,kk,nd,mem⟩;have hi:i<(Xz gs).length:=by have:=(zx3.mp hx).1;rw[zx1] at this;exact this
  have etk:(Xz gs).take (i+1)=(Xz gs).take i++[(Xz gs)[i]'hi]:=zyl hi;have hgm:(Xz gs)[i]'hi∈Xz gs:=zyx hi;have ex:x=.int (((Xz gs)[i]'hi:Nat):Int):=by rw[zx5,zx2 hi] at hx;exact(Option.some.inj hx).symm
  generalize ((Xz gs)[i]'hi)=g at etk hgm ex;subst ex;have hgr:g<rows.length:=by rw[<- FP.len];exact(zx3.mp (T3.mp hgm)).1
  have hda:=k3 _ _ (s3 _ _ hd2) (Ne.symm npd);have hkl:kp.length<=100:=by
   have:=congrArg List.length kk;rw[zx1,zx1] at this;rw[this];refine zyg (hbound pl nd fun q hq=>?_) hrl;obtain⟨g',k,h1,h2⟩:=(mem q).mp hq;refine hwlt g' q k ?_ h2;rw[<- FP.len];exact(zx3.mp (T3.mp (zzx h1))).1
  refine⟨_,rfl,.inr (.inr (.inl ⟨rfl,.inl ⟨_,hpa⟩⟩)),_,rfl,_,rfl,_,rfl,l,d,ls,rows,kvs,gs,g,rfl,sa _ _ hl,il.same sa,hrl,hda,tk,FP,hgr,fun t into line dep fr Hb ht io B Dn fo hlt sb htn=>?_⟩;have hll:=hbound line B.nodup hlt;have hil:=io.len;have hpb:=sb _ _ hpa;refine⟨lp,t,kp,into,rfl,rfl,Zh hpa htn,hpb,ht,by omega,?_⟩;have kb:∀ b o,H3 b=#[c]->b≠lp->upd Hb lp (.dK (Uo kp into)) b=#[c]:=fun b o e n=>by rw[Zj n];exact sb _ _ (k3 b o e n)
  refine⟨_,Uo kp into,Bd pl line,rfl,Yx hlpn (sa.trans sb),kb,Ze,Fh zn9 kk io.keys,J9 nd,fun q=>?_⟩;rw[Be,mem,etk];constructor
  ·rintro(⟨g',k,h1,h2⟩|hq)
   ·exact⟨g',k,zyp _ h1,h2⟩
   ·exact⟨g,dep q,by simp,B.walk q hq⟩
  ·rintro⟨g',k,h1,h2⟩;rcases zyd.mp h1 with z|z
   ·exact .inl ⟨g',k,z,h2⟩
   ·rw[zx6.mp z] at h2;exact .inr (B.full Dn h2).1
 ·rintro σ' Ha ⟨v4,kp,pl,rfl,sa,k3,hpa,kk,nd,mem⟩;rw[zx1,zyi] at mem;have mem:∀ q,q∈pl↔∃ g k,gs[g]?=some .non/\#[O,g,q,k]:=fun q=>by
   rw[mem q];exact⟨fun ⟨g,k,a,b⟩=>⟨g,k,T3.mp a,b⟩,fun ⟨g,k,a,b⟩=>⟨g,k,T3.mpr a,b⟩⟩
  have hplt:∀ q∈pl,q<rows.length:=fun q hq=>by
   obtain⟨g,k,h1,h2⟩:=(mem q).mp hq;exact hwlt g q k (by rw[<- FP.len];exact(zx3.mp h1).1) h2
  have hpl20:pl.length<=20:=zyg (hbound pl nd hplt) mo.few;intro lr hlr;refine #[F,lr,hlr,fun H5 e5 SH5=>?_];have s5:=sa.trans SH5;have hp5:=SH5 _ _ hpa;have nlr:lr≠lp:=Ne.symm (Zh hpa hlr);have hlrn:H lr=none:=sa.free hlr;refine⟨_,rfl,lp,kp,rfl,hp5,fun o=>?_⟩;have e6:upd H5 lp (.frz o (.dK kp)) lp=some (.frz o (.dK kp)):=Ze;have r6:upd H5 lp (.frz o (.dK kp)) lr=#[b,.dK,[]]:=by rw[Zj nlr];exact e5
  have s6:Same H (upd H5 lp (.frz o (.dK kp))):=Yx hlpn s5;generalize upd H5 lp (.frz o (.dK kp))=H6 at e6 r6 s6;have key:∀ (i:Nat) (k:Key) (v:V),kp[i]?=some (k,v)->∃ q:Nat,pl[i]?=some q/\k=inl (q:Int):=fun i k v e=>by
   have:=congrArg (·[i]?) kk;simp only[zx5,e,zy8] at this;cases hq:pl[i]? with
   | none=>rw[hq] at this;cases this
   | some q=>rw[hq] at this;exact#[q,q,Option.some.inj this]
  have hkpl:kp.length=pl.length:=by have:=congrArg List.length kk;rw[zx1,zx1] at this;exact this
  have rbound:∀ rl:#[o],rl.Nodup->(∀ n∈rl,n∈nu)->rl.length<=30:=fun rl n1 n2=>zyg (n1.length_le_of_subset n2) mo.crowd
  let jv7:Nat->L2.St->Hp->Prop:=fun i σ' H'=>∃ (v6 v7:Option V) (kr:List (Key×V)) (rl:List Int),σ'=[#[d,l],#[d,lg],#[d,d],#[d,lp],v4,#[d,lr],v6,v7]/\#[p]/\H' lp=some (.frz o (.dK kp))/\H' lr=#[b,.dK,kr]/\kr.map (·.1)=rl.map (inl:Int->Key)/\rl.Nodup/\∀ n,n∈rl↔∃ p∈pl.take i,∃ r,rows[p]?=some r/\n∈r
  refine za0 (a:=lp) (o:=o) (kvs:=kp) jv7
   ⟨_,_,[],[],rfl,s6,e6,r6,rfl,zzw,by simp⟩ (by rintro i σ' H' _ ⟨_,_,_,_,_,_,z,_⟩;exact z) (fun i k v σ' Hc hk hP=>?_) (fun σ' Hc hP=>?_)
  ·obtain⟨v6,v7,kr,rl,rfl,sc,hpc,hrc,kkr,ndr,memr⟩:=hP;obtain⟨q,hq,rfl⟩:=key i k v hk;have hqm:=zyb hq;have hi:i<pl.length:=(zx3.mp hq).1;have etk:pl.take (i+1)=pl.take i++[q]:=by
    rw[zyl hi];rw[zx2 hi] at hq;rw[Option.some.inj hq]
   have hqr:rows[q]?=some (rows[q]'(hplt q hqm)):=zx2 (hplt q hqm);have hrm:rows[q]'(hplt q hqm)∈rows:=zyx _;generalize (rows[q]'(hplt q hqm))=r at hqr hrm;obtain⟨lq,e2',e3⟩:=il.getR hqr;have hl':(ls.map V.ref)[q]?=#[d,lq]:=by rw[zx5,e2'];rfl
   refine⟨_,rfl,_,rfl,l,_,_,_,rfl,rfl,#[K,sc,hl],Z4 hl',lq,rfl,⟨_,SqL.of (sc _ _ e3)⟩,?_⟩
   let jv8:Nat->L2.St->Hp->Prop:=fun j σ' H'=>∃ (v7:Option V) (kr:List (Key×V)) (rl:List Int),σ'=[#[d,l],#[d,lg],#[d,d],#[d,lp],v4,#[d,lr],#[l,(q:Nat)],v7]/\#[p]/\H' lp=some (.frz o (.dK kp))/\H' lr=#[b,.dK,kr]/\kr.map (·.1)=rl.map (inl:Int->Key)/\rl.Nodup/\∀ n,n∈rl↔(∃ p∈pl.take i,∃ r,rows[p]?=some r/\n∈r)\/n∈r.take j
   refine Xr (K:=K) (a:=lq) (xs:=r.map V.int) jv8
    ⟨_,kr,rl,rfl,sc,hpc,hrc,kkr,ndr,fun n=>by rw[memr];simp⟩ (by rintro j σ' H' _ ⟨_,_,_,_,z,_⟩;exact #[K,z,e3]) ?_ ?_
   ·rintro j y σ' Hd hy ⟨w7,kr,rl,rfl,sd,hpd,hrd,kkr,ndr,memr⟩;have hj:j<r.length:=by have:=(zx3.mp hy).1;rw[zx1] at this;exact this
    have hrj:r[j]?=some (r[j]'hj):=zx2 hj;have etj:r.take (j+1)=r.take j++[r[j]'hj]:=zyl hj;generalize (r[j]'hj)=n at hrj etj;have ey:y=.int n:=by rw[zx5,hrj] at hy;exact(Option.some.inj hy).symm
    subst ey;have hsub:∀ m∈rl,m∈nu:=fun m hm=>by
     rcases(memr m).mp hm with ⟨p,_,r',h1,h2⟩|h1
     ·exact(mo.sub r' (zyb h1)).2 m h2
     ·exact(mo.sub r hrm).2 m (zzx h1)
    have hkr:kr.length<=30:=by
     have:=congrArg List.length kkr;rw[zx1,zx1] at this;rw[this];exact rbound rl ndr hsub
    refine⟨_,rfl,_,rfl,lr,_,rfl,DPut.k (k:=inl n) hrd ⋯,_,putK kr (inl n) (.bl true),Ff rl n,rfl,Yx hlrn sd,by rw[Zj (Ne.symm nlr)];exact hpd,Ze,Fg znm kkr n _,N8 ndr,fun m=>?_⟩;rw[Fi,memr,etj,zyd,zx6,or_assoc]
   ·rintro σ' Hd ⟨w7,kr,rl,rfl,sd,hpd,hrd,kkr,ndr,memr⟩;rw[zx1,zyi] at memr;refine⟨_,_,kr,rl,rfl,sd,hpd,hrd,kkr,ndr,fun n=>?_⟩;rw[memr,etk];constructor
    ·rintro(⟨p,h1,h2⟩|h1)
     ·exact⟨p,zyp _ h1,h2⟩
     ·exact⟨q,by simp,r,hqr,h1⟩
    ·rintro⟨p,h1,r',h2,h3⟩;rcases zyd.mp h1 with z|z
     ·exact .inl ⟨p,z,r',h2,h3⟩
     ·rw[zx6.mp z,hqr] at h2;cases h2;exact .inr h3
  ·obtain⟨v6,v7,kr,rl,rfl,sc,hpc,hrc,kkr,ndr,memr⟩:=hP;rw[hkpl,zyi] at memr;have hsub:∀ m∈rl,m∈nu:=fun m hm=>by
    obtain⟨p,_,r',h1,h2⟩:=(memr m).mp hm;exact(mo.sub r' (zyb h1)).2 m h2
   have hrl30:=rbound rl ndr hsub;refine⟨_,rfl,lp,kp,pl.map (fun q:Nat=>(q:Int)),rfl,.inr ⟨o,hpc⟩,by rw[kk,zzi];rfl,by rw[zx1];omega,fun l1 pi hl1 p1 p2=>?_⟩;refine #[F,l1,hl1,fun H7 q7 s7=>?_];have hr7:=s7 _ _ hrc;have sc7:=sc.trans s7;refine⟨_,rfl,lr,kr,rl,rfl,.inl hr7,kkr,by omega,fun l2 rs hl2 p3 p4=>?_⟩;obtain⟨ps,rfl,SP⟩:=zih FP NA nd mem ndr memr p1 p2 p3 p4;refine⟨sz2,fun t ht=>?_⟩;have s8:=Zk (o:=.lst (rs.map V.int)) hl2;have q8:upd H7 l2 (.lst (rs.map V.int)) l2=some (.lst (rs.map V.int)):=Ze;have q78:=s8 _ _ q7;generalize upd H7 l2 (.lst (rs.map V.int))=H8 at s8 q8 q78 ht;have s9:=Zk (o:=.tup [.ref l1,.ref l2]) ht;refine h t l1 l2 ps rs _ Ze (s9 _ _ (by rw[q78];unfold Vg;rw[zzi];rfl)) (s9 _ _ q8) SP (sc7.trans (s8.trans s9)) ((sc7.trans s8).free ht) (sc.free hl1) (sc7.free hl2) (Zh q7 hl2)
abbrev Ut:Stmt:=Z1 (top 55) 0
theorem Ly:#[n,["self","listed","lists","given","gaps"],["self","listed","lists","given","gaps"],Ut]:=fnS
theorem Lz(F:#[g,"__init__","Sheet.__init__",Ut])(T:#[j]):FnOk P w K mg base #[f] 1 f fd ["self","listed","lists","given","gaps"] #[e,Ln]:=by
 refine #[k,Ly];obtain⟨q,dx,l1,l2,l3,l4,rfl,hq,h⟩:=h;refine⟨_,(Zc (Xg (K:=K) rfl (pv 0) (pv 1) rfl)
 (Zc (Xg (K:=K) rfl (pv 0) (pv 2) rfl)
 (Zc (Xg (K:=K) rfl (pv 0) (pv 3) rfl)
 (Zd (Xg (K:=K) rfl (pv 0) (pv 4) rfl))))),?_⟩
 refine⟨_,rfl,_,rfl,q,a.zoy,dx,[],rfl,hq,T.zo6,T.zqx,⋯,?_⟩;refine⟨_,rfl,_,rfl,q,a.zoy,dx,[("listed",.ref l1)],rfl,Ze,T.zo6,T.ztz,(by show 1<1000;decide),?_⟩;rw[zoa];refine⟨_,rfl,_,rfl,q,a.zoy,dx,_,rfl,Ze,T.zo6,T.zrh,(by show 2<1000;decide),?_⟩;rw[zob];refine⟨_,rfl,_,rfl,q,a.zoy,dx,_,rfl,Ze,T.zo6,T.zt7,(by show 3<1000;decide),?_⟩;rw[zoc];refine h _ ?_;rw[Gq,Gq,Gq];rfl
abbrev Si:Stmt:=Z1 (top 55) 1
theorem Hm:#[n,["self","lists"],["self","lists"],Si]:=fnS
theorem Hn(F:#[g,"barred","Sheet.barred",Si])(T:#[j])(zrw:Tz P w K mg base "Sheet" a.zoy 1 ["self","listed","lists","given","gaps"] #[e,Ln]):FnOk P w K mg base #[f] 3 f fd ["self","lists"] #[e,zba]:=by
 refine #[k,Hm];obtain⟨ok,q,l2,ls,rows,s,rfl,SA,hl2,il,ok2,okl,no,h⟩:=h;refine⟨_,Zd (Zl (B3 zrw (hr.mono ⋯) Zi rfl (Za (Zs (K:=K) rfl (pv 0) rfl) (Za (pv 1) (Za #[V,Zs,0] (Za #[V,Zs,0] Zb)))))),?_⟩;obtain⟨dx,m1,m2,m3,m4,ts,ms,gts,a1,a2,a3,a4,a5,a6,a7,a8,o1,o2,o3,o4,o5,o6⟩:=id SA;refine⟨_,rfl,q,a.zoy,dx,_,_,rfl,a1,T.zo6,T.zqx,Ts,_,rfl,_,rfl,q,a.zoy,dx,_,_,rfl,a1,T.zo6,T.zrh,T5,_,rfl,q,a.zoy,dx,_,_,rfl,a1,T.zo6,T.zt7,Ah,?_⟩;intro q' dx' hq' hdx' ne;refine⟨q',dx',m1,l2,m3,m4,rfl,Ze,fun H' e=>⟨rfl,?_⟩⟩;obtain⟨s1,q1⟩:=Mc (C:=a.zoy) (l1:=m1) (l2:=l2) (l3:=m3) (l4:=m4) hq' hdx' ne;rw[<- e] at s1 q1;exact h q' H' ⟨dx',m1,l2,m3,m4,ts,ls,gts,q1,s1 _ _ a2,a3.same s1,s1 _ _ hl2,il.same s1,s1 _ _ a6,s1 _ _ a7,a8.keep (fun _ _ _ z=>s1 _ _ z) fun _ _ z=>s1 _ _ z,no _ hq',o2,ok2,o4,o5,okl⟩ s1 hq'
abbrev Vu:Stmt:=Z1 (top 55) 2
theorem Wg:#[n,["self","number","lists","place","gap","steps"],["self","number","lists"],Vu]:=fnS
theorem Nn(F:#[g,"fallen_out","Sheet.fallen_out",Vu])(T:#[j])(zpt:Zq P w K mg base a.zoy "where" 2 #[Q] #[e,Nd])(zrd:Zz P w K mg base "stepped" 1 ["given","steps"] (K3 K))(ztl:Zz P w K mg base "chain" 2 ["may","given","place"] (Ac K))(zrw:Tz P w K mg base "Sheet" a.zoy 1 ["self","listed","lists","given","gaps"] #[e,Ln]):FnOk P w K mg base #[f] 3 f fd ["self","number","lists"] #[e,zbb]:=by
 refine #[k,Wg];obtain⟨ok,q,l2,ls,rows,nu,s,n,p,rfl,SA,hl2,il,ok2,okl,no,mo,ho,hgp,hun,FP,hgz,h⟩:=h;refine⟨_,(Zc (pS 3 Wg.nd (Yj (pv 0) T.zo6 zpt (hr.mono ⋯) Zi (Za (pv 1) Zb)))
 (Zc (pS 4 Wg.nd (pF zrd hr (Za (Zs (K:=K) rfl (pv 0) rfl) (Za (Yd (Za (Yc (Za (pv 3) (Za Y3 Zb))) Zb)) Zb))))
 (Zc (pS 5 Wg.nd (pF ztl hr (Za (pv 2) (Za (pv 4) (Za (pv 3) Zb)))))
 (Zd (Zl (B3 zrw (hr.mono ⋯) Zi rfl (Za (Zs (K:=K) rfl (pv 0) rfl) (Za (pv 2) (Za (pF zrd hr (Za (pv 4) (Za (pv 5) Zb))) (Za (Zu Kt (Zs (K:=K) rfl (pv 0) rfl) (Yd (Za (Yc (Za (pv 1) (Za (pv 5) Zb))) Zb))) Zb)))))))))),?_⟩
 obtain⟨dx,m1,m2,m3,m4,ts,ms,gts,a1,a2,a3,a4,a5,a6,a7,a8,o1,o2,o3,o4,o5,o6⟩:=id SA;have hrl:rows.length<=100:=zyg mo.few ⋯;have hgl:s.gv.length<=100:=by have:=FP.len;rw[zzr] at this;omega
 have hpl:p<s.gv.length:=(zx3.mp hgp).1;have hpr:p<rows.length:=by have:=FP.len;rw[zzr] at this;omega
 have hplace:Wa s.gv n=some p:=by
  unfold Wa;rw[List.find?_eq_some_iff_getElem];refine⟨zx9 hgp,p,by rw[zy6];exact hpl,by rw[List.getElem_range],fun j hj=>?_⟩;rw[List.getElem_range,Bool.not_eq_true',decide_eq_false_iff_not];exact fun z=>absurd (hun j z) ⋯
 refine⟨_,rfl,q,dx,_,rfl,a1,Wx ⋯ ⋯ ⋯ ⋯,_,rfl,ok,q,s,n,rfl,SA,ho,hgl,fun H1 s1=>?_⟩;rw[hplace,show oN (some p)=V.int (p:Nat) from rfl];have SA1:=SA.same s1;refine⟨_,rfl,q,a.zoy,dx,_,_,rfl,s1 _ _ a1,T.zo6,T.zrh,T5,_,rfl,sz2,fun t1 ht1=>⟨sz1,fun lx hlx=>?_⟩⟩;have s2:=Zk (o:=.tup [.int (p:Nat),.non]) ht1;have q2:upd H1 t1 (.tup [.int (p:Nat),.non]) t1=some (.tup (Vz (p,none))):=Ze;generalize upd H1 t1 (.tup [.int (p:Nat),.non])=H2 at s2 q2 hlx;refine #[F,lx,hlx,fun H3 q3 s3=>?_];have q23:=s3 _ _ q2;have s13:=s1.trans (s2.trans s3);refine⟨m3,lx,s.gv,[V.ref t1],[(p,none)],rfl,s13 _ _ a6,q3,.cons q23 .nil,fun st hst=>by rw[zx6.mp hst];exact hpl,ho,hgl,by show 1<=100;decide,fun lg H4 hg4 s4 f4=>?_⟩;have s14:=s13.trans s4;have hg4:#[w,H4,lg,s.gv.set p .non]:=hg4;refine⟨_,rfl,_,rfl,_,rfl,l2,lg,ls,rows,nu,s.gv.set p .non,p,rfl,s14 _ _ hl2,il.same s14,mo,hg4,FP,hpr,by rw[zzb hpl],fun lt us st e w H5 hlt tl CR s5 f5=>?_⟩;have s15:=s14.trans s5;have hst100:st.length<=100:=zyg (CR.len FP hpr) hrl;refine⟨_,rfl,q,a.zoy,dx,_,_,rfl,s15 _ _ a1,T.zo6,T.zqx,Ts,_,rfl,_,rfl,_,rfl,lg,lt,s.gv.set p .non,us,st,rfl,s5 _ _ hg4,hlt,tl,fun x hx=>?_,FP.one,by rw[FP.len];exact hrl,hst100,fun l3 H6 h6 s6 f6=>?_⟩
 ·rw[FP.len];exact CR.ch.lt FP hpr x hx
 have s16:=s15.trans s6;refine⟨_,rfl,q,a.zoy,dx,_,_,rfl,s16 _ _ a1,T.zo6,T.zt7,Ah,_,rfl,_,rfl,sz2,fun t2 ht2=>⟨sz1,fun ly hly=>?_⟩⟩;have s7:=Zk (o:=.tup [.int n,.ref lt]) ht2;have q7:upd H6 t2 (.tup [.int n,.ref lt]) t2=#[b,.tup,[.int n,.ref lt]]:=Ze;generalize upd H6 t2 (.tup [.int n,.ref lt])=H7 at s7 q7 hly;refine #[F,ly,hly,fun H8 q8 s8=>?_];have q78:=s8 _ _ q7;have s18:=s16.trans (s7.trans s8);refine⟨m4,ly,gts,[V.ref t2],rfl,rfl,s18 _ _ a7,q8,by have:=a8.length;show gts.length+1<=sizeLine;have:=T4;omega,fun l4 hl4=>?_⟩;refine #[F,l4,hl4,fun H9 q9 s9=>?_];have s19:=s18.trans s9;intro q' dx' hq' hdx' ne;refine⟨q',dx',m1,l2,l3,l4,rfl,Ze,fun H' e'=>⟨rfl,?_⟩⟩;obtain⟨s10,q10⟩:=Mc (C:=a.zoy) (l1:=m1) (l2:=l2) (l3:=l3) (l4:=l4) hq' hdx' ne;rw[<- e'] at s10 q10;have s:=s19.trans s10;have s6x:=s7.trans (s8.trans (s9.trans s10));have s5x:=s6.trans s6x;refine h q' st e w H' ⟨dx',m1,l2,l3,l4,ts,ls,gts++[V.ref t2],q10,s _ _ a2,a3.same s,s _ _ hl2,il.same s,s6x _ _ h6,s10 _ _ q9,?_,no _ (s19.free hq'),o2,ok2,no _ (s15.free f6),no _ (s18.free hl4),okl⟩ CR s (s19.free hq');exact(a8.keep (fun _ _ _ z=>s _ _ z) (fun _ _ z=>s _ _ z)).snoc ((s9.trans s10) _ _ q78) (s5x _ _ hlt) (tl.same s5x) (no _ (s14.free f5))
abbrev Tc:Stmt:=Z1 (top 55) 3
theorem Ji:#[aa,Tc]:=fnS
theorem Jj(F:#[g,"matches","Sheet.matches",Tc])(T:#[j]):FnOk P w K mg base #[f] 1 f fd ["self"] #[e,Oh]:=by
 refine #[k,Ji];obtain⟨ok,q,s,rfl,SA,h⟩:=h;refine⟨_,Zd (Zl (Xp (Y0 (K:=K) rfl) (by rfl) T.zp9 PyProof.Rows.boot_list (Za (Zs (K:=K) rfl (pv 0) rfl) Zb))),?_⟩;obtain⟨dx,m1,m2,m3,m4,ts,ms,gts,a1,a2,a3,a4,a5,a6,a7,a8,o1,o2,o3,o4,o5,o6⟩:=id SA;refine⟨_,rfl,q,a.zoy,dx,_,_,rfl,a1,T.zo6,T.zqx,Ts,m1,_,rfl,#[x,a2],fun l hl=>?_⟩;exact h l ts _ Ze (a3.same (Zk hl)) (Zk hl) hl
abbrev Uu:Stmt:=Z1 (top 55) 4
theorem L6:#[n,["self","place"],["self","place"],Uu]:=fnS
theorem L7(F:#[g,"match_at","Sheet.match_at",Uu])(T:#[j])(zpm:Zq P w K mg base a.zoy "check_place" 1 ["self","place"] #[e,K4]):FnOk P w K mg base #[f] 2 f fd ["self","place"] #[e,Ia]:=by
 refine #[k,L6];obtain⟨ok,q,s,i,rfl,SA,si,h1,h2⟩:=h;refine⟨_,(Zc (Z7 (Yj (pv 0) T.zo6 zpm (hr.mono ⋯) Zi (Za (pv 1) Zb)))
 (Zd (Zl (pI (iL K) (Zs (K:=K) rfl (pv 0) rfl) (pv 1))))),?_⟩
 obtain⟨dx,m1,m2,m3,m4,ts,ms,gts,a1,a2,a3,a4,a5,a6,a7,a8,o1,o2,o3,o4,o5,o6⟩:=id SA;refine⟨_,rfl,q,dx,_,rfl,a1,Wx ⋯ ⋯ ⋯ ⋯,_,rfl,ok,q,s,i,rfl,SA,si,?_⟩;refine Du (fun hc=>h1 hc) fun hc=>?_;obtain⟨k,rfl⟩:∃ k:Nat,i=k:=⟨i.toNat,by omega⟩;have hk:k<s.ms.length:=by omega
 have hm:s.ms[k]?=some (s.ms[k]'hk):=zx2 hk;obtain⟨t,e1,e2⟩:=a3.getR (show (s.ms.map pV)[k]?=some (pV (s.ms[k]'hk)) by rw[zx5,hm];rfl);exact⟨_,rfl,q,a.zoy,dx,_,_,rfl,a1,T.zo6,T.zqx,Ts,_,rfl,m1,_,_,_,rfl,rfl,SqL.of a2,Z4 e1,h2 k _ t rfl hm e2⟩
abbrev Oo:Stmt:=Z1 (top 55) 5
theorem Ax:#[n,["self","place"],["self","place"],Oo]:=fnS
theorem Ay(F:#[g,"may","Sheet.may",Oo])(T:#[j])(zpm:Zq P w K mg base a.zoy "check_place" 1 ["self","place"] #[e,K4]):FnOk P w K mg base #[f] 2 f fd ["self","place"] #[e,zer]:=by
 refine #[k,Ax];obtain⟨ok,q,s,i,rfl,SA,si,hml,h1,h2⟩:=h;refine⟨_,(Zc (Z7 (Yj (pv 0) T.zo6 zpm (hr.mono ⋯) Zi (Za (pv 1) Zb)))
 (Zd (Zl (Xp (Y0 (K:=K) rfl) (by rfl) T.zp9 PyProof.Rows.boot_list (Za (pI (iL K) (Zs (K:=K) rfl (pv 0) rfl) (pv 1)) Zb))))),?_⟩
 obtain⟨dx,m1,m2,m3,m4,ts,ms,gts,a1,a2,a3,a4,a5,a6,a7,a8,o1,o2,o3,o4,o5,o6⟩:=id SA;refine⟨_,rfl,q,dx,_,rfl,a1,Wx ⋯ ⋯ ⋯ ⋯,_,rfl,ok,q,s,i,rfl,SA,si,?_⟩;refine Du (fun hc=>h1 hc) fun hc=>?_;obtain⟨k,rfl⟩:∃ k:Nat,i=k:=⟨i.toNat,by omega⟩;have hk:k<s.may.length:=by omega
 have hr':s.may[k]?=some (s.may[k]'hk):=zx2 hk;obtain⟨lr,e2,e3⟩:=a5.getR hr';have hl':(ms.map V.ref)[k]?=#[d,lr]:=by rw[zx5,e2];rfl
 exact⟨_,rfl,q,a.zoy,dx,_,_,rfl,a1,T.zo6,T.ztz,za9,_,rfl,m2,_,_,_,rfl,rfl,SqL.of a4,Z4 hl',lr,_,rfl,#[x,e3],fun l hl=>h2 k _ rfl hr' l _ Ze (Zk hl) hl⟩
abbrev Vi:Stmt:=Z1 (top 55) 6
theorem Oq:#[n,["self","place"],["self","place"],Vi]:=fnS
theorem Ot(F:#[g,"check_place","Sheet.check_place",Vi])(T:#[j]):FnOk P w K mg base #[f] 1 f fd ["self","place"] #[e,K4]:=by
 refine #[k,Oq];obtain⟨ok,q,s,i,rfl,SA,si,h⟩:=h;refine⟨_,(Zd (Z2 (PW.pt (X3 (Zp Cv (pv 1) Zf (Zt _)) (Xh (Zp zdv (pv 1) (Zm (cL K) (by rfl) T.zo5 PySem.boot_len (Za (Zs (K:=K) rfl (pv 0) rfl) Zb)) (Zt _)))))
  (Zd (Xk Xj rfl T.zup rfl (Za (Ve (Z5 (Xv ⋯) (Z5 (W4 (pv 1)) Vd)) ⋯) Zb)))
  Zo)),?_⟩
 obtain⟨dx,m1,m2,m3,m4,ts,ms,gts,a1,a2,a3,a4,a5,a6,a7,a8,o1,o2,o3,o4,o5,o6⟩:=id SA;have hts:ts.length=s.ms.length:=by rw[a3.length,zx1]
 refine⟨_,rfl,_,_,rfl,rfl,_,rfl,?_⟩;refine itD (fun hc=>?_) fun hc=>?_
 ·rw[if_pos (.inl hc)] at h;refine iteT ?_;exact#[aj,_,_,si,h]
 refine⟨_,rfl,_,rfl,q,a.zoy,dx,_,_,rfl,a1,T.zo6,T.zqx,Ts,m1,_,rfl,#[x,a2],_,_,rfl,rfl,_,rfl,?_⟩;rw[hts];refine itD (fun hc2=>?_) fun hc2=>?_
 ·rw[if_pos (.inr hc2)] at h;exact#[aj,_,_,si,h]
 ·rw[if_neg fun z=>z.elim hc hc2] at h;exact h
abbrev Qz:Stmt:=Z1 (top 55) 7
theorem D9:#[aa,Qz]:=fnS
theorem Ca(F:#[g,"goes","Sheet.goes",Qz])(T:#[j]):FnOk P w K mg base #[f] 1 f fd ["self"] #[e,Fo]:=by
 refine #[k,D9];obtain⟨ok,q,s,rfl,SA,h⟩:=h;refine⟨_,Zd (Zl (Xp (Y0 (K:=K) rfl) (by rfl) T.zp9 PyProof.Rows.boot_list (Za (Zs (K:=K) rfl (pv 0) rfl) Zb))),?_⟩;obtain⟨dx,m1,m2,m3,m4,ts,ms,gts,a1,a2,a3,a4,a5,a6,a7,a8,o1,o2,o3,o4,o5,o6⟩:=id SA;refine⟨_,rfl,q,a.zoy,dx,_,_,rfl,a1,T.zo6,T.zrh,T5,m3,_,rfl,#[x,a6],fun l hl=>?_⟩;exact h l _ Ze (Zk hl) hl
abbrev Rl:Stmt:=Z1 (top 55) 8
theorem Ew:#[n,#[Q],#[Q],Rl]:=fnS
theorem Ex(F:#[g,"where","Sheet.where",Rl])(T:#[j])(ztv:Zz P w K mg base "place_of" 1 ["given","number"] (C9 K)):FnOk P w K mg base #[f] 2 f fd #[Q] #[e,Nd]:=by
 refine #[k,Ew];obtain⟨ok,q,s,n,rfl,SA,ho,hgl,h⟩:=h;refine⟨_,Zd (Zl (pF ztv hr (Za (Zs (K:=K) rfl (pv 0) rfl) (Za (pv 1) Zb)))),?_⟩;obtain⟨dx,m1,m2,m3,m4,ts,ms,gts,a1,a2,a3,a4,a5,a6,a7,a8,o1,o2,o3,o4,o5,o6⟩:=id SA;exact⟨_,rfl,q,a.zoy,dx,_,_,rfl,a1,T.zo6,T.zrh,T5,_,rfl,m3,s.gv,n,rfl,a6,ho,hgl,fun H' s'=>h H' s'⟩
abbrev Q0:Stmt:=Z1 (top 55) 9
theorem Cb:#[aa,Q0]:=fnS
theorem Cc(F:#[g,"left","Sheet.left",Q0])(T:#[j])(zp8:Zz P w K mg base "left_without" 1 ["given"] (zcy K)):FnOk P w K mg base #[f] 2 f fd ["self"] #[e,zbc]:=by
 refine #[k,Cb];obtain⟨ok,q,s,rfl,SA,ho,hgl,h⟩:=h;refine⟨_,Zd (Zl (pF zp8 hr (Za (Zs (K:=K) rfl (pv 0) rfl) Zb))),?_⟩;obtain⟨dx,m1,m2,m3,m4,ts,ms,gts,a1,a2,a3,a4,a5,a6,a7,a8,o1,o2,o3,o4,o5,o6⟩:=id SA;exact⟨_,rfl,q,a.zoy,dx,_,_,rfl,a1,T.zo6,T.zrh,T5,m3,s.gv,rfl,a6,ho,hgl,fun l H' h1 s' h2=>h l H' h1 s' h2⟩
abbrev Ou:Stmt:=Z1 (top 55) 10
theorem Az:#[aa,Ou]:=fnS
theorem A0(F:#[g,"why","Sheet.why",Ou])(T:#[j])(ztw:Zz P w K mg base "shortage" 2 ["may","given"] (zem K)):FnOk P w K mg base #[f] 3 f fd ["self"] #[e,zeq]:=by
 refine #[k,Az];obtain⟨ok,q,s,nu,rfl,SA,mo,FP,NA,h⟩:=h;refine⟨_,Zd (Zl (pF ztw hr (Za #[V,Zs,0] (Za #[V,Zs,0] Zb)))),?_⟩;obtain⟨dx,m1,m2,m3,m4,ts,ms,gts,a1,a2,a3,a4,a5,a6,a7,a8,o1,o2,o3,o4,o5,o6⟩:=id SA;exact⟨_,rfl,q,a.zoy,dx,_,_,rfl,a1,T.zo6,T.ztz,za9,_,rfl,q,a.zoy,dx,_,_,rfl,a1,T.zo6,T.zrh,T5,m2,m3,ms,s.may,nu,s.gv,rfl,a4,a5,mo,a6,FP,NA,fun t lp lr ps rs H'=>h t lp lr ps rs H'⟩
abbrev Sj:Stmt:=Z1 (top 55) 11
theorem Ho:#[aa,Sj]:=fnS
theorem Hr(F:#[g,"chains","Sheet.chains",Sj])(T:#[j]):FnOk P w K mg base #[f] 1 f fd ["self"] #[e,Md]:=by
 refine #[k,Ho];obtain⟨ok,q,s,rfl,SA,hgz,h⟩:=h;refine#[av,_,Of,rfl,Oe.mk (xo:=["number","steps"]) (ys:=[]) (js:=[]) rfl rfl,rfl,Z9 (K:=K) rfl #[V,Zs,0],fun _ _ _ _ _=>(Xu (K:=K) (n:=2) rfl rfl #[ar,Zv,Vc,(show List.Nodup [("number":Str),("steps":Str)] by decide +kernel),Zv,Vc,(show List.Nodup [("number":Str),("steps":Str)] by decide +kernel),Xt]),Yc (Za (pv 0) (Za (Xp (Y0 (K:=K) rfl) (by rfl) T.zp9 PyProof.Rows.boot_list (Za (pv 1) Zb)) Zb))];obtain⟨dx,m1,m2,m3,m4,ts,ms,gts,a1,a2,a3,a4,a5,a6,a7,a8,o1,o2,o3,o4,o5,o6⟩:=id SA;have hgts:=a8.length;refine⟨_,rfl,q,a.zoy,dx,_,_,rfl,a1,T.zo6,T.zt7,Ah,m4,rfl,⟨_,SqL.of a7⟩,?_⟩;refine Me (K:=K) (xs:=gts) (fun i ys H'=>#[p]/\X5 (fun x=>H x=none) H' ys (s.gaps.take i)/\ys.length=i) ⟨Same.refl _,.nil,rfl⟩ (fun i ys H' _ ⟨s',_⟩=>#[K,s',a7]) (szN ⋯) (fun i ys H' ⟨_,_,e⟩=>by omega) ?_ ?_
 ·rintro i x ys H' hx ⟨s1,gl,hyl⟩;obtain⟨t,l,n,us,st,rfl,hgi,ht,hl,tl,_⟩:=a8.get hx;have ht1:=s1 _ _ ht;have hl1:=s1 _ _ hl;refine⟨t,_,rfl,SqT.of ht1,rfl,_,_,rfl,_,_,rfl,rfl,#[q,[#[l,n],#[d,l]],rfl],?_⟩;unfold tYes;dsimp only;rw[if_pos rfl];refine⟨_,rfl,_,rfl,l,_,rfl,#[x,hl1],fun l2 hl2=>?_⟩;refine al (upd _ l2 _) hl2 rfl fun H2 q2 s2=>?_;have f2:H l2=none:=s1.free hl2;refine⟨sz2,fun t2 ht2=>?_⟩;have s3:=Zk (o:=.tup [.int n,.ref l2]) ht2;have s23:=s2.trans s3;refine⟨s1.trans s23,?_,by rw[zx4,hyl];rfl⟩;have e:s.gaps.take (i+1)=s.gaps.take i++[(n,st)]:=by rw[zzd,hgi];rfl
  rw[e];exact(gl.keep (fun _ _ _ z=>s23 _ _ z) (fun _ _ z=>s23 _ _ z)).snoc Ze (s3 _ _ q2) (tl.same (s1.trans s23)) f2
 ·rintro ys H' ⟨s1,gl,hyl⟩ l hl;rw[hgts,zyi] at gl;refine h l ys _ Ze ?_ (s1.trans (Zk hl)) (s1.free hl);exact(gl.imp (ok':=fun x=>H x=none/\x≠l) fun x ⟨o,e⟩ z=>⟨z,Zh e hl⟩).keep (fun _ _ _ z=>Zk hl _ _ z) fun _ _ z=>Zk hl _ _ z
abbrev Q4:Stmt:=Z1 (top 55) 12
theorem Cd:#[aa,Q4]:=fnS
theorem Ce(F:#[g,"rows","Sheet.rows",Q4])(T:#[j]):FnOk P w K mg base #[f] 1 f fd ["self"] #[e,zbd]:=by
 refine #[k,Cd];obtain⟨ok,q,s,rfl,SA,ho,hgl,hml,h⟩:=h;refine#[av,_,Of,rfl,Oe.mk (xo:=["match","number"]) (ys:=[]) (js:=[]) rfl rfl,rfl,zl1 (K:=K) rfl rfl T.zu8 (Za #[V,Zs,0] (Za #[V,Zs,0] Zb)),fun _ _ _ _ _=>(Xu (K:=K) (n:=2) rfl rfl #[ar,Zv,Vc,(show List.Nodup [("match":Str),("number":Str)] by decide +kernel),Zv,Vc,(show List.Nodup [("match":Str),("number":Str)] by decide +kernel),Xt]),Zu (za7 (K:=K) rfl) (pv 0) (Yc (Za (pv 1) Zb))];obtain⟨dx,m1,m2,m3,m4,ts,ms,gts,a1,a2,a3,a4,a5,a6,a7,a8,o1,o2,o3,o4,o5,o6⟩:=id SA;have hts:ts.length=s.ms.length:=by rw[a3.length,zx1]
 refine⟨_,rfl,q,a.zoy,dx,_,_,rfl,a1,T.zo6,T.zqx,Ts,_,rfl,q,a.zoy,dx,_,_,rfl,a1,T.zo6,T.zrh,T5,m1,m3,rfl,⟨_,SqL.of a2⟩,⟨_,SqL.of a6⟩,?_⟩;refine zf6 (K:=K) (xs:=ts) (zs:=s.gv) (fun i ys H'=>#[p]/\Z8 H' ys (((Ya s).take i).map row4)/\ys.length=i) ⟨Same.refl _,.nil,rfl⟩ ⋯ (fun i ys H' _ ⟨s',_⟩=>⟨#[K,s',a2],SqL.of (s' _ _ a6)⟩) (szN ⋯) (fun i ys H' ⟨_,_,e⟩=>by omega) ?_ ?_
 ·rintro i x z t ys H' hx hz ⟨s1,tl,hyl⟩ ht;obtain⟨tm,m,rfl,hm,htm⟩:=Ni a3 hx;have oz:=ho z (zyb hz);refine #[F,t,ht,fun H2 q2 SH2=>?_];have s2:=s1.trans SH2;have tl2:=tl.same SH2;refine⟨t,_,rfl,SqT.of q2,rfl,_,_,rfl,_,_,rfl,rfl,#[q,[#[d,tm],some z],rfl],?_⟩;unfold tYes;dsimp only;rw[if_pos rfl];refine⟨_,rfl,_,rfl,sz1,fun t1 ht1=>?_⟩;refine #[F,t1,ht1,fun H3 q3 s3=>?_];refine⟨tm,t1,_,_,rfl,rfl,SqT.of ((s2.trans s3) _ _ htm),SqT.of q3,by unfold pV;simp,by show 3+1<=sizeLine;exact sz4,fun z=>absurd z (by simp),fun _ t2 ht2=>?_⟩;have s4:=Zk (o:=.tup (pV m++[z])) ht2;refine⟨s2.trans (s3.trans s4),?_,by rw[zx4,hyl];rfl⟩;rw[zf7 hm hz,zx7];refine((tl2.same s3).same s4).snoc ?_;rw[Ze,zl5 m oz];rfl
 ·rintro ys H' ⟨s1,tl,hyl⟩ l hl;rw[hts,<- zbe hgl,zyi] at tl;exact h l ys _ Ze (tl.same (Zk hl)) (s1.trans (Zk hl)) (s1.free hl)
abbrev Rm:Stmt:=top 56
theorem Ey:#[n,["listed","lists"],["listed","lists"],Rm]:=fnS
theorem Ez(F:#[g,"drawn_sheet","drawn_sheet",Rm])(T:#[j])(zrw:Tz P w K mg base "Sheet" a.zoy 1 ["self","listed","lists","given","gaps"] #[e,Ln])(zu2:Zz P w K mg base "fill" 3 ["may"] (zh2 K)):FnOk P w K mg base #[f] 4 f fd ["listed","lists"] #[e,zep]:=by
 refine #[k,Ey];obtain⟨ok,l1,l2,ts,ls,ms,rows,nu,rfl,hl1,tl,hl2,il,ok1,ok2,okl,no,mo,h⟩:=h;refine⟨_,Zd (Zl (B3 zrw (hr.mono ⋯) Zi rfl (Za (pv 0) (Za (pv 1) (Za (pF zu2 hr (Za (pv 1) Zb)) (Za (Yd Zb) Zb)))))),?_⟩;refine⟨_,rfl,_,rfl,_,rfl,l2,ls,rows,nu,rfl,hl2,il,mo,fun l3 gv H1 h3 FP SP s1 f3=>?_⟩;refine#[af,fun l4 hl4=>?_];refine al (upd _ l4 _) hl4 rfl fun H2 q2 s2=>?_;have s12:=s1.trans s2;intro q dx hq hdx ne;refine⟨q,dx,l1,l2,l3,l4,rfl,Ze,fun H' e=>⟨rfl,?_⟩⟩;obtain⟨s3,q3⟩:=Mc (C:=a.zoy) (l1:=l1) (l2:=l2) (l3:=l3) (l4:=l4) hq hdx ne;rw[<- e] at s3 q3;have s:=s12.trans s3;exact h q gv H' ⟨dx,l1,l2,l3,l4,ts,ls,[],q3,s _ _ hl1,tl.same s,s _ _ hl2,il.same s,s3 _ _ (s2 _ _ h3),s3 _ _ q2,.nil,no _ (s12.free hq),ok1,ok2,no _ f3,no _ (s1.free hl4),okl⟩ FP SP s (s12.free hq)
abbrev Ua:Stmt:=Z1 (top 58) 0
theorem Mv:#[n,["self","rounds","rest"],["self","rounds","rest"],Ua]:=fnS
theorem Mw(F:#[g,"__init__","Season.__init__",Ua])(T:#[j])(zpc:Zz P w K mg base "check_range" 1 ["value","least","most"] (Ll a.zpn))(zuo:Tz P w K mg base "Roster" a.zo2 1 ["self"] #[e,zen])(zuf:Tz P w K mg base "Ledger" a.zoz 1 ["self"] (zec a.zoz)):FnOk P w K mg base #[f] 3 f fd ["self","rounds","rest"] #[e,zet]:=by
 refine #[k,Mv];obtain⟨p,dx,r,q,rfl,hp,sr,sq,h⟩:=h;refine⟨_,(Zc (Z7 (pF zpc hr (Za (pv 1) (Za Zf (Za (Wz rfl T.zsh) Zb)))))
 (Zc (Z7 (pF zpc hr (Za (pv 2) (Za Zf (Za (Wz rfl T.ztj) Zb)))))
 (Zc (Xg (K:=K) rfl (pv 0) (pv 1) rfl)
 (Zc (Xg (K:=K) rfl (pv 0) (pv 2) rfl)
 (Zc (Xg (K:=K) rfl (pv 0) (zd6 zuo (hr.mono ⋯) Zi rfl) rfl)
 (Zc (Xg (K:=K) rfl (pv 0) (zd6 zuf (hr.mono ⋯) Zi rfl) rfl)
 (Zc (Xg (K:=K) rfl (pv 0) G7 rfl)
 (Zc (Xg (K:=K) rfl (pv 0) (Yd Zb) rfl)
 (Zc (Xg (K:=K) rfl (pv 0) Y3 rfl)
 (Zd (Xg (K:=K) rfl (pv 0) (Yd Zb) rfl))))))))))),?_⟩
 show let y1:TS:=_;let y2:TS:=Z0 _ y1;let y3:TS:=Z0 _ y2;let y4:TS:=Z0 _ y3;let y5:TS:=Z0 _ y4;let y6:TS:=Z0 _ y5;let y7:TS:=Z0 _ y6;let y8:TS:=Z0 _ y7;let y9:TS:=Z0 _ y8;Z0 _ y9 _ _ _;intro y1 y2 y3 y4 y5 y6 y7 y8 y9;refine⟨_,rfl,r,0,60,rfl,sr,Yl ⋯,Yl ⋯,?_⟩;refine it2 h (fun _ z=>z) fun h1 h=>?_;refine⟨_,rfl,q,0,10,rfl,sq,Yl ⋯,Yl ⋯,?_⟩;refine it2 h (fun _ z=>z) fun h2 hF=>?_;have er:r=((r.toNat:Nat):Int):=by omega
 have eq':q=((q.toNat:Nat):Int):=by omega
 generalize r.toNat=rn at hF er;generalize q.toNat=qn at hF eq';subst er eq';refine⟨_,rfl,_,rfl,p,a.zov,dx,_,rfl,hp,T.zow,T.ztg,(by show 0<1000;decide),?_⟩;rw[pF1];refine⟨_,rfl,_,rfl,p,a.zov,dx,_,rfl,Ze,T.zow,T.zum,(by show 1<1000;decide),?_⟩;rw[pF2,Gq];have b1:V6 p H (upd H p (.ins a.zov dx (sF2 (.int rn) (.int qn)))):=.put;have q1:upd H p (.ins a.zov dx (sF2 (.int rn) (.int qn))) p=some (.ins a.zov dx (sF2 (.int rn) (.int qn))):=Ze;generalize upd H p (.ins a.zov dx (sF2 (.int rn) (.int qn)))=H1 at b1 q1;intro pr dxr hpr hdxr ne;refine⟨pr,dxr,rfl,Ze,fun dr hdr=>⟨rfl,?_⟩⟩;have ndp:dr≠pr:=fun z=>by rw[z,Ze] at hdr;cases hdr
 have ndx:dr≠dxr:=fun z=>by rw[z,Zj ne,Ze] at hdr;cases hdr
 have hdr1:H1 dr=none:=by rw[Zj ndp,Zj ndx] at hdr;exact hdr
 have s2:Same H1 (upd (upd (upd (upd H1 dxr (.own pr)) pr (.ins a.zo2 dxr [])) dr (.dK [])) pr (.ins a.zo2 dxr [("entries",.ref dr)])):=fun b o e=>by
  rw[Zj (Zh e hpr),Zj (Zh e hdr1),Zj (Zh e hpr),Zj (Zh e hdxr)];exact e
 have R2:Xe a.zo2 (upd (upd (upd (upd H1 dxr (.own pr)) pr (.ins a.zo2 dxr [])) dr (.dK [])) pr (.ins a.zo2 dxr [("entries",.ref dr)])) pr dr []:=⟨⟨dxr,[],Ze,by rw[Zj ndp,Ze],.nil⟩,zzw⟩;generalize upd (upd (upd (upd H1 dxr (.own pr)) pr (.ins a.zo2 dxr [])) dr (.dK [])) pr (.ins a.zo2 dxr [("entries",.ref dr)])=H2 at s2 R2;refine⟨_,rfl,p,a.zov,dx,_,rfl,s2 _ _ q1,T.zow,T.zp0,(by show 2<1000;decide),?_⟩;rw[pF3];have np2:pr≠p/\dr≠p:=⟨Ne.symm (Zh q1 hpr),Ne.symm (Zh q1 hdr1)⟩;have b3:V6 p H (upd H2 p (.ins a.zov dx (sF3 (.int rn) (.int qn) (.ref pr)))):=b1.trans ((V6.of s2).trans .put);have q3:upd H2 p (.ins a.zov dx (sF3 (.int rn) (.int qn) (.ref pr))) p=some (.ins a.zov dx (sF3 (.int rn) (.int qn) (.ref pr))):=Ze;have kt3:∀ t xs,H2 t=#[z,xs]->upd H2 p (.ins a.zov dx (sF3 (.int rn) (.int qn) (.ref pr))) t=#[z,xs]:=fun t xs e=>by rw[Zj (Y2 e (s2 _ _ q1) (fun z=>nomatch z))];exact e
 have R3:=R2.keep (H':=upd H2 p (.ins a.zov dx (sF3 (.int rn) (.int qn) (.ref pr)))) (fun o e=>by rw[Zj np2.1];exact e) (fun o e=>by rw[Zj np2.2];exact e) kt3;have fdr:H dr=none:=V6.free b1 ⟨_,q1⟩ hdr1;have hr2:H2 dr=#[b,.dK,[]]/\∃ o,H2 pr=#[c]:=by
  obtain⟨⟨x,kv,z1,z2,z3⟩,_⟩:=R2;cases z3;exact⟨z2,_,z1⟩
 generalize upd H2 p (.ins a.zov dx (sF3 (.int rn) (.int qn) (.ref pr)))=H3 at b3 q3 R3;intro pl dxl hpl hdxl nel;refine⟨pl,dxl,rfl,Ze,fun lr ld H4 L0 k0 f0 g0 n0=>⟨rfl,?_⟩⟩;obtain⟨s4,fr0,fd0⟩:=zhy hpl hdxl nel k0 f0 g0;refine⟨_,rfl,p,a.zov,dx,_,rfl,s4 _ _ q3,T.zow,T.zql,(by show 3<1000;decide),?_⟩;rw[pF4];have q4:=s4 _ _ q3;have np4:pl≠p/\lr≠p/\ld≠p:=⟨Ne.symm (Zh q3 hpl),Ne.symm (Zh q3 fr0),Ne.symm (Zh q3 fd0)⟩;have b5:V6 p H (upd H4 p (.ins a.zov dx (sF4 (.int rn) (.int qn) (.ref pr) (.ref pl)))):=b3.trans ((V6.of s4).trans .put);have q5:upd H4 p (.ins a.zov dx (sF4 (.int rn) (.int qn) (.ref pr) (.ref pl))) p=some (.ins a.zov dx (sF4 (.int rn) (.int qn) (.ref pr) (.ref pl))):=Ze;have kt5:∀ t xs,H4 t=#[z,xs]->upd H4 p (.ins a.zov dx (sF4 (.int rn) (.int qn) (.ref pr) (.ref pl))) t=#[z,xs]:=fun t xs e=>by rw[Zj (Y2 e q4 (fun z=>nomatch z))];exact e
 have R5:=(R3.same s4).keep (H':=upd H4 p (.ins a.zov dx (sF4 (.int rn) (.int qn) (.ref pr) (.ref pl)))) (fun o e=>by rw[Zj np2.1];exact e) (fun o e=>by rw[Zj np2.2];exact e) kt5;have L5:=L0.keep (H':=upd H4 p (.ins a.zov dx (sF4 (.int rn) (.int qn) (.ref pr) (.ref pl)))) (fun o e=>by rw[Zj np4.1];exact e) (fun o e=>by rw[Zj np4.2.1];exact e) (fun o e=>by rw[Zj np4.2.2];exact e) kt5;have flr:H lr=none:=V6.free b3 ⟨_,q3⟩ fr0;have fld:H ld=none:=V6.free b3 ⟨_,q3⟩ fd0;have nrp:pr≠pl/\dr≠pl/\pr≠lr/\dr≠lr/\pr≠ld/\dr≠ld:=by
  obtain⟨⟨x,kv,z1,z2,_⟩,_⟩:=R3;exact⟨Zh z1 hpl,Zh z2 hpl,Zh z1 fr0,Zh z2 fr0,Zh z1 fd0,Zh z2 fd0⟩
 generalize upd H4 p (.ins a.zov dx (sF4 (.int rn) (.int qn) (.ref pr) (.ref pl)))=H5 at b5 q5 R5 L5;intro da hda;have npa:da≠p:=Ne.symm (Zh q5 hda);refine⟨_,rfl,p,a.zov,dx,_,rfl,Zk (o:=.dT []) hda _ _ q5,T.zow,T.zrk,(by show 4<1000;decide),?_⟩;rw[pF5];have b7:V6 p H5 (upd (upd H5 da (.dT [])) p (.ins a.zov dx (sF5 (.int rn) (.int qn) (.ref pr) (.ref pl) (.ref da)))):=(V6.of (Zk hda)).trans .put;have q7:upd (upd H5 da (.dT [])) p (.ins a.zov dx (sF5 (.int rn) (.int qn) (.ref pr) (.ref pl) (.ref da))) p=some (.ins a.zov dx (sF5 (.int rn) (.int qn) (.ref pr) (.ref pl) (.ref da))):=Ze;have d7:upd (upd H5 da (.dT [])) p (.ins a.zov dx (sF5 (.int rn) (.int qn) (.ref pr) (.ref pl) (.ref da))) da=#[b,.dT,[]]:=by rw[Zj npa,Ze]
 generalize upd (upd H5 da (.dT [])) p (.ins a.zov dx (sF5 (.int rn) (.int qn) (.ref pr) (.ref pl) (.ref da)))=H7 at b7 q7 d7;refine#[af,fun ls hls=>?_];have nps:ls≠p:=Ne.symm (Zh q7 hls);refine⟨_,rfl,p,a.zov,dx,_,rfl,Zk (o:=.lst []) hls _ _ q7,T.zow,T.zta,(by show 5<1000;decide),?_⟩;rw[pF6];have b9:V6 p H7 (upd (upd H7 ls (.lst [])) p (.ins a.zov dx (sF6 (.int rn) (.int qn) (.ref pr) (.ref pl) (.ref da) (.ref ls)))):=(V6.of (Zk hls)).trans .put;have q9:upd (upd H7 ls (.lst [])) p (.ins a.zov dx (sF6 (.int rn) (.int qn) (.ref pr) (.ref pl) (.ref da) (.ref ls))) p=some (.ins a.zov dx (sF6 (.int rn) (.int qn) (.ref pr) (.ref pl) (.ref da) (.ref ls))):=Ze;have l9:upd (upd H7 ls (.lst [])) p (.ins a.zov dx (sF6 (.int rn) (.int qn) (.ref pr) (.ref pl) (.ref da) (.ref ls))) ls=#[b,.lst,[]]:=by rw[Zj nps,Ze]
 generalize upd (upd H7 ls (.lst [])) p (.ins a.zov dx (sF6 (.int rn) (.int qn) (.ref pr) (.ref pl) (.ref da) (.ref ls)))=H9 at b9 q9 l9;refine⟨_,rfl,p,a.zov,dx,_,rfl,q9,T.zow,T.zpx,(by show 6<1000;decide),?_⟩;rw[pF7];have b10:V6 p H9 (upd H9 p (.ins a.zov dx (sF7 (.int rn) (.int qn) (.ref pr) (.ref pl) (.ref da) (.ref ls) .non))):=.put;have q10:upd H9 p (.ins a.zov dx (sF7 (.int rn) (.int qn) (.ref pr) (.ref pl) (.ref da) (.ref ls) .non)) p=some (.ins a.zov dx (sF7 (.int rn) (.int qn) (.ref pr) (.ref pl) (.ref da) (.ref ls) .non)):=Ze;generalize upd H9 p (.ins a.zov dx (sF7 (.int rn) (.int qn) (.ref pr) (.ref pl) (.ref da) (.ref ls) .non))=H10 at b10 q10;refine#[af,fun lt hlt=>?_];have npt:lt≠p:=Ne.symm (Zh q10 hlt);refine⟨_,rfl,p,a.zov,dx,_,rfl,Zk (o:=.lst []) hlt _ _ q10,T.zow,T.zqe,(by show 7<1000;decide),?_⟩;rw[pF8];have b12:V6 p H10 (upd (upd H10 lt (.lst [])) p (.ins a.zov dx (sF8 (.int rn) (.int qn) (.ref pr) (.ref pl) (.ref da) (.ref ls) .non (.ref lt)))):=(V6.of (Zk hlt)).trans .put;have q12:upd (upd H10 lt (.lst [])) p (.ins a.zov dx (sF8 (.int rn) (.int qn) (.ref pr) (.ref pl) (.ref da) (.ref ls) .non (.ref lt))) p=some (.ins a.zov dx (sF8 (.int rn) (.int qn) (.ref pr) (.ref pl) (.ref da) (.ref ls) .non (.ref lt))):=Ze;have l12:upd (upd H10 lt (.lst [])) p (.ins a.zov dx (sF8 (.int rn) (.int qn) (.ref pr) (.ref pl) (.ref da) (.ref ls) .non (.ref lt))) lt=#[b,.lst,[]]:=by rw[Zj npt,Ze]
 generalize upd (upd H10 lt (.lst [])) p (.ins a.zov dx (sF8 (.int rn) (.int qn) (.ref pr) (.ref pl) (.ref da) (.ref ls) .non (.ref lt)))=H12 at b12 q12 l12;have b912:=b10.trans b12;have b712:=b9.trans b912;have b512:=b7.trans b712;have bb:=b5.trans b512;have kt:∀ t xs,H5 t=#[z,xs]->H12 t=#[z,xs]:=fun t xs e=>b512 t _ e (Y2 e q5 (fun z=>nomatch z));have R12:=R5.keep (fun o e=>b512 _ o e np2.1) (fun o e=>b512 _ o e np2.2) kt;have L12:=L5.keep (fun o e=>b512 _ o e np4.1) (fun o e=>b512 _ o e np4.2.1) (fun o e=>b512 _ o e np4.2.2) kt;have d12:=b712 _ _ d7 npa;have l912:=b912 _ _ l9 nps;have fda:H da=none:=V6.free b5 ⟨_,q5⟩ hda;have fls:H ls=none:=V6.free (b5.trans b7) ⟨_,q7⟩ hls;have flt:H lt=none:=V6.free (b5.trans (b7.trans (b9.trans b10))) ⟨_,q10⟩ hlt;have ex5:(∃ o,H5 pr=some o)/\(∃ o,H5 dr=some o)/\(∃ o,H5 pl=some o)/\(∃ o,H5 lr=some o)/\(∃ o,H5 ld=some o):=by
  obtain⟨⟨x,kv,z1,z2,_⟩,_⟩:=id R5;obtain⟨⟨y,w1⟩,⟨rs,w2,_⟩,⟨ks,w3,_⟩⟩:=id L5;exact⟨⟨_,z1⟩,⟨_,z2⟩,⟨_,w1⟩,⟨_,w2⟩,⟨_,w3⟩⟩
 have n5:∀ {x y:Addr},(∃ o,H5 x=some o)->H5 y=none->x≠y:=fun ⟨o,e⟩ hy=>Zh e hy;have fls5:H5 ls=none:=V6.free b7 ⟨_,q7⟩ hls;have flt5:H5 lt=none:=V6.free (b7.trans (b9.trans b10)) ⟨_,q10⟩ hlt;have ndas:da≠ls:=Zh d7 hls;have ndat:da≠lt:=Zh (b10 _ _ (b9 _ _ d7 npa) npa) hlt;have nst:ls≠lt:=Zh (b10 _ _ l9 nps) hlt;obtain⟨e1,e2,e3,e4,e5⟩:=ex5;have nrl:lr≠ld:=n0;refine hF ⟨p,pr,dr,pl,lr,ld,da,ls,lt⟩ H12 rfl ⟨⟨dx,.non,q12,rfl⟩,R12,L12,⟨[],d12,fun i n=>rfl,zyc _⟩,⟨[],l912,.nil⟩,⟨[],l12,.nil⟩,?_,?_⟩ bb ?_
 ·show [p,dr,lr,ld,da,ls,lt].Nodup;simp only[zys,zx8,zy4,or_false,not_or];exact⟨⟨Ne.symm np2.2,Ne.symm np4.2.1,Ne.symm np4.2.2,Ne.symm npa,Ne.symm nps,Ne.symm npt⟩,⟨nrp.2.2.2.1,nrp.2.2.2.2.2,n5 e2 hda,n5 e2 fls5,n5 e2 flt5⟩,⟨nrl,n5 e4 hda,n5 e4 fls5,n5 e4 flt5⟩,⟨n5 e5 hda,n5 e5 fls5,n5 e5 flt5⟩,⟨ndas,ndat⟩,nst,by simp,zzw⟩
 ·have hpr5:∃ x fs,H5 pr=some (.ins a.zo2 x fs):=by obtain⟨⟨x,kv,z1,_⟩,_⟩:=R5;exact⟨_,_,z1⟩
  have hdr5:∃ kv,H5 dr=#[b,.dK,kv]:=by obtain⟨⟨x,kv,_,z2,_⟩,_⟩:=R5;exact⟨_,z2⟩
  have hpl5:∃ x fs,H5 pl=some (.ins a.zoz x fs):=by obtain⟨⟨y,w1⟩,_⟩:=L5;exact⟨_,_,w1⟩
  obtain⟨x1,y1,z1⟩:=hpr5;obtain⟨y2,z2⟩:=hdr5;obtain⟨x3,y3,z3⟩:=hpl5;obtain⟨_,⟨rs,w2,_⟩,⟨ks,w3,_⟩⟩:=id L5;have nm:∀ m,m∈([p,dr,lr,ld,da,ls,lt]:List Addr)↔m=p\/m=dr\/m=lr\/m=ld\/m=da\/m=ls\/m=lt:=fun m=>by simp
  refine⟨fun hm=>?_,fun hm=>?_⟩
  ·rcases(nm _).mp hm with q|q|q|q|q|q|q
   ·exact np2.1 q
   ·exact Y2 z1 z2 (fun z=>nomatch z) q
   ·exact nrp.2.2.1 q
   ·exact nrp.2.2.2.2.1 q
   ·exact n5 e1 hda q
   ·exact n5 e1 fls5 q
   ·exact n5 e1 flt5 q
  ·rcases(nm _).mp hm with q|q|q|q|q|q|q
   ·exact np4.1 q
   ·exact nrp.2.1 q.symm
   ·exact Y2 z3 w2 (fun z=>nomatch z) q
   ·exact Y2 z3 w3 (fun z=>nomatch z) q
   ·exact n5 e3 hda q
   ·exact n5 e3 fls5 q
   ·exact n5 e3 flt5 q
 ·intro x hx hxp;simp only[SAd.fp,zx8,zy4,or_false] at hx;rcases hx with q|q|q|q|q|q|q
  ·exact absurd q hxp
  ·rw[q];exact fdr
  ·rw[q];exact flr
  ·rw[q];exact fld
  ·rw[q];exact fda
  ·rw[q];exact fls
  ·rw[q];exact flt
abbrev Wk:Stmt:=Z1 (top 58) 1
theorem Rn:#[aa,Wk]:=fnS
theorem Ro(F:#[g,"check_not_over","Season.check_not_over",Wk])(T:#[j])(zox:Zq P w K mg base a.zov "at_hand" 2 ["self"] #[e,Vm]):FnOk P w K mg base #[f] 3 f fd ["self"] #[e,K5]:=by
 refine #[k,Rn];obtain⟨A',S,rfl,SA,h⟩:=h;refine⟨_,(Zd (Z2 (Zp Tu (Ye (pv 0) T.zow zox (hr.mono ⋯) Zi) #[V,Zs,0] (Zt _))
  (Zd (Xk Xj rfl T.zuy rfl (Za Zr Zb)))
  Zo)),?_⟩
 obtain⟨⟨dx,v,a1,a2⟩,b,c,_⟩:=id SA;refine⟨_,rfl,A'.p,dx,_,rfl,a1,Z6 ⋯,A',S,rfl,SA,_,rfl,A'.p,a.zov,dx,_,_,rfl,a1,T.zow,T.ztg,Bh,_,_,rfl,rfl,_,rfl,?_⟩;refine itD (fun hc=>?_) fun hc=>?_
 ·rw[if_pos (by unfold atV at hc;omega)] at h;exact⟨sz1,h⟩
 ·rw[if_neg (by unfold atV at hc;omega)] at h;exact h
abbrev Wr:Stmt:=Z1 (top 58) 2
theorem R8:#[aa,Wr]:=fnS
theorem R9(F:#[g,"check_undrawn","Season.check_undrawn",Wr])(T:#[j])(zpg:Zq P w K mg base a.zov "check_not_over" 3 ["self"] #[e,K5]):FnOk P w K mg base #[f] 4 f fd ["self"] #[e,K6]:=by
 refine #[k,R8];obtain⟨A',S,rfl,SA,h⟩:=h;refine⟨_,(Zc (Z7 (Ye (pv 0) T.zow zpg (hr.mono ⋯) Zi))
 (Zd (Z2 (Zp Tj (Zs (K:=K) rfl (pv 0) rfl) Y3 (Zt _))
  (Zd (Xk Xj rfl T.zu7 rfl (Za Zr Zb)))
  Zo))),?_⟩
 obtain⟨⟨dx,v,a1,a2⟩,b,c,_⟩:=id SA;refine⟨_,rfl,A'.p,dx,_,rfl,a1,Z6 ⋯,A',S,rfl,SA,?_⟩;refine it2 h (fun _ z=>z) fun hn h=>?_;refine⟨_,rfl,A'.p,a.zov,dx,_,_,rfl,a1,T.zow,T.zpx,W6,rfl,_,rfl,?_⟩;cases hc:S.cur with
 | none =>
   rw[hc] at a2 h;have a2:v=.non:=a2;rw[a2];exact iteF h
 | some s =>
   rw[hc] at a2 h;obtain⟨q,rfl,_⟩:=a2;exact iteT ⟨sz1,h⟩
abbrev Vb:Stmt:=Z1 (top 58) 3
theorem Px:#[n,["self","at"],["self","at"],Vb]:=fnS
theorem Py(F:#[g,"check_round","Season.check_round",Vb])(T:#[j]):FnOk P w K mg base #[f] 1 f fd ["self","at"] #[e,Gy]:=by
 refine #[k,Px];obtain⟨A',S,i,rfl,SA,si,h⟩:=h;refine⟨_,(Zd (Z2 (PW.pt (X3 (Zp Cv (pv 1) Zf (Zt _)) (Xh (Zp Tu (pv 1) #[V,Zs,0] (Zt _)))))
  (Zd (Xk Xj rfl T.ztq rfl (Za (Ve (Z5 (W4 (pv 1)) (Z5 (Xv ⋯) Vd)) ⋯) Zb)))
  Zo)),?_⟩
 obtain⟨⟨dx,v,a1,a2⟩,b,c,_⟩:=id SA;refine⟨_,rfl,_,_,rfl,rfl,_,rfl,?_⟩;refine itD (fun hc=>?_) fun hc=>?_
 ·rw[if_pos (.inl hc)] at h;refine iteT ?_;exact#[aj,_,_,si,h]
 refine⟨_,rfl,_,rfl,A'.p,a.zov,dx,_,_,rfl,a1,T.zow,T.ztg,Bh,_,_,rfl,rfl,_,rfl,?_⟩;refine itD (fun hc2=>?_) fun hc2=>?_
 ·rw[if_pos (.inr hc2)] at h;exact#[aj,_,_,si,h]
 ·rw[if_neg fun z=>z.elim hc hc2] at h;exact h
abbrev Vj:Stmt:=Z1 (top 58) 4
theorem Ov:#[aa,Vj]:=fnS
theorem Ow(F:#[g,"check_room","Season.check_room",Vj])(T:#[j]):FnOk P w K mg base #[f] 1 f fd ["self"] #[e,Ai]:=by
 refine #[k,Ov];obtain⟨A',S,rfl,SA,h⟩:=h;refine⟨_,(Zd (Z2 (Zp zdv (Zm (cL K) (by rfl) T.zo5 PySem.boot_len (Za (Zs (K:=K) rfl (pv 0) rfl) Zb)) (Wz rfl T.zrv) (Zt _))
  (Zd (Xk Xj rfl T.zuh rfl (Za (Ve (Z5 (W4 (Wz rfl T.zrv)) (Z5 (Xv ⋯) Vd)) ⋯) Zb)))
  Zo)),?_⟩
 obtain⟨⟨dx,v,a1,a2⟩,b,c,d,f,⟨us,g1,g2⟩,nd,np⟩:=id SA;refine⟨_,rfl,A'.p,a.zov,dx,_,_,rfl,a1,T.zow,T.zqe,U6,A'.lt,_,rfl,#[x,g1],_,_,rfl,rfl,_,rfl,?_⟩;rw[g2.length];refine itD (fun hc=>?_) fun hc=>?_
 ·rw[if_pos ⋯] at h;exact⟨.inl ⟨_,rfl,Yl ⋯⟩,fun z=>⟨sz1,h⟩⟩
 ·rw[if_neg ⋯] at h;exact h
abbrev Rp:Stmt:=Z1 (top 58) 5
theorem E2:#[n,["self","word","number","at"],["self","word","number","at"],Rp]:=fnS
theorem E3(F:#[g,"note","Season.note",Rp])(T:#[j]):FnOk P w K mg base #[f] 1 f fd ["self","word","number","at"] #[e,Aj]:=by
 refine #[k,E2];obtain⟨A',S,w',n,i,rfl,SA,hz,h⟩:=h;refine⟨_,Zd (Y6 #[V,Zs,0] (Yc (Za (Yc (Za (pv 1) (Za (pv 2) (Za (pv 3) Zb)))) (Za (Zs (K:=K) rfl (pv 0) rfl) Zb)))),?_⟩;obtain⟨⟨dx,v,a1,a2⟩,b,c,⟨kvs,d1,d2⟩,⟨vs,f1,f2⟩,⟨us,g1,g2⟩,nd,np⟩:=id SA;refine⟨_,rfl,A'.p,a.zov,dx,_,_,rfl,a1,T.zow,T.zqe,U6,A'.lt,us,rfl,g1,?_⟩;refine⟨_,rfl,_,rfl,_,rfl,sz3,fun t1 ht1=>?_⟩;refine al (upd _ t1 _) ht1 rfl fun H1 TH1 s1=>?_;have q1:H1 t1=some (.tup (W2 (w',n,i))):=TH1;refine⟨_,rfl,A'.p,a.zov,dx,_,_,rfl,s1 _ _ a1,T.zow,T.zpx,W6,sz2,fun t2 ht2=>?_⟩;refine al (upd _ t2 _) ht2 rfl fun H2 q2 s2=>?_;have q12:=s2 _ _ q1;have s12:=s1.trans s2;refine⟨us,s12 _ _ g1,by have:=g2.length;have:=T4;omega,?_⟩;have fr:FrS A' H (upd H2 A'.lt (.lst (us++[.ref t2]))):=fun b o e hb=>by
  rw[Zj #[ah,hb]];exact s12 _ _ e
 have kt:=SA.tups fr;have kp:∀ x o,x≠A'.lt->H x=#[c]->upd H2 A'.lt (.lst (us++[.ref t2])) x=#[c]:=fun x o hx e=>by rw[Zj hx];exact s12 _ _ e
 have kt2:∀ t xs,H2 t=#[z,xs]->upd H2 A'.lt (.lst (us++[.ref t2])) t=#[z,xs]:=fun t xs e=>by
  rw[Zj (Y2 e (s12 _ _ g1) (fun z=>nomatch z))];exact e
 have ko:∀ x o,x∉A'.fp->H x=#[c]->upd H2 A'.lt (.lst (us++[.ref t2])) x=#[c]:=fun x o hx e=>fr x o e hx;have nd':=nd;simp only[SAd.fp,zys,zx8,zy4,or_false,not_or] at nd';obtain⟨⟨n1,n2,n3,n4,n5,n6⟩,⟨n7,n8,n9,n10,n11⟩,⟨n12,n13,n14,n15⟩,⟨n16,n17,n18⟩,⟨n19,n20⟩,n21,_⟩:=nd';have npt:A'.pr≠A'.lt/\A'.pl≠A'.lt:=⟨#[ah,np.1],#[ah,np.2]⟩;refine h _ ⟨⟨dx,v,kp _ _ n6 a1,a2.keep ko kt⟩,b.keep (fun o e=>kp _ o npt.1 e) (fun o e=>kp _ o n11 e) kt,c.keep (fun o e=>kp _ o npt.2 e) (fun o e=>kp _ o n15 e) (fun o e=>kp _ o n18 e) kt,⟨kvs,kp _ _ n20 d1,d2⟩,⟨vs,kp _ _ n21 f1,f2.keep ko kt⟩,⟨us++[.ref t2],Ze,?_⟩,nd,np⟩ fr;exact(g2.keep ko kt).snoc (kt2 _ _ q2) (kt2 _ _ q12) (a2.keep ko kt)
abbrev Ws:Stmt:=Z1 (top 58) 6
theorem Qa:#[aa,Ws]:=fnS
theorem Qb(F:#[g,"sheet_at_hand","Season.sheet_at_hand",Ws])(T:#[j]):FnOk P w K mg base #[f] 1 f fd ["self"] #[e,T6]:=by
 refine #[k,Qa];obtain⟨A',S,rfl,SA,h1,h2⟩:=h;refine⟨_,(Zc (Z2 (Zp P8 #[V,Zs,0] Y3 (Zt _))
  (Zd (Xk Xj rfl T.zuj rfl (Za Zr Zb)))
  Zo)
 (Zd (Zl (Zs (K:=K) rfl (pv 0) rfl)))),?_⟩
 obtain⟨⟨dx,v,a1,a2⟩,b,c,_⟩:=id SA;refine⟨_,rfl,A'.p,a.zov,dx,_,_,rfl,a1,T.zow,T.zpx,W6,rfl,_,rfl,?_⟩;cases hc:S.cur with
 | none =>
   rw[hc] at a2;have a2:v=.non:=a2;rw[a2];exact iteT ⟨sz1,h1 hc⟩
 | some s =>
   rw[hc] at a2;obtain⟨q,rfl,hs⟩:=a2;refine iteF ?_;exact⟨_,rfl,A'.p,a.zov,dx,_,_,rfl,a1,T.zow,T.zpx,W6,h2 s q hc hs⟩
abbrev Ub:Stmt:=Z1 (top 58) 7
theorem Mx:#[n,["self","at"],["self","at"],Ub]:=fnS
theorem My(F:#[g,"sheet_of","Season.sheet_of",Ub])(T:#[j])(zo9:Zq P w K mg base a.zov "check_round" 1 ["self","at"] #[e,Gy])(zpa:Zq P w K mg base a.zoz "over" 1 ["self"] (Ky a.zoz))(zox:Zq P w K mg base a.zov "at_hand" 2 ["self"] #[e,Vm])(zo1:Zq P w K mg base a.zov "sheet_at_hand" 1 ["self"] #[e,T6]):FnOk P w K mg base #[f] 3 f fd ["self","at"] #[e,Uq]:=by
 refine #[k,Mx];obtain⟨A',S,i,rfl,SA,si,hol,h⟩:=h;refine⟨_,(Zc (Z7 (Yj (pv 0) T.zow zo9 (hr.mono ⋯) Zi (Za (pv 1) Zb)))
 (Zc (Z2 (Zp zg1 (pv 1) (Ye (Zs (K:=K) rfl (pv 0) rfl) T.zpo zpa (hr.mono ⋯) Zi) (Zt _))
  (Zd (Zl (pI (iL K) (Zs (K:=K) rfl (pv 0) rfl) (Zu Rf (pv 1) Zf))))
  Zo)
 (Zc (Z2 (Zp Tu (pv 1) (Ye (pv 0) T.zow zox (hr.mono ⋯) Zi) (Zt _))
  (Zd (Xk Xj rfl T.zuj rfl (Za (Ve (Z5 (Xv ⋯) (Z5 (W4 (pv 1)) (Z5 (Xv ⋯) Vd))) ⋯) Zb)))
  Zo)
 (Zd (Zl (Ye (pv 0) T.zow zo1 (hr.mono ⋯) Zi)))))),?_⟩
 obtain⟨⟨dx,v,a1,a2⟩,b,c,d,⟨vs,f1,f2⟩,_⟩:=id SA;obtain⟨⟨dxl,hpl⟩,_⟩:=id c;refine⟨_,rfl,A'.p,dx,_,rfl,a1,Z6 ⋯,_,rfl,A',S,i,rfl,SA,si,?_⟩;refine it2 h (fun _ z=>z) fun hn h=>?_;refine⟨_,rfl,_,rfl,A'.p,a.zov,dx,_,_,rfl,a1,T.zow,T.zql,V0,A'.pl,dxl,_,rfl,hpl,J6 ⋯ ⋯,A'.pl,A'.lr,A'.ld,S.led,rfl,c,_,_,rfl,rfl,_,rfl,?_⟩;refine itD (fun hc=>?_) fun hc=>?_
 ·have hk:(i-1).toNat<S.old.length:=by omega
  have hs:Wq S i=some (S.old[(i-1).toNat]'hk):=by unfold Wq;rw[if_pos hc];exact zx2 hk
  obtain⟨q,e1,e2⟩:=f2.getR (zx2 hk);exact⟨_,rfl,A'.p,a.zov,dx,_,_,rfl,a1,T.zow,T.zta,Bi,_,rfl,_,_,rfl,rfl,A'.ls,_,_,_,rfl,rfl,SqL.of f1,(show atI vs (i-1)=some (.ref q) by rw[show i-1=(((i-1).toNat:Nat):Int) by omega];exact Z4 e1),h.2 _ q hs e2⟩
 ·refine Zx ?_;refine⟨_,rfl,_,rfl,A'.p,dx,_,rfl,a1,Z6 ⋯,A',S,rfl,SA,_,_,rfl,rfl,_,rfl,?_⟩;refine itD (fun hc2=>?_) fun hc2=>?_
  ·exact⟨_,rfl,.inl ⟨_,rfl,si⟩,fun z=>⟨sz1,h.1 (by unfold Wq;rw[if_neg hc,if_pos (by unfold atV at hc2;omega)])⟩⟩
  ·have hs:Wq S i=S.cur:=by unfold Wq;rw[if_neg hc,if_neg (by unfold atV at hc2;omega)]
   exact⟨_,rfl,A'.p,dx,_,rfl,a1,Z6 ⋯,A',S,rfl,SA,fun hz=>h.1 (by rw[hs];exact hz),fun s q hz hq=>h.2 s q (by rw[hs];exact hz) hq⟩
abbrev Vv:Stmt:=Z1 (top 58) 8
theorem Wh:#[n,["self","listed","people","at","out"],["self","listed"],Vv]:=fnS
theorem Np(F:#[g,"takers_of","Season.takers_of",Vv])(T:#[j])(zps:Zq P w K mg base a.zo2 "numbers" 1 ["self"] #[e,Mb])(zp3:Zq P w K mg base a.zo2 "person" 3 #[Q] #[e,Fn])(zox:Zq P w K mg base a.zov "at_hand" 2 ["self"] #[e,Vm])(zud:Zz P w K mg base "takers" 4 ["people","match","out","ledger","rest"] (zay K a.zoz)):FnOk P w K mg base #[f] 5 f fd ["self","listed"] #[e,Mf]:=by
 refine #[k,Wh];obtain⟨A',S,l,ts,ms,rfl,SA,hl,tl,hml,hpl,hsm,h⟩:=h;have hu:=We hr;refine⟨_,(Zc (pS 2 Wh.nd (Ww rfl (cT ["self"] [0]) (Z9 (K:=K) rfl (Ye #[V,Zs,0] T.zph zps (hr.mono ⋯) Zi)) (fun _ _ _ _ _=>Wn) fun _ _ _ _ _=>(Yj #[V,Zs,1] T.zph zp3 (hr.mono ⋯) zau (Za (pv 0) Zb))))
 (Zc (pS 3 Wh.nd (Ye (pv 0) T.zow zox (hr.mono ⋯) Zi))
 (Zc (pS 4 Wh.nd (Ww rfl (cT ["at","self"] [3,0]) (Z9 (K:=K) rfl (Ye (Zs (K:=K) rfl (pv 0) rfl) T.zph zps (hr.mono ⋯) Zi)) (fun _ _ _ _ _=>Sz (Qf (N3 hu (Yc (Za (pv 1) (Za (pv 0) Zb))) #[V,Zs,2]))) (fun _ _ _ _ _=>(pv 0))))
 (Zd (Zl (Ww rfl (cT ["people","out","self"] [2,4,0]) (Z9 (K:=K) rfl (pv 1)) (fun _ _ _ _ _=>Wn) (fun _ _ _ _ _=>(zd5 zud (hr.mono ⋯) zau rfl (Za (pv 1) (Za (pv 0) (Za (pv 2) (Za #[V,Zs,3] (Za #[V,Zs,3] Zb))))))))))))),?_⟩
 obtain⟨⟨dx,v,a1,a2⟩,b,c,⟨kvs,d1,d2⟩,_⟩:=id SA;obtain⟨⟨dxr,kvr,hpr,hdr,en⟩,ndr⟩:=id b;refine⟨_,rfl,A'.p,a.zov,dx,_,_,rfl,a1,T.zow,T.zp0,X1,A'.pr,dxr,_,rfl,hpr,Xe.no ⋯,A'.pr,A'.dr,S.ppl,rfl,b,fun ln hln=>?_⟩;refine al (upd _ ln _) hln rfl fun H1 q1 s1=>?_;have hnl:(S.ppl.map fun x=>V.int x.1).length=S.ppl.length:=by rw[zx1]
 refine⟨ln,rfl,⟨_,SqL.of q1⟩,X0 (K:=K) (xs:=S.ppl.map fun x=>V.int x.1) (fun i ys H'=>#[p]/\Same H1 H'/\Z8 H' ys ((S.ppl.take i).map pV)/\ys.length=i) ⟨s1,Same.refl _,.nil,rfl⟩ (fun i ys H' _ ⟨_,z,_⟩=>#[K,z,q1]) (szN ⋯) (fun i ys H' ⟨_,_,_,e⟩=>by omega) ?_ ?_⟩
 ·rintro i x ys H' hx ⟨sh,s1',tl',hyl⟩;have hi:i<S.ppl.length:=by have:=(zx3.mp hx).1;omega
  have hpi:S.ppl[i]?=some (S.ppl[i]'hi):=zx2 hi;have etk:S.ppl.take (i+1)=S.ppl.take i++[S.ppl[i]'hi]:=zyl hi;have hmem:S.ppl[i]'hi∈S.ppl:=zyx hi;have ex:x=.int (S.ppl[i]'hi).1:=by rw[zx5,hpi] at hx;exact(Option.some.inj hx).symm
  generalize (S.ppl[i]'hi)=pp at hpi etk hmem ex;subst ex;unfold tYes;dsimp only;rw[if_pos rfl];refine⟨_,rfl,A'.p,a.zov,dx,_,_,rfl,sh _ _ a1,T.zow,T.zp0,X1,A'.pr,dxr,_,rfl,sh _ _ hpr,Xe.no ⋯,_,rfl,A'.pr,A'.dr,S.ppl,pp.1,rfl,b.same sh,hsm pp hmem,fun z=>absurd (zya.mpr ⟨pp,hmem,rfl⟩) z,fun g c' t H2 hm ht s2 _=>?_⟩;have epp:=Ak b.nd hm hmem rfl;rw[epp] at ht;refine⟨sh.trans s2,s1'.trans s2,?_,by rw[zx4,hyl];rfl⟩;rw[etk,zx7];exact(tl'.same s2).snoc ht
 rintro ys H2 ⟨sh2,s12,tl2,hyl⟩ lp hlp;rw[hnl,zyi] at tl2;refine #[F,lp,hlp,fun H3 q3 SH3=>?_];have s3:=sh2.trans SH3;have tl3:=tl2.same SH3;have SA3:=SA.same s3;refine⟨_,rfl,A'.p,dx,_,rfl,s3 _ _ a1,Z6 ⋯,A',S,rfl,SA3,?_⟩;refine⟨_,rfl,A'.p,a.zov,dx,_,_,rfl,s3 _ _ a1,T.zow,T.zp0,X1,A'.pr,dxr,_,rfl,s3 _ _ hpr,Xe.no ⋯,A'.pr,A'.dr,S.ppl,rfl,b.same s3,fun ln4 hln4=>?_⟩;refine #[F,ln4,hln4,fun H4 q4 s4=>?_];refine⟨ln4,rfl,⟨_,SqL.of q4⟩,X0 (K:=K) (xs:=S.ppl.map fun x=>V.int x.1) (fun i ys H'=>Same H4 H'/\ys=((S.ppl.take i).filter (pIn S.out (atV S))).map fun x=>V.int x.1) #[y,Same.refl _] (fun i ys H' _ ⟨z,_⟩=>#[K,z,q4]) (szN ⋯) (fun i ys H' ⟨_,e⟩=>by rw[e,zx1];exact zyg (zyw _ _) (zzc _ _)) ?_ ?_⟩
 ·rintro i x zs H' hx ⟨s4',rfl⟩;have hi:i<S.ppl.length:=by have:=(zx3.mp hx).1;omega
  have hpi:S.ppl[i]?=some (S.ppl[i]'hi):=zx2 hi;have etk:S.ppl.take (i+1)=S.ppl.take i++[S.ppl[i]'hi]:=zyl hi;have ex:x=.int (S.ppl[i]'hi).1:=by rw[zx5,hpi] at hx;exact(Option.some.inj hx).symm
  generalize (S.ppl[i]'hi)=pp at hpi etk ex;subst ex;refine⟨_,rfl,_,rfl,sz2,fun t ht=>?_⟩;refine #[F,t,ht,fun H5 TH5 s5=>?_];have q5:H5 t=some (.tup (([inl (atV S),inl pp.1]:List Key).map kV)):=TH5;have sh5:=s3.trans (s4.trans (s4'.trans s5));refine⟨_,rfl,A'.p,a.zov,dx,_,_,rfl,sh5 _ _ a1,T.zow,T.zrk,R4,A'.da,_,rfl,DGet.t (k:=[inl (atV S),inl pp.1]) (sh5 _ _ d1) q5,_,rfl,?_⟩;rw[d2.isSome];have e2:∀ ws,((S.ppl.take (i+1)).filter (pIn S.out (atV S))).map (fun x=>V.int x.1)=((S.ppl.take i).filter (pIn S.out (atV S))).map (fun x=>V.int x.1)++ws↔ws=if pIn S.out (atV S) pp then [V.int pp.1] else []:=fun ws=>by
   rw[etk,zzk,zx7,List.append_cancel_left_eq];cases q:pIn S.out (atV S) pp<;>simp[q,eq_comm]
  refine itB (fun hb=>?_) fun hb=>?_
  ·exact⟨_,rfl,s4'.trans s5,((e2 [V.int pp.1]).mpr (by rw[show pIn S.out (atV S) pp=true from hb];rfl)).symm⟩
  ·refine⟨s4'.trans s5,?_⟩;have:=(e2 []).mpr (by rw[show pIn S.out (atV S) pp=false from hb];rfl);rw[z0e] at this;exact this.symm
 rintro zs H5 ⟨s45,rfl⟩ lo hlo;rw[hnl,zyi];have s6:=s45.trans (Zk (o:=.lst (outV S)) hlo);have q6:upd H5 lo (.lst (outV S)) lo=some (.lst (outV S)):=Ze;show Wu 4 (V.ref lo) _ (upd H5 lo (.lst (outV S))) _;generalize upd H5 lo (.lst (outV S))=H6 at s6 q6;have s36:=s4.trans s6;have s06:=s3.trans s36;have hl6:=s06 _ _ hl;have hts:ts.length=ms.length:=by rw[tl.length,zx1]
 refine⟨_,rfl,l,rfl,⟨_,SqL.of hl6⟩,X0 (K:=K) (xs:=ts) (fun i ys H'=>Same H6 H'/\∃ ls,ys=ls.map V.ref/\ILs H' ls ((mayS S ms).take i)/\ls.length=i/\∀ x∈ls,H x=none) ⟨Same.refl _,[],rfl,.nil,rfl,by simp⟩ (fun i ys H' _ ⟨z,_⟩=>#[K,z,hl6]) (szN ⋯) (fun i ys H' ⟨_,ls,e1,_,e2,_⟩=>by rw[e1,zx1];omega) ?_ ?_⟩
 ·rintro i x ys' H' hx ⟨s6',ls,rfl,il,hll,hfr⟩;obtain⟨tm,m,rfl,hm,htm⟩:=Ni tl hx;have s0:=s06.trans s6';unfold tYes;dsimp only;rw[if_pos rfl];refine⟨_,rfl,_,rfl,_,rfl,_,rfl,A'.p,a.zov,dx,_,_,rfl,s0 _ _ a1,T.zow,T.zql,V0,_,rfl,A'.p,a.zov,dx,_,_,rfl,s0 _ _ a1,T.zow,T.zum,zes,lp,lo,tm,A'.pl,A'.lr,A'.ld,S.led,ys,S.ppl,outV S,m.1,m.2.1,m.2.2,S.rest,rfl,(s36.trans s6') _ _ q3,tl3.same (s36.trans s6'),s6' _ _ q6,zik S,s0 _ _ htm,c.same s0,by omega,fun l2 H2 hl2 s2 f2=>?_⟩;rw[zl6] at hl2;refine⟨s6'.trans s2,ls++[l2],by rw[zx7];rfl,?_,by rw[zx4,hll];rfl,fun y hy=>?_⟩
  ·have e:(mayS S ms).take (i+1)=(mayS S ms).take i++[Fq S m]:=by
    unfold mayS;rw[zzd,zx5,hm];rfl
   rw[e];exact(il.same s2).snoc hl2
  ·rcases zyd.mp hy with z|z
   ·exact hfr y z
   ·rw[zx6.mp z];exact s0.free f2
 ·rintro ys' H' ⟨s6',ls,rfl,il,hll,hfr⟩ l' hl';have hmy:(mayS S ms).length=ms.length:=by unfold mayS;rw[zx1]
  rw[hts,<- hmy,zyi] at il;have s0:=s06.trans s6';exact h l' ls _ Ze (il.same (Zk hl')) (s0.trans (Zk hl')) (s0.free hl') hfr
abbrev Sk:Stmt:=Z1 (top 58) 9
theorem Hu:#[n,#[ae],#[ae],Sk]:=fnS
theorem Hv(F:#[g,"enrol","Season.enrol",Sk])(T:#[j])(zpj:Zq P w K mg base a.zov "check_undrawn" 4 ["self"] #[e,K6])(zpp:Zq P w K mg base a.zo2 "check_new" 2 #[ae] #[e,Ma])(zpb:Zq P w K mg base a.zov "check_room" 1 ["self"] #[e,Ai])(zpu:Zq P w K mg base a.zov "note" 1 ["self","word","number","at"] #[e,Aj])(zox:Zq P w K mg base a.zov "at_hand" 2 ["self"] #[e,Vm])(zsv:Zq P w K mg base a.zo2 "add" 3 #[ae] #[e,zij]):FnOk P w K mg base #[f] 5 f fd #[ae] #[e,zeu]:=by
 refine #[k,Hu];obtain⟨A',S,n,g,c0,rfl,SA,sm,hz,hz2,h⟩:=h;refine⟨_,(Zc (Z7 (Ye (pv 0) T.zow zpj (hr.mono ⋯) Zi))
 (Zc (Z7 (Yj (Zs (K:=K) rfl (pv 0) rfl) T.zph zpp (hr.mono ⋯) Zi (Za (pv 1) (Za (pv 2) (Za (pv 3) Zb)))))
 (Zc (Z7 (Ye (pv 0) T.zow zpb (hr.mono ⋯) Zi))
 (Zc (Z7 (Yj (pv 0) T.zow zpu (hr.mono ⋯) Zi (Za Zr (Za (pv 1) (Za (Ye (pv 0) T.zow zox (hr.mono ⋯) Zi) Zb)))))
 (Zd (Z7 (Yj (Zs (K:=K) rfl (pv 0) rfl) T.zph zsv (hr.mono ⋯) Zi (Za (pv 1) (Za (pv 2) (Za (pv 3) Zb)))))))))),?_⟩
 obtain⟨⟨dx,v,a1,a2⟩,b,c,_⟩:=id SA;obtain⟨⟨dxr,kvr,hpr,hdr,en⟩,ndr⟩:=id b;refine⟨_,rfl,A'.p,dx,_,rfl,a1,Z6 ⋯,A',S,rfl,SA,?_⟩;refine it2 h (fun _ z=>z) fun h1 h=>it2 h (fun _ z=>z) fun h2 h=>?_;refine⟨_,rfl,A'.p,a.zov,dx,_,_,rfl,a1,T.zow,T.zp0,X1,A'.pr,dxr,_,rfl,hpr,Xe.no ⋯,_,rfl,_,rfl,_,rfl,A'.pr,A'.dr,S.ppl,n,g,c0,rfl,b,sm,?_⟩;refine it2 h (fun _ z=>z) fun h3 h=>it2 h (fun _ z=>z) fun h4 h=>it2 h (fun _ z=>z) fun h5 h=>?_;refine⟨_,rfl,A'.p,dx,_,rfl,a1,Z6 ⋯,A',S,rfl,SA,?_⟩;refine it2 h (fun _ z=>z) fun h6 h=>?_;refine⟨_,rfl,A'.p,dx,_,rfl,a1,Z6 ⋯,_,rfl,_,rfl,A'.p,dx,_,rfl,a1,Z6 ⋯,A',S,rfl,SA,A',S,"enrol",n,atV S,rfl,SA,hz,fun H1 SA1 f1=>?_⟩;obtain⟨⟨dx1,v1,a11,a12⟩,b1,c1,_⟩:=id SA1;obtain⟨⟨dxr1,kvr1,hpr1,hdr1,en1⟩,ndr1⟩:=id b1;refine⟨_,rfl,A'.p,a.zov,dx1,_,_,rfl,a11,T.zow,T.zp0,X1,A'.pr,dxr1,_,rfl,hpr1,Xe.no ⋯,_,rfl,_,rfl,_,rfl,A'.pr,A'.dr,S.ppl,n,g,c0,rfl,b1,sm,hz2,?_⟩;rw[if_neg h3,if_neg h4,if_neg h5];intro H2 R2 k2;obtain⟨SA2,f2⟩:=SA1.setRos R2 k2;exact h H2 SA2 (f1.trans f2)
abbrev Uv:Stmt:=Z1 (top 58) 10
theorem Ra:#[n,["self","matches","listed"],["self","matches"],Uv]:=fnS
theorem L8(F:#[g,"draw_up","Season.draw_up",Uv])(T:#[j])(zpj:Zq P w K mg base a.zov "check_undrawn" 4 ["self"] #[e,K6])(zt5:Zz P w K mg base "checked" 3 ["matches"] (Ft K (ca a)))(zpb:Zq P w K mg base a.zov "check_room" 1 ["self"] #[e,Ai])(zpu:Zq P w K mg base a.zov "note" 1 ["self","word","number","at"] #[e,Aj])(zox:Zq P w K mg base a.zov "at_hand" 2 ["self"] #[e,Vm])(zsn:Zz P w K mg base "drawn_sheet" 4 ["listed","lists"] #[e,zep])(zpr:Zq P w K mg base a.zov "takers_of" 5 ["self","listed"] #[e,Mf])(zqo:Zq P w K mg base a.zoy "goes" 1 ["self"] #[e,Fo]):FnOk P w K mg base #[f] 6 f fd ["self","matches"] (zbi K (ca a)):=by
 refine #[k,Ra];obtain⟨A',S,b,ts,ms,rfl,SA,hs,tl,sm,hml,hz,po,h⟩:=h;refine⟨_,(Zc (Z7 (Ye (pv 0) T.zow zpj (hr.mono ⋯) Zi))
 (Zc (pS 2 Ra.nd (pF zt5 hr (Za (pv 1) Zb)))
 (Zc (Z7 (Ye (pv 0) T.zow zpb (hr.mono ⋯) Zi))
 (Zc (Z7 (Yj (pv 0) T.zow zpu (hr.mono ⋯) Zi (Za Zr (Za (Zm (cL K) (by rfl) T.zo5 PySem.boot_len (Za (pv 2) Zb)) (Za (Ye (pv 0) T.zow zox (hr.mono ⋯) Zi) Zb)))))
 (Zc (Xg (K:=K) rfl (pv 0) (pF zsn hr (Za (pv 2) (Za (Yj (pv 0) T.zow zpr (hr.mono ⋯) Zi (Za (pv 2) Zb)) Zb))) rfl)
 (Zd (Zl (Ye (Zs (K:=K) rfl (pv 0) rfl) T.zo6 zqo (hr.mono ⋯) Zi)))))))),?_⟩
 obtain⟨⟨dx,v,a1,a2⟩,br,cl,_⟩:=id SA;have hts:ts.length=ms.length:=by rw[tl.length,zx1]
 refine⟨_,rfl,A'.p,dx,_,rfl,a1,Z6 ⋯,A',S,rfl,SA,?_⟩;refine it2 h (fun _ z=>z) fun h1 h=>it2 h (fun _ z=>z) fun h2 h=>?_;refine⟨_,rfl,b,ts,ms,rfl,hs,tl,sm,hml,h.1,h.2.1,h.2.2.1,fun g1 g2 g3 l1 hl1=>?_⟩;have h4:=h.2.2.2 g1 g2 g3;refine al (upd _ l1 _) hl1 rfl fun H1 q1 s1=>?_;have SA1:=SA.same s1;have a11:=s1 _ _ a1;refine⟨_,rfl,A'.p,dx,_,rfl,a11,Z6 ⋯,A',S,rfl,SA1,?_⟩;refine Du (fun z=>h4.1 z H1 s1) fun hroom=>?_;refine⟨_,rfl,A'.p,dx,_,rfl,a11,Z6 ⋯,_,rfl,l1,_,rfl,#[x,q1],_,rfl,A'.p,dx,_,rfl,a11,Z6 ⋯,A',S,rfl,SA1,A',S,"draw up",(ts.length:Nat),atV S,rfl,SA1,hz,fun H2 SA2 f2=>?_⟩;rw[hts] at SA2;have ok1:l1∉A'.fp:=SA.newOk l1 hl1;have q12:=f2 _ _ q1 ok1;have tl2:=(tl.same s1).mono (SA1.tups f2);obtain⟨⟨dx2,v2,a21,a22⟩,br2,_⟩:=id SA2;refine⟨_,rfl,_,rfl,A'.p,dx2,_,rfl,a21,Z6 ⋯,_,rfl,A',_,l1,ts,ms,rfl,SA2,q12,tl2,by omega,zyg po.2 ⋯,po.small,fun l2 ls H3 h3 il3 s3 f3 fl3=>?_⟩;have SA3:=SA2.same s3;have mo:Ph (mayS S ms) (S.ppl.map (·.1)):=po.may br2.nd g1;refine⟨(·∉A'.fp),l1,l2,ts,ls,ms,mayS S ms,_,rfl,s3 _ _ q12,tl2.same s3,h3,il3,ok1,SA2.newOk l2 f3,fun x hx=>SA2.newOk x (fl3 x hx),SA3.newOk,mo,fun q gv H4 ShA FP SP s4 fq=>?_⟩;have SA4:=SA3.same s4;obtain⟨⟨dx4,v4,a41,a42⟩,_⟩:=id SA4;refine⟨_,rfl,A'.p,a.zov,dx4,_,rfl,a41,T.zow,T.zpx,(by show 8<1000;decide),?_⟩;obtain⟨SA5,f5,Sh5⟩:=SA4.newSheet a41 ShA;generalize upd H4 A'.p (.ins a.zov dx4 (putF "sheet" (.ref q) (seaF A' S.len S.rest v4)))=H5 at SA5 f5 Sh5;obtain⟨⟨dx5,v5,a51,a52⟩,_⟩:=id SA5;obtain⟨q',rfl,Sq⟩:=a52;obtain⟨dxq,m1,m2,m3,m4,hq'⟩:=ShAt.ins Sq;refine⟨_,rfl,A'.p,a.zov,dx5,_,_,rfl,a51,T.zow,T.zpx,W6,q',dxq,_,rfl,hq',Wx ⋯ ⋯ ⋯ ⋯,(·∉A'.fp),q',_,rfl,Sq,fun l H6 hl s6 fl=>?_⟩;have fr5:FrS A' H H5:=(FrS.of A' s1).trans (f2.trans ((FrS.of A' (s3.trans s4)).trans f5));exact h4.2 ⋯ l gv H6 hl (SA5.same s6) FP SP (fr5.trans (FrS.of A' s6)) (fr5.free SA5 fl)
abbrev Rq:Stmt:=Z1 (top 58) 11
theorem E4:#[n,["self","at","number"],["self","at","number"],Rq]:=fnS
theorem E5(F:#[g,"away","Season.away",Rq])(T:#[j])(zo9:Zq P w K mg base a.zov "check_round" 1 ["self","at"] #[e,Gy])(zpa:Zq P w K mg base a.zoz "over" 1 ["self"] (Ky a.zoz))(zo4:Zq P w K mg base a.zo2 "check_known" 1 #[Q] #[e,V5])(zpb:Zq P w K mg base a.zov "check_room" 1 ["self"] #[e,Ai])(zpu:Zq P w K mg base a.zov "note" 1 ["self","word","number","at"] #[e,Aj])(zox:Zq P w K mg base a.zov "at_hand" 2 ["self"] #[e,Vm])(zq8:Zq P w K mg base a.zov "step_in" 6 #[Q] #[e,zbj]):FnOk P w K mg base #[f] 7 f fd ["self","at","number"] #[e,zin]:=by
 refine #[k,E4];obtain⟨A',S,i,n,rfl,SA,si,sn,hz,hoz,po,hcur,h⟩:=h;have hu:=We hr;refine⟨_,(Zc (Z7 (Yj (pv 0) T.zow zo9 (hr.mono ⋯) Zi (Za (pv 1) Zb)))
 (Zc (Z2 (Zp zg1 (pv 1) (Ye (Zs (K:=K) rfl (pv 0) rfl) T.zpo zpa (hr.mono ⋯) Zi) (Zt _))
  (Zd (Xk Xj rfl T.zuz rfl (Za (Ve (Z5 (Xv ⋯) (Z5 (W4 (pv 1)) (Z5 (Xv ⋯) Vd))) ⋯) Zb)))
  Zo)
 (Zc (Z7 (Yj (Zs (K:=K) rfl (pv 0) rfl) T.zph zo4 (hr.mono ⋯) Zi (Za (pv 2) Zb)))
 (Zc (Z2 (Qf (N3 hu (Yc (Za (pv 1) (Za (pv 2) Zb))) (Zs (K:=K) rfl (pv 0) rfl)))
  (Zd (Xk Xj rfl T.zuq rfl (Za (Ve (Z5 (Xv ⋯) (Z5 (W4 (pv 2)) (Z5 (Xv ⋯) (Z5 (W4 (pv 1)) (Z5 (Xv ⋯) Vd))))) ⋯) Zb)))
  Zo)
 (Zc (Z7 (Ye (pv 0) T.zow zpb (hr.mono ⋯) Zi))
 (Zc (Z7 (Yj (pv 0) T.zow zpu (hr.mono ⋯) Zi (Za Zr (Za (pv 2) (Za (pv 1) Zb)))))
 (Zc (Yu hu (Zs (K:=K) rfl (pv 0) rfl) (Yc (Za (pv 1) (Za (pv 2) Zb))) Yn rfl)
 (Zc (Z2 (PW.pt (X3 (Zp Tu (pv 1) (Ye (pv 0) T.zow zox (hr.mono ⋯) Zi) (Zt _)) (Xh (Zp P8 (Zs (K:=K) rfl (pv 0) rfl) Y3 (Zt _)))))
  (Zd (Zl (Yd Zb)))
  Zo)
 (Zd (Zl (Yj (pv 0) T.zow zq8 (hr.mono ⋯) Zi (Za (pv 2) Zb)))))))))))),?_⟩
 show let y1:TS:=_;let y2:TS:=Z0 _ y1;let y3:TS:=Z0 _ y2;let y4:TS:=Z0 _ y3;let y5:TS:=Z0 _ y4;let y6:TS:=Z0 _ y5;let y7:TS:=Z0 _ y6;let y8:TS:=Z0 _ y7;Z0 _ y8 _ _ _;intro y1 y2 y3 y4 y5 y6 y7 y8;obtain⟨⟨dx,v,a1,a2⟩,br,cl,⟨kvs,d1,d2⟩,_⟩:=id SA;obtain⟨⟨dxl,hpl⟩,_⟩:=id cl;obtain⟨⟨dxr,kvr,hpr,hdr,en⟩,ndr⟩:=id br;refine⟨_,rfl,A'.p,dx,_,rfl,a1,Z6 ⋯,_,rfl,A',S,i,rfl,SA,si,?_⟩;refine it2 h (fun _ z=>z) fun h1 h=>?_;refine⟨_,rfl,_,rfl,A'.p,a.zov,dx,_,_,rfl,a1,T.zow,T.zql,V0,A'.pl,dxl,_,rfl,hpl,J6 ⋯ ⋯,A'.pl,A'.lr,A'.ld,S.led,rfl,cl,_,_,rfl,rfl,_,rfl,?_⟩;refine itD (fun hc=>?_) fun hc=>?_
 ·rw[if_pos hc] at h;exact#[aj,_,_,si,h]
 rw[if_neg hc] at h;refine Zx ?_;refine⟨_,rfl,A'.p,a.zov,dx,_,_,rfl,a1,T.zow,T.zp0,X1,A'.pr,dxr,_,rfl,hpr,Xe.no ⋯,_,rfl,A'.pr,A'.dr,S.ppl,n,rfl,br,sn,?_⟩;refine it2 h (fun hk h=>?_) fun _ z=>z;refine⟨_,rfl,_,rfl,sz2,fun t ht=>?_⟩;refine al (upd _ t _) ht rfl fun H1 TH1 s1=>?_;have q1:H1 t=some (.tup (([inl i,inl n]:List Key).map kV)):=TH1;have SA1:=SA.same s1;have a11:=s1 _ _ a1;refine⟨_,rfl,A'.p,a.zov,dx,_,_,rfl,a11,T.zow,T.zrk,R4,A'.da,_,rfl,DGet.t (k:=[inl i,inl n]) (s1 _ _ d1) q1,_,rfl,?_⟩;rw[d2.isSome];refine itD (fun hm=>?_) fun hm=>?_
 ·rw[if_pos hm] at h;exact⟨_,rfl,.inl ⟨_,rfl,sn⟩,_,rfl,.inl ⟨_,rfl,si⟩,fun z=>⟨sz1,h H1 s1⟩⟩
 rw[if_neg hm] at h;refine Zx ?_;refine⟨_,rfl,A'.p,dx,_,rfl,a11,Z6 ⋯,A',S,rfl,SA1,?_⟩;refine it2 h (fun _ z=>z H1 s1) fun h6 h=>?_;refine⟨_,rfl,A'.p,dx,_,rfl,a11,Z6 ⋯,_,rfl,_,rfl,A',S,"away",n,i,rfl,SA1,hz,fun H2 SA2 f2=>?_⟩;obtain⟨⟨dx2,v2,a21,a22⟩,br2,cl2,⟨kvs2,d21,d22⟩,_⟩:=id SA2;refine⟨_,rfl,A'.p,a.zov,dx2,_,_,rfl,a21,T.zow,T.zrk,R4,_,rfl,_,rfl,sz2,fun t2 ht2=>?_⟩;refine #[F,t2,ht2,fun H3 TH3 s3=>?_];have q3:H3 t2=some (.tup (([inl i,inl n]:List Key).map kV)):=TH3;have SA3:=SA2.same s3;refine⟨A'.da,_,rfl,DPut.t (k:=[inl i,inl n]) (s3 _ _ d21) q3 (by have:=d22.2;have h9:kvs2.length<=S.out.length:=this;have:=T4;omega),?_⟩;obtain⟨SA4,f4⟩:=SA3.setOut (out:=S.out++[(i,n)]) Ze (d22.put i n) (fun b o e hb=>by rw[Zj hb];exact e);generalize upd H3 A'.da (.dT (putK kvs2 [inl i,inl n] (.bl true)))=H4 at SA4 f4;have SA4:Zy (ca a) H4 A' (X6 S i n):=SA4;have fr4:FrS A' H H4:=(FrS.of A' s1).trans (f2.trans ((FrS.of A' s3).trans f4));obtain⟨⟨dx4,v4,a41,a42⟩,br4,_⟩:=id SA4;have empty:(S.cur=none\/atV S<i)->∀ l,H4 l=none->Q (.ref l) (upd H4 l (.lst [])):=fun hz l hl=>h.1 hz l _ Ze (SA4.same (Zk hl)) (fr4.trans (FrS.of A' (Zk hl))) (fr4.free SA4 hl);refine⟨_,rfl,_,rfl,A'.p,dx4,_,rfl,a41,Z6 ⋯,A',_,rfl,SA4,_,_,rfl,rfl,_,rfl,?_⟩;refine itD (fun hgt=>?_) fun hle=>?_
 ·refine iteT ?_;exact#[af,fun l hl=>empty (.inr hgt) l hl]
 have hat:i=atV S:=by
  have hle:¬ (atV S<i):=hle;unfold atV at hle ⊢;omega
 refine⟨_,rfl,A'.p,a.zov,dx4,_,_,rfl,a41,T.zow,T.zpx,W6,rfl,_,rfl,?_⟩;cases hc4:S.cur with
 | none =>
   have e4:v4=.non:=by
    have:ShO a.zoy (·∉A'.fp) H4 v4 S.cur:=a42;rw[hc4] at this;exact this
   rw[e4];refine iteT ?_;exact#[af,fun l hl=>empty (.inl hc4) l hl]
 | some s =>
   have e4:∃ q,v4=.ref q:=by
    have:ShO a.zoy (·∉A'.fp) H4 v4 S.cur:=a42;rw[hc4] at this;obtain⟨q,e,_⟩:=this;exact⟨q,e⟩
   obtain⟨q4,rfl⟩:=e4;refine #[S];obtain⟨hm20,FP,emay,hgz⟩:=hcur s hc4;have po4:Pj (X6 S i n):=po;have hgl:s.gv.length<=100:=by rw[FP.len,emay];unfold mayS;rw[zx1];omega
   refine⟨_,rfl,A'.p,dx4,_,rfl,a41,Z6 ⋯,_,rfl,A',X6 S i n,n,s,(X6 S i n).ppl.map (·.1),rfl,SA4,hc4,po4,hm20,FP.one,hgl,hgz,po4.may br4.nd hm20,fun hp l H5 hl SA5 f5 fl=>?_,fun p hp=>?_⟩
   ·exact h.2.1 s hat hc4 hp l H5 hl SA5 (fr4.trans f5) (fr4.free SA4 fl)
   ·have hgp:=Qs hp;refine⟨hgp,fun j hj=>FP.inj j p n hj hgp,?_,fun l us st e w' H5 hl tl CR SA5 f5 fl=>?_⟩
    ·rw[hat,T7,<- emay];exact To FP hgp
    ·exact h.2.2 s p hat hc4 hp l us st e w' H5 hl tl CR SA5 (fr4.trans f5) (fr4.free SA4 fl)
abbrev Uw:Stmt:=Z1 (top 58) 12
theorem Uc:#[n,["self","number","lists","fallen"],#[Q],Uw]:=fnS
theorem L9(F:#[g,"step_in","Season.step_in",Uw])(T:#[j])(zpr:Zq P w K mg base a.zov "takers_of" 5 ["self","listed"] #[e,Mf])(zp1:Zq P w K mg base a.zoy "matches" 1 ["self"] #[e,Oh])(zpt:Zq P w K mg base a.zoy "where" 2 #[Q] #[e,Nd])(zr4:Zq P w K mg base a.zoy "barred" 3 ["self","lists"] #[e,zba])(zqr:Zq P w K mg base a.zoy "fallen_out" 3 ["self","number","lists"] #[e,zbb])(zqb:Zq P w K mg base a.zoy "chains" 1 ["self"] #[e,Md]):FnOk P w K mg base #[f] 6 f fd #[Q] #[e,zbj]:=by
 refine #[k,Uc];obtain⟨A',S,n,s,nu,rfl,SA,hc,po,hml,ho,hgl,hgz,mo,h1,h2⟩:=h;refine⟨_,(Zc (pS 2 Uc.nd (Yj (pv 0) T.zow zpr (hr.mono ⋯) Zi (Za (Ye #[V,Zs,0] T.zo6 zp1 (hr.mono ⋯) Zi) Zb)))
 (Zc (Z2 (Zp P8 (Yj (Zs (K:=K) rfl (pv 0) rfl) T.zo6 zpt (hr.mono ⋯) Zi (Za (pv 1) Zb)) Y3 (Zt _))
  (Zc (Xg (K:=K) rfl (pv 0) (Yj (Zs (K:=K) rfl (pv 0) rfl) T.zo6 zr4 (hr.mono ⋯) Zi (Za (pv 2) Zb)) rfl)
  (Zd (Zl (Yd Zb))))
  Zo)
 (Zc (Xg (K:=K) rfl (pv 0) (Yj (Zs (K:=K) rfl (pv 0) rfl) T.zo6 zqr (hr.mono ⋯) Zi (Za (pv 1) (Za (pv 2) Zb))) rfl)
 (Zc (pS 3 Uc.nd (Ye (Zs (K:=K) rfl (pv 0) rfl) T.zo6 zqb (hr.mono ⋯) Zi))
 (Zd (Zl (pI (iU K) (pI (iL K) (pv 3) (Pa U8 Zf)) Zf))))))),?_⟩
 obtain⟨⟨dx,v,a1,a2⟩,br,cl,_⟩:=id SA;rw[hc] at a2;obtain⟨q,rfl,Sq⟩:=a2;obtain⟨dxq,m1,m2,m3,m4,hq⟩:=ShAt.ins Sq;refine⟨_,rfl,A'.p,dx,_,rfl,a1,Z6 ⋯,_,rfl,A'.p,a.zov,dx,_,_,rfl,a1,T.zow,T.zpx,W6,q,dxq,_,rfl,hq,Wx ⋯ ⋯ ⋯ ⋯,(·∉A'.fp),q,s,rfl,Sq,fun l1 ts H1 hl1 tl s1 f1=>?_⟩;have SA1:=SA.same s1;refine⟨A',S,l1,ts,s.ms,rfl,SA1,hl1,tl,by omega,zyg po.2 ⋯,po.small,fun l2 ls H2 h3 il3 s2 f3 fl3=>?_⟩;have s12:=s1.trans s2;have SA2:=SA1.same s2;have Sq2:=Sq.same s12;refine⟨_,rfl,A'.p,a.zov,dx,_,_,rfl,s12 _ _ a1,T.zow,T.zpx,W6,q,dxq,_,rfl,s12 _ _ hq,Wx ⋯ ⋯ ⋯ ⋯,_,rfl,(·∉A'.fp),q,s,n,rfl,Sq2,ho,hgl,fun H3 s3=>?_⟩;have s13:=s12.trans s3;have SA3:=SA2.same s3;have Sq3:=Sq2.same s3;have il4:=il3.same s3;refine⟨rfl,_,rfl,?_⟩;cases hp:Wa s.gv n with
 | none =>
   refine iteT ?_;refine⟨_,rfl,A'.p,a.zov,dx,_,_,rfl,s13 _ _ a1,T.zow,T.zpx,W6,q,dxq,_,rfl,s13 _ _ hq,Wx ⋯ ⋯ ⋯ ⋯,_,rfl,(·∉A'.fp),q,l2,ls,mayS S s.ms,s,rfl,Sq3,s3 _ _ h3,il4,SA1.newOk l2 f3,fun x hx=>SA1.newOk x (fl3 x hx),SA3.newOk,fun q' H4 ShA s4 fq=>?_⟩;have SA4:=SA3.same s4;obtain⟨⟨dx4,v4,a41,a42⟩,_⟩:=id SA4;refine⟨_,rfl,A'.p,a.zov,dx4,_,rfl,a41,T.zow,T.zpx,(by show 8<1000;decide),?_⟩;obtain⟨SA5,f5,Sh5⟩:=SA4.newSheet a41 ShA;generalize upd H4 A'.p (.ins a.zov dx4 (putF "sheet" (.ref q') (seaF A' S.len S.rest v4)))=H5 at SA5 f5 Sh5;have fr5:FrS A' H H5:=(FrS.of A' (s13.trans s4)).trans f5;refine#[af,fun l hl=>?_];exact h1 hp l _ Ze (SA5.same (Zk hl)) (fr5.trans (FrS.of A' (Zk hl))) (fr5.free SA5 hl)
 | some p =>
   refine #[S];obtain⟨hgp,hun,FP,h3'⟩:=h2 p hp;refine⟨_,rfl,A'.p,a.zov,dx,_,_,rfl,s13 _ _ a1,T.zow,T.zpx,W6,q,dxq,_,rfl,s13 _ _ hq,Wx ⋯ ⋯ ⋯ ⋯,_,rfl,_,rfl,(·∉A'.fp),q,l2,ls,mayS S s.ms,nu,s,n,p,rfl,Sq3,s3 _ _ h3,il4,SA1.newOk l2 f3,fun x hx=>SA1.newOk x (fl3 x hx),SA3.newOk,mo,ho,hgp,hun,FP,by omega,fun q' st e w' H4 ShA CR s4 fq=>?_⟩;have SA4:=SA3.same s4;obtain⟨⟨dx4,v4,a41,a42⟩,_⟩:=id SA4;refine⟨_,rfl,A'.p,a.zov,dx4,_,rfl,a41,T.zow,T.zpx,(by show 8<1000;decide),?_⟩;obtain⟨SA5,f5,Sh5⟩:=SA4.newSheet a41 ShA;generalize upd H4 A'.p (.ins a.zov dx4 (putF "sheet" (.ref q') (seaF A' S.len S.rest v4)))=H5 at SA5 f5 Sh5;have fr5:FrS A' H H5:=(FrS.of A' (s13.trans s4)).trans f5;obtain⟨⟨dx5,v5,a51,a52⟩,_⟩:=id SA5;obtain⟨q5,rfl,Sq5⟩:=a52;obtain⟨dxq5,m51,m52,m53,m54,hq5⟩:=ShAt.ins Sq5;refine⟨_,rfl,A'.p,a.zov,dx5,_,_,rfl,a51,T.zow,T.zpx,W6,q5,dxq5,_,rfl,hq5,Wx ⋯ ⋯ ⋯ ⋯,(·∉A'.fp),q5,_,rfl,Sq5,by show (s.gaps++[(n,st)]).length<=1000;rw[zx4];show s.gaps.length+1<=1000;omega,fun l us H6 hl gl s6 fl=>?_⟩;obtain⟨vs',t,l',us',rfl,ht,hl',tl',ok',_⟩:=X5.unsnoc gl;refine⟨_,rfl,_,rfl,l,_,_,_,rfl,rfl,SqL.of hl,atI_last,t,_,_,_,rfl,rfl,SqT.of ht,rfl,?_⟩;exact h3' l' us' st e w' H6 hl' tl' CR (SA5.same s6) (fr5.trans (FrS.of A' s6)) (fr5.free SA5 ok')
abbrev Sl:Stmt:=Z1 (top 58) 13
theorem Pm:#[n,["self","sheet"],["self"],Sl]:=fnS
theorem Ga(F:#[g,"close","Season.close",Sl])(T:#[j])(zpg:Zq P w K mg base a.zov "check_not_over" 3 ["self"] #[e,K5])(zo1:Zq P w K mg base a.zov "sheet_at_hand" 1 ["self"] #[e,T6])(zr7:Zq P w K mg base a.zoz "write" 1 ["self","rows"] (za8 a.zoz))(zs5:Zq P w K mg base a.zoy "rows" 1 ["self"] #[e,zbd])(zpa:Zq P w K mg base a.zoz "over" 1 ["self"] (Ky a.zoz)):FnOk P w K mg base #[f] 4 f fd ["self"] #[e,zew]:=by
 refine #[k,Pm];obtain⟨A',S,rfl,SA,ht,hl,hol,hcur,h⟩:=h;refine⟨_,(Zc (Z7 (Ye (pv 0) T.zow zpg (hr.mono ⋯) Zi))
 (Zc (pS 1 Pm.nd (Ye (pv 0) T.zow zo1 (hr.mono ⋯) Zi))
 (Zc (Z7 (Yj (Zs (K:=K) rfl (pv 0) rfl) T.zpo zr7 (hr.mono ⋯) Zi (Za (Ye (pv 1) T.zo6 zs5 (hr.mono ⋯) Zi) Zb)))
 (Zc (Y6 (Zs (K:=K) rfl (pv 0) rfl) (pv 1))
 (Zc (Xg (K:=K) rfl (pv 0) Y3 rfl)
 (Zc (Xg (K:=K) rfl (pv 0) (Yd Zb) rfl)
 (Zd (Zl (Ye (Zs (K:=K) rfl (pv 0) rfl) T.zpo zpa (hr.mono ⋯) Zi))))))))),?_⟩
 obtain⟨⟨dx,v,a1,a2⟩,br,cl,_⟩:=id SA;obtain⟨⟨dxl,hpl⟩,_⟩:=id cl;refine⟨_,rfl,A'.p,dx,_,rfl,a1,Z6 ⋯,A',S,rfl,SA,?_⟩;refine it2 h (fun _ z=>z) fun h1 h=>?_;refine⟨_,rfl,A'.p,dx,_,rfl,a1,Z6 ⋯,A',S,rfl,SA,h.1,fun s q hc Sq=>?_⟩;obtain⟨ho,hgl,hml⟩:=hcur s hc;obtain⟨dxq,m1,m2,m3,m4,hq⟩:=ShAt.ins Sq;refine⟨_,rfl,A'.p,a.zov,dx,_,_,rfl,a1,T.zow,T.zql,V0,A'.pl,dxl,_,rfl,hpl,J6 ⋯ ⋯,_,rfl,q,dxq,_,rfl,hq,Wx ⋯ ⋯ ⋯ ⋯,(·∉A'.fp),q,s,rfl,Sq,ho,hgl,hml,fun l1 ts H1 hl1 tl s1 f1=>?_⟩;have SA1:=SA.same s1;have ok1:l1∉A'.fp:=SA.newOk l1 f1;refine⟨A'.pl,A'.lr,A'.ld,S.led,l1,ts,Ya s,rfl,SA1.led,hl1,#[ah,ok1],tl,by rw[zbe hgl];omega,hl,fun H2 L2' k2=>?_⟩;obtain⟨SA2,f2⟩:=SA1.setLed L2' k2;obtain⟨⟨dx2,v2,a21,a22⟩,br2,cl2,d2,⟨vs,f21,f22⟩,_⟩:=id SA2;have Sq2:=(Sq.same s1).keep (fun x o hx e=>f2 x o e hx) (SA1.tups f2);refine⟨_,rfl,A'.p,a.zov,dx2,_,_,rfl,a21,T.zow,T.zta,Bi,A'.ls,vs,rfl,f21,_,rfl,vs,f21,by have:=f22.length;have h9:vs.length=S.old.length:=this;have:=T4;omega,?_⟩;have k3:∀ b o,H2 b=#[c]->b≠A'.ls->upd H2 A'.ls (.lst (vs++[.ref q])) b=#[c]:=fun b o e hb=>by rw[Zj hb];exact e
 have kt3:∀ t xs,H2 t=#[z,xs]->upd H2 A'.ls (.lst (vs++[.ref q])) t=#[z,xs]:=fun t xs e=>k3 t _ e (Y2 e f21 (fun z=>nomatch z));have ko3:∀ x o,x∉A'.fp->H2 x=#[c]->upd H2 A'.ls (.lst (vs++[.ref q])) x=#[c]:=fun x o hx e=>k3 x o e #[ah,hx];obtain⟨SA3,f3⟩:=SA2.setOld (old:=S.old++[s]) Ze ((f22.keep ko3 kt3).snoc (Sq2.keep ko3 kt3)) k3;generalize upd H2 A'.ls (.lst (vs++[.ref q]))=H3 at SA3 f3;obtain⟨⟨dx3,v3,a31,a32⟩,_⟩:=id SA3;refine⟨_,rfl,A'.p,a.zov,dx3,_,rfl,a31,T.zow,T.zpx,(by show 8<1000;decide),?_⟩;obtain⟨SA4,f4⟩:=SA3.setCur (H':=upd H3 A'.p (.ins a.zov dx3 (putF "sheet" .non (seaF A' S.len S.rest v3)))) (cur:=none) (v:=.non) ⟨dx3,by rw[Ze];exact congrArg (fun x=>some (HO.ins a.zov dx3 x)) Mg⟩ rfl (fun b o e hb=>by rw[Zj hb];exact e);generalize upd H3 A'.p (.ins a.zov dx3 (putF "sheet" .non (seaF A' S.len S.rest v3)))=H4 at SA4 f4;obtain⟨⟨dx4,v4,a41,a42⟩,_⟩:=id SA4;refine#[af,fun x hx=>?_];have npx:A'.p≠x:=Zh a41 hx;refine⟨_,rfl,A'.p,a.zov,dx4,_,rfl,(by rw[Zj npx];exact a41),T.zow,T.zqe,(by show 8<1000;decide),?_⟩;obtain⟨SA5,f5⟩:=SA4.freshStd hx a41 a42 rfl;have fr4:FrS A' H H4:=(FrS.of A' s1).trans (f2.trans (f3.trans f4));have fx:H x=none:=fr4.free SA4 hx;generalize upd (upd H4 x (.lst [])) A'.p (.ins a.zov dx4 (putF "standing" (.ref x) (seaF A' S.len S.rest v4)))=H5 at SA5 f5;have SA5:Zy (ca a) H5 { A' with lt:=x } (Al S s):=SA5;obtain⟨⟨dx5,v5,a51,a52⟩,br5,cl5,_⟩:=id SA5;obtain⟨⟨dxl5,hpl5⟩,_⟩:=id cl5;refine⟨_,rfl,A'.p,a.zov,dx5,_,_,rfl,a51,T.zow,T.zql,V0,A'.pl,dxl5,_,rfl,hpl5,J6 ⋯ ⋯,A'.pl,A'.lr,A'.ld,S.led++[Ya s],rfl,cl5,?_⟩;have hfin:=h.2 s x H5 hc SA5 (fr4.trans f5) fx;have e:(((S.led++[Ya s]).length:Nat):Int)=atV S:=by rw[zx4];rfl
 rw[e];exact hfin
abbrev Vw:Stmt:=Z1 (top 58) 14
theorem Vk:#[n,["self","last","deed"],["self"],Vw]:=fnS
theorem Nq(F:#[g,"take_back","Season.take_back",Vw])(T:#[j])(zro:Zq P w K mg base a.zo2 "strike" 1 #[Q] #[e,za6]):FnOk P w K mg base #[f] 2 f fd ["self"] #[e,Qt]:=by
 refine #[k,Vk];obtain⟨A',S,rfl,SA,h1,h2⟩:=h;have hu:=We hr;refine⟨_,(Zc (Z2 (Yg (C6 (K:=K) rfl #[V,Zs,0] fun _=>rfl))
  (Zd (Xk Xj rfl T.ztm rfl (Za Zr Zb)))
  Zo)
 (Zc (pS 1 Vk.nd (zhj PySem.F.plainAttrs_list PySem.F.slot_list_pop PySem.F.type_list_pop zll (Zs (K:=K) rfl (pv 0) rfl)))
 (Zc (pS 2 Vk.nd (pI (iU K) (pv 1) Zf))
 (Zc (Xg (K:=K) rfl (pv 0) (pI (iU K) (pv 1) Zf) rfl)
 (Zc (Z2 (Zp Wd (pI (iU K) (pv 2) Zf) Zr (Zt _))
  (Zd (Z7 (Yj (Zs (K:=K) rfl (pv 0) rfl) T.zph zro (hr.mono ⋯) Zi (Za (pI (iU K) (pv 2) Zf) Zb))))
  Zo)
 (Zc (Z2 (Zp Wd (pI (iU K) (pv 2) Zf) Zr (Zt _))
  (Zd (Z7 (zii hu (Zs (K:=K) rfl (pv 0) rfl) (Yc (Za (pI (iU K) (pv 2) Zf) (Za (pI (iU K) (pv 2) Zf) Zb))) ⟨rfl,rfl,rfl,rfl⟩)))
  Zo)
 (Zd (Zl (pv 2))))))))),?_⟩
 show let y1:TS:=_;let y2:TS:=Z0 _ y1;let y3:TS:=Z0 _ y2;let y4:TS:=Z0 _ y3;let y5:TS:=Z0 _ y4;let y6:TS:=Z0 _ y5;Z0 _ y6 _ _ _;intro y1 y2 y3 y4 y5 y6;obtain⟨⟨dx,v,a1,a2⟩,br,cl,d0,f0,⟨us,g1,g2⟩,_⟩:=id SA;refine⟨_,rfl,A'.p,a.zov,dx,_,_,rfl,a1,T.zow,T.zqe,U6,_,.inl ⟨_,SqL.of g1,rfl⟩,?_⟩;have hul:=g2.length;rcases List.eq_nil_or_concat S.std with hn|⟨std',⟨d,s⟩,he⟩
 ·rw[hn] at hul;have hu0:us=[]:=zze.mp hul;rw[hu0];exact iteT ⟨sz1,h1 hn⟩
 have he:S.std=std'++[(d,s)]:=by rw[he,List.concat_eq_append]
 rw[he] at g2;obtain⟨vs',t,u,v',rfl,ht,hu',hs,g3⟩:=Uk.unsnoc g2;have hne:(vs'++[V.ref t]).isEmpty=false:=by cases vs'<;>rfl
 rw[hne];refine #[S];obtain⟨ppl,out,hbk,hfin⟩:=h2 std' d s he;refine⟨_,rfl,A'.p,a.zov,dx,_,_,rfl,a1,T.zow,T.zqe,U6,.inl ⟨rfl,_,SqL.of g1⟩,A'.lt,_,V.ref t,rfl,rfl,g1,by simp,?_⟩;rw[List.dropLast_concat];have k1:∀ b o,H b=#[c]->b≠A'.lt->upd H A'.lt (.lst vs') b=#[c]:=fun b o e hb=>by rw[Zj hb];exact e
 have kt1:∀ t xs,H t=#[z,xs]->upd H A'.lt (.lst vs') t=#[z,xs]:=fun t xs e=>k1 t _ e (Y2 e g1 (fun z=>nomatch z));have ko1:∀ x o,x∉A'.fp->H x=#[c]->upd H A'.lt (.lst vs') x=#[c]:=fun x o hx e=>k1 x o e #[ah,hx];obtain⟨SA1,f1⟩:=SA.setStd (std:=std') Ze (g3.keep ko1 kt1) k1;have ht1:=kt1 _ _ ht;have hu1:=kt1 _ _ hu';have hs1:=hs.keep ko1 kt1;generalize upd H A'.lt (.lst vs')=H1 at SA1 f1 ht1 hu1 hs1;refine⟨_,rfl,t,_,_,_,rfl,rfl,SqT.of ht1,rfl,?_⟩;obtain⟨⟨dx1,v1,a11,a12⟩,_⟩:=id SA1;refine⟨_,rfl,t,_,_,_,rfl,rfl,SqT.of ht1,rfl,_,rfl,A'.p,a.zov,dx1,_,rfl,a11,T.zow,T.zpx,(by show 8<1000;decide),?_⟩;have k2:∀ b o,H1 b=#[c]->b≠A'.p->upd H1 A'.p (.ins a.zov dx1 (putF "sheet" v' (seaF A' S.len S.rest v1))) b=#[c]:=fun b o e hb=>by rw[Zj hb];exact e
 have kt2:∀ t xs,H1 t=#[z,xs]->upd H1 A'.p (.ins a.zov dx1 (putF "sheet" v' (seaF A' S.len S.rest v1))) t=#[z,xs]:=fun t xs e=>k2 t _ e (Y2 e a11 (fun z=>nomatch z));obtain⟨SA2,f2⟩:=SA1.setCur (cur:=s) (v:=v') ⟨dx1,by rw[Ze];exact congrArg (fun x=>some (HO.ins a.zov dx1 x)) Mg⟩ (hs1.keep (fun x o hx e=>k2 x o e #[ah,hx]) kt2) k2;have hu2:=kt2 _ _ hu1;generalize upd H1 A'.p (.ins a.zov dx1 (putF "sheet" v' (seaF A' S.len S.rest v1)))=H2 at SA2 f2 hu2;have fr2:=f1.trans f2;have d0:atI (W2 d) 0=#[b,.str,d.1]:=rfl;have d1:atI (W2 d) 1=#[b,.int,d.2.1]:=rfl;have d2:atI (W2 d) 2=#[b,.int,d.2.2]:=rfl;have es:∀ w:Str,#[i,V.str d.1=V.str w]=decide (d.1=w):=fun w=>by
  by_cases z:d.1=w
  ·rw[zx9 z,zx9 (congrArg V.str z)]
  ·rw[zye z,zye fun q=>z (V.str.inj q)]
 walk_at "if";refine Xl ?_;refine⟨_,rfl,u,_,_,_,rfl,rfl,SqT.of hu2,d0,rfl,_,rfl,?_⟩;rw[es];obtain⟨⟨dx2,v2,a21,a22⟩,br2,cl2,⟨kvs2,e21,e22⟩,_⟩:=id SA2;have n1:¬ (("enrol":Str)="away"):=by decide +kernel
 have n2:¬ (("draw up":Str)="away"):=by decide +kernel
 have n3:¬ (("draw up":Str)="enrol"):=by decide +kernel
 have n4:¬ (("away":Str)="enrol"):=by decide +kernel
 rcases hbk with ⟨hd,⟨g,c0,hp⟩,ho⟩|⟨hd,hp,ho,hno⟩|⟨hd,hp,ho⟩
 ·rw[zx9 hd];refine iteT ?_;obtain⟨⟨dxr,kvr,hpr,hdr,en⟩,ndr⟩:=id br2;refine⟨_,rfl,A'.p,a.zov,dx2,_,_,rfl,a21,T.zow,T.zp0,X1,A'.pr,dxr,_,rfl,hpr,Xe.no ⋯,_,rfl,u,_,_,_,rfl,rfl,SqT.of hu2,d1,A'.pr,A'.dr,ppl,d.2.1,g,c0,rfl,(show Xe a.zo2 H2 A'.pr A'.dr (ppl++[(d.2.1,g,c0)]) by have:Xe a.zo2 H2 A'.pr A'.dr S.ppl:=br2;rw[hp] at this;exact this),fun H3 R3 k3=>?_⟩;obtain⟨SA3,f3⟩:=SA2.setRos R3 k3;have hu3:=SA2.tups f3 _ _ hu2;refine⟨_,rfl,u,_,_,_,rfl,rfl,SqT.of hu3,d0,rfl,_,rfl,?_⟩;rw[es,zye (by rw[hd];exact n1)];refine iteF (Zx #[q,_,?_]);refine hfin u H3 hu3 ?_ (fr2.trans f3);rw[ho];exact SA3
 ·rw[zye (by rw[hd];exact n4)];refine #[S];refine⟨_,rfl,u,_,_,_,rfl,rfl,SqT.of hu2,d0,rfl,_,rfl,?_⟩;rw[es,zx9 hd];refine iteT ?_;refine⟨_,rfl,A'.p,a.zov,dx2,_,_,rfl,a21,T.zow,T.zrk,R4,A'.da,rfl,.inr ⟨kvs2,.inl e21⟩,_,rfl,u,_,_,_,rfl,rfl,SqT.of hu2,d2,_,rfl,u,_,_,_,rfl,rfl,SqT.of hu2,d1,sz2,fun tk htk=>?_⟩;refine #[F,tk,htk,fun H3 TH3 s3=>?_];have q3:H3 tk=some (.tup (([inl d.2.2,inl d.2.1]:List Key).map kV)):=TH3;have SA3:=SA2.same s3;have e22:Og kvs2 S.out:=e22;rw[ho] at e22;have hv:∃ vv,valV kvs2 [inl d.2.2,inl d.2.1]=some vv:=zzh.mp (by rw[e22.1,zx9 (by simp)]);obtain⟨vv,hv⟩:=hv;refine⟨kvs2,[inl d.2.2,inl d.2.1],tk,vv,s3 _ _ e21,rfl,q3,hv,?_⟩;obtain⟨SA4,f4⟩:=SA3.setOut (out:=out) Ze (e22.drop hno) (fun b o e hb=>by rw[Zj hb];exact e);have hu4:=SA3.tups f4 _ _ (s3 _ _ hu2);refine#[q,_,hfin u _ hu4 ?_ (fr2.trans ((FrS.of A' s3).trans f4))];rw[hp];exact SA4
 ·rw[zye (by rw[hd];exact n3)];refine #[S];refine⟨_,rfl,u,_,_,_,rfl,rfl,SqT.of hu2,d0,rfl,_,rfl,?_⟩;rw[es,zye (by rw[hd];exact n2)];refine iteF (Zx #[q,_,hfin u H2 hu2 ?_ fr2]);rw[hp,ho];exact SA2
abbrev Ux:Stmt:=Z1 (top 58) 15
theorem Ka:#[aa,Ux]:=fnS
theorem Kb(F:#[g,"at_hand","Season.at_hand",Ux])(T:#[j])(zpa:Zq P w K mg base a.zoz "over" 1 ["self"] (Ky a.zoz)):FnOk P w K mg base #[f] 2 f fd ["self"] #[e,Vm]:=by
 refine #[k,Ka];obtain⟨A',S,rfl,SA,h⟩:=h;refine⟨_,Zd (Zl (Zu Yq (Ye #[V,Zs,0] T.zpo zpa (hr.mono ⋯) Zi) Zf)),?_⟩;obtain⟨⟨dx,v,a1,a2⟩,b,c,_⟩:=id SA;obtain⟨⟨dxl,hpl⟩,_⟩:=id c;refine⟨_,rfl,A'.p,a.zov,dx,_,_,rfl,a1,T.zow,T.zql,V0,A'.pl,dxl,_,rfl,hpl,J6 ⋯ ⋯,A'.pl,A'.lr,A'.ld,S.led,rfl,c,_,_,rfl,rfl,?_⟩;exact h
abbrev Sn:Stmt:=Z1 (top 58) 16
theorem Gb:#[aa,Sn]:=fnS
theorem Gd(F:#[g,"deeds","Season.deeds",Sn])(T:#[j]):FnOk P w K mg base #[f] 1 f fd ["self"] #[e,Am]:=by
 refine #[k,Gb];obtain⟨A',S,rfl,SA,hz,h⟩:=h;have hu:=We hr;refine#[av,_,Of,rfl,Oe.mk (xo:=["deed","sheet"]) (ys:=[]) (js:=[]) rfl rfl,rfl,Z9 (K:=K) rfl #[V,Zs,0],fun _ _ _ _ _=>(Xu (K:=K) (n:=2) rfl rfl #[ar,Zv,Vc,(show List.Nodup [("deed":Str),("sheet":Str)] by decide +kernel),Zv,Vc,(show List.Nodup [("deed":Str),("sheet":Str)] by decide +kernel),Xt]),pv 0];obtain⟨⟨dx,v,a1,a2⟩,br,cl,d0,f0,⟨us,g1,g2⟩,_⟩:=id SA;have hul:=g2.length;refine⟨_,rfl,A'.p,a.zov,dx,_,_,rfl,a1,T.zow,T.zqe,U6,A'.lt,rfl,⟨_,SqL.of g1⟩,?_⟩;refine Me (K:=K) (xs:=us) (fun i ys H'=>H'=H/\Z8 H ys ((S.std.take i).map fun x=>W2 x.1)/\ys.length=i) ⟨rfl,.nil,rfl⟩ (fun i ys H' _ ⟨e,_⟩=>by rw[e];exact SqL.of g1) (szN ⋯) (fun i ys H' ⟨_,_,e⟩=>by omega) ?_ ?_
 ·rintro i x ys H' hx ⟨rfl,tl,hyl⟩;obtain⟨t,u,v',d,s,rfl,hgi,ht,hu'⟩:=g2.get hx;refine⟨t,_,rfl,SqT.of ht,rfl,_,_,rfl,_,_,rfl,rfl,#[q,[#[d,u],some v'],rfl],?_⟩;unfold tYes;dsimp only;rw[if_pos rfl];refine⟨_,rfl,rfl,?_,by rw[zx4,hyl];rfl⟩;have e:S.std.take (i+1)=S.std.take i++[(d,s)]:=by rw[zzd,hgi];rfl
  rw[e,zx7];exact tl.snoc hu'
 ·rintro ys H' ⟨rfl,tl,hyl⟩ l hl;rw[hul,zyi] at tl;exact h l ys _ Ze (tl.same (Zk hl)) (Zk hl) hl
abbrev Ud:Stmt:=Z1 (top 58) 17
theorem Mz:#[aa,Ud]:=fnS
theorem M0(F:#[g,"referees","Season.referees",Ud])(T:#[j])(zps:Zq P w K mg base a.zo2 "numbers" 1 ["self"] #[e,Mb]):FnOk P w K mg base #[f] 2 f fd ["self"] #[e,Fv]:=by
 refine #[k,Mz];obtain⟨A',S,rfl,SA,h⟩:=h;refine⟨_,Zd (Zl (Ye #[V,Zs,0] T.zph zps (hr.mono ⋯) Zi)),?_⟩;obtain⟨⟨dx,v,a1,a2⟩,br,cl,_⟩:=id SA;obtain⟨⟨dxr,kvr,hpr,hdr,en⟩,ndr⟩:=id br;exact⟨_,rfl,A'.p,a.zov,dx,_,_,rfl,a1,T.zow,T.zp0,X1,A'.pr,dxr,_,rfl,hpr,Xe.no ⋯,A'.pr,A'.dr,S.ppl,rfl,br,fun l hl=>h l _ Ze (Zk hl) hl⟩
abbrev Uy:Stmt:=Z1 (top 58) 18
theorem Kc:#[n,#[Q],#[Q],Uy]:=fnS
theorem Kd(F:#[g,"referee","Season.referee",Uy])(T:#[j])(zqd:Zq P w K mg base a.zo2 "entry" 2 #[Q] #[e,Fm]):FnOk P w K mg base #[f] 3 f fd #[Q] #[e,Bm]:=by
 refine #[k,Kc];obtain⟨A',S,n,rfl,SA,sn,h1,h2⟩:=h;refine⟨_,Zd (Zl (Yj #[V,Zs,0] T.zph zqd (hr.mono ⋯) Zi (Za (pv 1) Zb))),?_⟩;obtain⟨⟨dx,v,a1,a2⟩,br,cl,_⟩:=id SA;obtain⟨⟨dxr,kvr,hpr,hdr,en⟩,ndr⟩:=id br;exact⟨_,rfl,A'.p,a.zov,dx,_,_,rfl,a1,T.zow,T.zp0,X1,A'.pr,dxr,_,rfl,hpr,Xe.no ⋯,_,rfl,A'.pr,A'.dr,S.ppl,n,rfl,br,sn,h1,fun g c t q ht=>h2 g c t q ht⟩
abbrev Uz:Stmt:=Z1 (top 58) 19
theorem Ke:#[n,["self","at","number"],["self","at","number"],Uz]:=fnS
theorem Kf(F:#[g,"is_away","Season.is_away",Uz])(T:#[j])(zo9:Zq P w K mg base a.zov "check_round" 1 ["self","at"] #[e,Gy])(zo4:Zq P w K mg base a.zo2 "check_known" 1 #[Q] #[e,V5]):FnOk P w K mg base #[f] 2 f fd ["self","at","number"] #[e,Fw]:=by
 refine #[k,Ke];obtain⟨A',S,i,n,rfl,SA,si,sn,h⟩:=h;have hu:=We hr;refine⟨_,(Zc (Z7 (Yj (pv 0) T.zow zo9 (hr.mono ⋯) Zi (Za (pv 1) Zb)))
 (Zc (Z7 (Yj (Zs (K:=K) rfl (pv 0) rfl) T.zph zo4 (hr.mono ⋯) Zi (Za (pv 2) Zb)))
 (Zd (Zl (zku (N3 hu (Yc (Za (pv 1) (Za (pv 2) Zb))) (Zs (K:=K) rfl (pv 0) rfl))))))),?_⟩
 obtain⟨⟨dx,v,a1,a2⟩,br,cl,⟨kvs,d1,d2⟩,_⟩:=id SA;obtain⟨⟨dxr,kvr,hpr,hdr,en⟩,ndr⟩:=id br;refine⟨_,rfl,A'.p,dx,_,rfl,a1,Z6 ⋯,_,rfl,A',S,i,rfl,SA,si,?_⟩;refine it2 h (fun _ z=>z) fun h1 h=>?_;refine⟨_,rfl,A'.p,a.zov,dx,_,_,rfl,a1,T.zow,T.zp0,X1,A'.pr,dxr,_,rfl,hpr,Xe.no ⋯,_,rfl,A'.pr,A'.dr,S.ppl,n,rfl,br,sn,?_⟩;refine it2 h (fun hk h=>?_) fun _ z=>z;refine⟨_,rfl,_,rfl,sz2,fun t ht=>?_⟩;refine al (upd _ t _) ht rfl fun H1 TH1 s1=>?_;have q1:H1 t=some (.tup (([inl i,inl n]:List Key).map kV)):=TH1;refine⟨_,rfl,A'.p,a.zov,dx,_,_,rfl,s1 _ _ a1,T.zow,T.zrk,R4,A'.da,_,rfl,DGet.t (k:=[inl i,inl n]) (s1 _ _ d1) q1,?_⟩;rw[d2.isSome];exact h H1 s1
abbrev U0:Stmt:=Z1 (top 58) 20
theorem Kg:#[n,["self","at"],["self","at"],U0]:=fnS
theorem Kh(F:#[g,"matches","Season.matches",U0])(T:#[j])(zo0:Zq P w K mg base a.zov "sheet_of" 3 ["self","at"] #[e,Uq])(zp1:Zq P w K mg base a.zoy "matches" 1 ["self"] #[e,Oh]):FnOk P w K mg base #[f] 4 f fd ["self","at"] #[e,Bn]:=by
 refine #[k,Kg];obtain⟨A',S,i,rfl,SA,hr0⟩:=h;refine⟨_,Zd (Zl (Ye (Yj (pv 0) T.zow zo0 (hr.mono ⋯) Zi (Za (pv 1) Zb)) T.zo6 zp1 (hr.mono ⋯) Zi)),?_⟩;obtain⟨si,hol,h⟩:=hr0;obtain⟨⟨dx,v,a1,a2⟩,_⟩:=id SA;refine⟨_,rfl,A'.p,dx,_,rfl,a1,Z6 ⋯,_,rfl,A',S,i,rfl,SA,si,hol,it2 h (fun _ z=>z) fun hn h=>⟨h.1,fun s q hs Sq=>?_⟩⟩;obtain⟨dxq,m1,m2,m3,m4,hq⟩:=ShAt.ins Sq;exact⟨q,dxq,_,rfl,hq,Wx ⋯ ⋯ ⋯ ⋯,(·∉A'.fp),q,s,rfl,Sq,fun l ts H' a b c d=>h.2 s hs l ts H' a b c d⟩
abbrev Rr:Stmt:=Z1 (top 58) 21
theorem E6:#[n,["self","at"],["self","at"],Rr]:=fnS
theorem E7(F:#[g,"goes","Season.goes",Rr])(T:#[j])(zo0:Zq P w K mg base a.zov "sheet_of" 3 ["self","at"] #[e,Uq])(zqo:Zq P w K mg base a.zoy "goes" 1 ["self"] #[e,Fo]):FnOk P w K mg base #[f] 4 f fd ["self","at"] #[e,zc7]:=by
 refine #[k,E6];obtain⟨A',S,i,rfl,SA,hr0⟩:=h;refine⟨_,Zd (Zl (Ye (Yj (pv 0) T.zow zo0 (hr.mono ⋯) Zi (Za (pv 1) Zb)) T.zo6 zqo (hr.mono ⋯) Zi)),?_⟩;obtain⟨si,hol,h⟩:=hr0;obtain⟨⟨dx,v,a1,a2⟩,_⟩:=id SA;refine⟨_,rfl,A'.p,dx,_,rfl,a1,Z6 ⋯,_,rfl,A',S,i,rfl,SA,si,hol,it2 h (fun _ z=>z) fun hn h=>⟨h.1,fun s q hs Sq=>?_⟩⟩;obtain⟨dxq,m1,m2,m3,m4,hq⟩:=ShAt.ins Sq;exact⟨q,dxq,_,rfl,hq,Wx ⋯ ⋯ ⋯ ⋯,(·∉A'.fp),q,s,rfl,Sq,fun l H' a b c=>h.2 s hs l H' a b c⟩
abbrev So:Stmt:=Z1 (top 58) 22
theorem Pn:#[n,["self","at","number","sheet"],["self","at","number"],So]:=fnS
theorem Ge(F:#[g,"where","Season.where",So])(T:#[j])(zo0:Zq P w K mg base a.zov "sheet_of" 3 ["self","at"] #[e,Uq])(zo4:Zq P w K mg base a.zo2 "check_known" 1 #[Q] #[e,V5])(zpt:Zq P w K mg base a.zoy "where" 2 #[Q] #[e,Nd]):FnOk P w K mg base #[f] 4 f fd ["self","at","number"] #[e,zex]:=by
 refine #[k,Pn];obtain⟨A',S,i,n,rfl,SA,sn,hr0⟩:=h;refine⟨_,(Zc (pS 3 Pn.nd (Yj (pv 0) T.zow zo0 (hr.mono ⋯) Zi (Za (pv 1) Zb)))
 (Zc (Z7 (Yj (Zs (K:=K) rfl (pv 0) rfl) T.zph zo4 (hr.mono ⋯) Zi (Za (pv 2) Zb)))
 (Zd (Zl (Yj (pv 3) T.zo6 zpt (hr.mono ⋯) Zi (Za (pv 2) Zb)))))),?_⟩
 obtain⟨si,hol,h⟩:=hr0;obtain⟨⟨dx,v,a1,a2⟩,br,_⟩:=id SA;obtain⟨⟨dxr,kvr,hpr,hdr,en⟩,ndr⟩:=id br;refine⟨_,rfl,A'.p,dx,_,rfl,a1,Z6 ⋯,_,rfl,A',S,i,rfl,SA,si,hol,it2 h (fun _ z=>z) fun hn h=>⟨h.1,fun s q hs Sq=>?_⟩⟩;obtain⟨dxq,m1,m2,m3,m4,hq⟩:=ShAt.ins Sq;obtain⟨k1,k2,k3⟩:=h.2 s hs;refine⟨_,rfl,A'.p,a.zov,dx,_,_,rfl,a1,T.zow,T.zp0,X1,A'.pr,dxr,_,rfl,hpr,Xe.no ⋯,_,rfl,A'.pr,A'.dr,S.ppl,n,rfl,br,sn,?_⟩;refine it2 k3 (fun hk k3=>?_) fun _ z=>z;exact⟨_,rfl,q,dxq,_,rfl,hq,Wx ⋯ ⋯ ⋯ ⋯,_,rfl,(·∉A'.fp),q,s,n,rfl,Sq,k1,k2,fun H' s'=>k3 H' s'⟩
abbrev Rt:Stmt:=Z1 (top 58) 23
theorem E8:#[n,["self","at"],["self","at"],Rt]:=fnS
theorem E9(F:#[g,"left","Season.left",Rt])(T:#[j])(zo0:Zq P w K mg base a.zov "sheet_of" 3 ["self","at"] #[e,Uq])(zsw:Zq P w K mg base a.zoy "left" 2 ["self"] #[e,zbc]):FnOk P w K mg base #[f] 4 f fd ["self","at"] #[e,zbk]:=by
 refine #[k,E8];obtain⟨A',S,i,rfl,SA,hr0⟩:=h;refine⟨_,Zd (Zl (Ye (Yj (pv 0) T.zow zo0 (hr.mono ⋯) Zi (Za (pv 1) Zb)) T.zo6 zsw (hr.mono ⋯) Zi)),?_⟩;obtain⟨si,hol,h⟩:=hr0;obtain⟨⟨dx,v,a1,a2⟩,_⟩:=id SA;refine⟨_,rfl,A'.p,dx,_,rfl,a1,Z6 ⋯,_,rfl,A',S,i,rfl,SA,si,hol,it2 h (fun _ z=>z) fun hn h=>⟨h.1,fun s q hs Sq=>?_⟩⟩;obtain⟨dxq,m1,m2,m3,m4,hq⟩:=ShAt.ins Sq;obtain⟨k1,k2,k3⟩:=h.2 s hs;exact⟨q,dxq,_,rfl,hq,Wx ⋯ ⋯ ⋯ ⋯,(·∉A'.fp),q,s,rfl,Sq,k1,k2,fun l H' a b c=>k3 l H' a b c⟩
abbrev Q5:Stmt:=Z1 (top 58) 24
theorem Cf:#[n,["self","at"],["self","at"],Q5]:=fnS
theorem Cg(F:#[g,"why","Season.why",Q5])(T:#[j])(zo0:Zq P w K mg base a.zov "sheet_of" 3 ["self","at"] #[e,Uq])(ztd:Zq P w K mg base a.zoy "why" 3 ["self"] #[e,zeq]):FnOk P w K mg base #[f] 4 f fd ["self","at"] #[e,zkn]:=by
 refine #[k,Cf];obtain⟨A',S,i,rfl,SA,hr0⟩:=h;refine⟨_,Zd (Zl (Ye (Yj (pv 0) T.zow zo0 (hr.mono ⋯) Zi (Za (pv 1) Zb)) T.zo6 ztd (hr.mono ⋯) Zi)),?_⟩;obtain⟨si,hol,h⟩:=hr0;obtain⟨⟨dx,v,a1,a2⟩,_⟩:=id SA;refine⟨_,rfl,A'.p,dx,_,rfl,a1,Z6 ⋯,_,rfl,A',S,i,rfl,SA,si,hol,it2 h (fun _ z=>z) fun hn h=>⟨h.1,fun s q hs Sq=>?_⟩⟩;obtain⟨dxq,m1,m2,m3,m4,hq⟩:=ShAt.ins Sq;obtain⟨⟨nu,k0⟩,k1,k2,k3⟩:=h.2 s hs;exact⟨q,dxq,_,rfl,hq,Wx ⋯ ⋯ ⋯ ⋯,(·∉A'.fp),q,s,nu,rfl,Sq,k0,k1,k2,fun t lp lr ps rs H'=>k3 t lp lr ps rs H'⟩
abbrev Td:Stmt:=Z1 (top 58) 25
theorem Jk:#[n,["self","at"],["self","at"],Td]:=fnS
theorem Jl(F:#[g,"chains","Season.chains",Td])(T:#[j])(zo0:Zq P w K mg base a.zov "sheet_of" 3 ["self","at"] #[e,Uq])(zqb:Zq P w K mg base a.zoy "chains" 1 ["self"] #[e,Md]):FnOk P w K mg base #[f] 4 f fd ["self","at"] #[e,Lo]:=by
 refine #[k,Jk];obtain⟨A',S,i,rfl,SA,hr0⟩:=h;refine⟨_,Zd (Zl (Ye (Yj (pv 0) T.zow zo0 (hr.mono ⋯) Zi (Za (pv 1) Zb)) T.zo6 zqb (hr.mono ⋯) Zi)),?_⟩;obtain⟨si,hol,h⟩:=hr0;obtain⟨⟨dx,v,a1,a2⟩,_⟩:=id SA;refine⟨_,rfl,A'.p,dx,_,rfl,a1,Z6 ⋯,_,rfl,A',S,i,rfl,SA,si,hol,it2 h (fun _ z=>z) fun hn h=>⟨h.1,fun s q hs Sq=>?_⟩⟩;obtain⟨dxq,m1,m2,m3,m4,hq⟩:=ShAt.ins Sq;obtain⟨k1,k3⟩:=h.2 s hs;exact⟨q,dxq,_,rfl,hq,Wx ⋯ ⋯ ⋯ ⋯,(·∉A'.fp),q,s,rfl,Sq,k1,fun l ts H' a b c d=>k3 l ts H' a b c d⟩
abbrev Q6:Stmt:=Z1 (top 58) 26
theorem Ci:#[n,["self","place"],["self","place"],Q6]:=fnS
theorem Cj(F:#[g,"may","Season.may",Q6])(T:#[j])(zo1:Zq P w K mg base a.zov "sheet_at_hand" 1 ["self"] #[e,T6])(zti:Zq P w K mg base a.zoy "may" 2 ["self","place"] #[e,zer]):FnOk P w K mg base #[f] 3 f fd ["self","place"] #[e,zko]:=by
 refine #[k,Ci];obtain⟨A',S,i,rfl,SA,si,h1,h2⟩:=h;refine⟨_,Zd (Zl (Yj (Ye (pv 0) T.zow zo1 (hr.mono ⋯) Zi) T.zo6 zti (hr.mono ⋯) Zi (Za (pv 1) Zb))),?_⟩;obtain⟨⟨dx,v,a1,a2⟩,_⟩:=id SA;refine⟨_,rfl,A'.p,dx,_,rfl,a1,Z6 ⋯,A',S,rfl,SA,h1,fun s q hs Sq=>?_⟩;obtain⟨dxq,m1,m2,m3,m4,hq⟩:=ShAt.ins Sq;obtain⟨k1,k2,k3⟩:=h2 s hs;exact⟨q,dxq,_,rfl,hq,Wx ⋯ ⋯ ⋯ ⋯,_,rfl,(·∉A'.fp),q,s,i,rfl,Sq,si,k1,k2,fun k r e1 e2 l H' a b c=>k3 k r e1 e2 l H' a b c⟩
abbrev U1:Stmt:=Z1 (top 58) 27
theorem X7:#[n,["self","number","place","sheet","person","match","out"],["self","number","place"],U1]:=fnS
theorem Ki(F:#[g,"reasons","Season.reasons",U1])(T:#[j])(zo1:Zq P w K mg base a.zov "sheet_at_hand" 1 ["self"] #[e,T6])(zp3:Zq P w K mg base a.zo2 "person" 3 #[Q] #[e,Fn])(zq7:Zq P w K mg base a.zoy "match_at" 2 ["self","place"] #[e,Ia])(zpz:Zq P w K mg base a.zov "is_away" 2 ["self","at","number"] #[e,Fw])(zox:Zq P w K mg base a.zov "at_hand" 2 ["self"] #[e,Vm])(zqa:Zz P w K mg base "reasons_bars" 3 ["referee","match","out","ledger","rest"] (K1 K a.zoz)):FnOk P w K mg base #[f] 4 f fd ["self","number","place"] #[e,Ie]:=by
 refine #[k,X7];obtain⟨A',S,n,i,rfl,SA,sn,si,hlt,hl,hno,h⟩:=h;refine⟨_,(Zc (pS 3 X7.nd (Ye (pv 0) T.zow zo1 (hr.mono ⋯) Zi))
 (Zc (pS 4 X7.nd (Yj (Zs (K:=K) rfl (pv 0) rfl) T.zph zp3 (hr.mono ⋯) Zi (Za (pv 1) Zb)))
 (Zc (pS 5 X7.nd (Yj (pv 3) T.zo6 zq7 (hr.mono ⋯) Zi (Za (pv 2) Zb)))
 (Zc (pS 6 X7.nd (Yj (pv 0) T.zow zpz (hr.mono ⋯) Zi (Za (Ye (pv 0) T.zow zox (hr.mono ⋯) Zi) (Za (pv 1) Zb))))
 (Zd (Zl (pF zqa hr (Za (pv 4) (Za (pv 5) (Za (pv 6) (Za (Zs (K:=K) rfl (pv 0) rfl) (Za (Zs (K:=K) rfl (pv 0) rfl) Zb)))))))))))),?_⟩
 obtain⟨⟨dx,v,a1,a2⟩,br,bl,_⟩:=id SA;obtain⟨⟨dxr,kvr,hpr,hdr,en⟩,ndr⟩:=id br;refine⟨_,rfl,A'.p,dx,_,rfl,a1,Z6 ⋯,A',S,rfl,SA,hno,fun s q hs Sq=>?_⟩;obtain⟨h1,h2⟩:=h s hs;obtain⟨dxq,m1,m2,m3,m4,hq⟩:=ShAt.ins Sq;walk_at "if";refine⟨_,rfl,A'.p,a.zov,dx,_,_,rfl,a1,T.zow,T.zp0,X1,A'.pr,dxr,_,rfl,hpr,Xe.no ⋯,_,rfl,A'.pr,A'.dr,S.ppl,n,rfl,br,sn,h1,fun g c t H2 hm ht s2 _=>?_⟩;have hin:n∈S.ppl.map (·.1):=zya.mpr ⟨_,hm,rfl⟩;obtain⟨h3,h4⟩:=h2 hin;have SA2:=SA.same s2;have Sq2:=Sq.same s2;walk_at "if";refine⟨_,rfl,q,dxq,_,rfl,s2 _ _ hq,Wx ⋯ ⋯ ⋯ ⋯,_,rfl,(·∉A'.fp),q,s,i,rfl,Sq2,si,fun z=>h3 z H2 s2,fun k m tm hik hmk htm=>?_⟩;walk_at "if";refine⟨_,rfl,A'.p,dx,_,rfl,s2 _ _ a1,Z6 ⋯,_,rfl,A'.p,dx,_,rfl,s2 _ _ a1,Z6 ⋯,A',S,rfl,SA2,_,rfl,A',S,atV S,n,rfl,SA2,Yl (zyg (show (atV S).natAbs<=2000 by unfold atV;omega) ⋯),sn,?_⟩;rw[if_neg (by unfold atV;omega),if_pos hin];intro H3 s3;have s03:=s2.trans s3;walk_at "if";refine⟨_,rfl,_,rfl,_,rfl,_,rfl,A'.p,a.zov,dx,_,_,rfl,s03 _ _ a1,T.zow,T.zql,V0,_,rfl,A'.p,a.zov,dx,_,_,rfl,s03 _ _ a1,T.zow,T.zum,zes,t,tm,A'.pl,A'.lr,A'.ld,S.led,n,g,c,m.1,m.2.1,m.2.2,S.rest,_,rfl,s3 _ _ ht,s3 _ _ htm,bl.same s03,fun l H4 hl4 s4 f4=>?_⟩;exact h4 k m g c hik hmk hm l H4 hl4 (s03.trans s4) (s03.free f4)
abbrev Sr:Stmt:=Z1 (top 58) 28
theorem Gf:#[aa,Sr]:=fnS
theorem Gg(F:#[g,"facts","Season.facts",Sr])(T:#[j])(zox:Zq P w K mg base a.zov "at_hand" 2 ["self"] #[e,Vm])(zsc:Zq P w K mg base a.zoz "facts" 1 ["self","at"] (zed a.zoz a.zpy)):FnOk P w K mg base #[f] 3 f fd ["self"] #[e,Bs]:=by
 refine #[k,Gf];obtain⟨A',S,rfl,SA,hl,h⟩:=h;refine⟨_,Zd (Zl (Ww rfl (cT ["self"] [0]) (O6 rfl T.zpl (Za Zf (Za (Ye (pv 0) T.zow zox (hr.mono ⋯) Zi) Zb))) (fun _ _ _ _ _=>Wn) fun _ _ _ _ _=>(Yj #[V,Zs,1] T.zpo zsc (hr.mono ⋯) zau (Za (pv 0) Zb)))),?_⟩;obtain⟨⟨dx,v,a1,a2⟩,b,c,_⟩:=id SA;obtain⟨⟨dxl,lp⟩,_⟩:=id c;have eat:(atV S-1).toNat=S.led.length:=by unfold atV;omega
 refine⟨_,rfl,A'.p,dx,_,rfl,a1,Z6 ⋯,A',S,rfl,SA,1,atV S,rfl,⟨by omega,by omega,by unfold atV;omega,by unfold atV;omega⟩,?_⟩;rw[eat];refine Qj (fun i ys H'=>#[p]/\∃ ls,ys=ls.map V.ref/\RwL H' ls (S.led.take i)/\ls.length=i/\∀ x∈ls,H x=none) ⟨Same.refl _,[],rfl,.nil,rfl,by simp⟩ (szN ⋯) (fun i ys H' ⟨_,ls,e1,_,e2,_⟩=>by rw[e1,zx1];omega) (fun i ys H' hi p=>?_) fun ys H' p l' hl'=>?_
 ·obtain⟨s1,ls,rfl,rl,hll,hfr⟩:=p;have hri:S.led[i]?=some (S.led[i]'hi):=zx2 hi;unfold tYes;dsimp only;rw[if_pos rfl];refine⟨_,rfl,A'.p,a.zov,dx,_,_,rfl,s1 _ _ a1,T.zow,T.zql,V0,A'.pl,dxl,_,rfl,s1 _ _ lp,J6 ⋯ ⋯,_,rfl,A'.pl,A'.lr,A'.ld,S.led,1+(i:Int),rfl,c.same s1,Yi ⋯ ⋯,fun z=>by omega,fun k rs hk hrs l2 ts hl2 tl2=>?_⟩;have ek:k=i:=by omega
  subst ek;have s2:=Zk (o:=.lst ts) hl2;refine⟨s1.trans s2,ls++[l2],by rw[zx7];rfl,?_,by rw[zx4,hll];rfl,fun y hy=>?_⟩
  ·rw[Xq hrs];exact(rl.same s2).snoc Ze (tl2.same s2)
  ·rcases zyd.mp hy with z|z
   ·exact hfr y z
   ·rw[zx6.mp z];exact s1.free hl2
 ·obtain⟨s1,ls,rfl,rl,hll,hfr⟩:=p;rw[zyi] at rl;exact h l' ls _ Ze (rl.same (Zk hl')) (s1.trans (Zk hl')) (s1.free hl') hfr
abbrev Ox:Stmt:=top 60
theorem A4:#[n,["_law_found"],["_law_found"],Ox]:=fnS
theorem A5(F:#[g,"_law_whole","_law_whole",Ox])(T:#[j]):FnOk P w K mg base #[f] 1 f fd ["_law_found"] B5:=by
 refine #[k,A4];obtain⟨i,rfl,h⟩:=h;refine⟨_,Zd (Zl (P5 (Zm (Y7 (K:=K) rfl) (by rfl) T.zo8 PyProof.Rows.boot_isinstance (Za (pv 0) (Za (Wf rfl T.zu6 PyProof.Rows.boot_int (show RelV (.ty "int") _ from rfl)) Zb))) #[an,P4,zky,Zm,Y7,rfl,Za (pv 0) (Za (Wf rfl T.zuv PyProof.Rows.boot_bool (show RelV (.ty "bool") _ from rfl)) Zb)])),?_⟩;refine⟨_,rfl,_,_,_,_,rfl,.of (.int i),.inl ⟨_,rfl⟩,zlt K,_,rfl,?_⟩;refine iteT ?_;exact⟨_,rfl,_,_,_,_,rfl,.of (.int i),.inl ⟨_,rfl⟩,zlu K,_,rfl,h⟩
abbrev Dc:Stmt:=top 61
theorem zgs:#[n,["_law_script","_law_k"],["_law_script","_law_k"],Dc]:=fnS
theorem zgt(F:#[g,"_law_at","_law_at",Dc])(T:#[j]):FnOk P w K mg base #[f] 1 f fd ["_law_script","_law_k"] (zcx K):=by
 refine #[k,zgs];obtain⟨b,ns,k,rfl,hs,h⟩:=h;refine⟨_,(Zc (Z2 (Zp Cv (pv 1) #[ab,cL,Za,0,Zb] (Zt _))
  (Zd (Zl (pI (iL K) (pv 0) (pv 1))))
  Zo)
 (Zd (Zl Zf))),?_⟩
 refine⟨_,rfl,_,rfl,b,_,rfl,.inl hs,_,_,rfl,rfl,_,rfl,?_⟩;rw[zx1];refine itD (fun hk=>?_) fun hk=>?_
 ·have hk':k<ns.length:=by omega
  refine⟨_,rfl,_,rfl,b,_,_,_,rfl,rfl,hs,Z4 (show (ns.map V.int)[k]?=#[l,Xm ns k] from ?_),h⟩;unfold Xm;rw[zx5,zx2 hk'];rfl
 ·have e:Xm ns k=0:=by unfold Xm;rw[List.getElem?_eq_none ⋯];rfl
  rw[e] at h;exact h
abbrev Jm:Stmt:=top 62
theorem Q7:#[n,["_law_cell_here","_law_k","_law_one","_law_two","_law_three"],["_law_cell_here","_law_k"],Jm]:=fnS
theorem zdo(F:#[g,"_law_mix","_law_mix",Jm])(T:#[j]):FnOk P w K mg base #[f] 1 f fd ["_law_cell_here","_law_k"] zd9:=by
 refine #[k,Q7];obtain⟨c,k,rfl,h⟩:=h;refine⟨_,(Zc (pS 2 Q7.nd (Zu Yy (Zu Yq (Zu P6 (pv 0) Zf) (pv 1)) Zf))
 (Zc (pS 3 Q7.nd (Zu Yy (Zu Yq (Zu P6 (pv 2) Zf) (Zu P6 Zf (pv 1))) Zf))
 (Zc (pS 4 Q7.nd (Zu Yy (Zu Yq (Zu P6 (pv 3) Zf) (pv 2)) Zf))
 (Zd (Zl (Zu Yq (Zu P6 (Zu Yq (Zu P6 (pv 2) Zf) (pv 3)) Zf) (pv 4))))))),?_⟩
 walk_at "rd";exact h
abbrev Yt:Stmt:=top 63
theorem Oy:#[n,["_law_cell_here","_law_many","_law_step"],["_law_cell_here","_law_many"],Yt]:=fnS
@[irreducible] def Ue:List Expr:=zga (zbr (Nj (Xy (Zw Yt) 0)))
@[irreducible] def Oz:Pos:=zgb (zbr (Nj (Xy (Zw Yt) 0)))
theorem Jn:Zw Yt=[.Assign (ziq (Xy (Zw Yt) 0)) (.Subscript (.List Ue Oz) (zj0 (Nj (Xy (Zw Yt) 0))) (zj1 (Nj (Xy (Zw Yt) 0)))) (stP (Xy (Zw Yt) 0)),Xy (Zw Yt) 1]:=by unfold Ue Oz;kernel_rfl
theorem Jo:F3 Ue [1,2,5,10,100,500,998]:=by unfold Ue;exact⟨by kernel_rfl,by kernel_rfl⟩
theorem Dd(F:#[g,"_law_numbers","_law_numbers",Yt])(T:#[j]):FnOk P w K mg base #[f] 1 f fd ["_law_cell_here","_law_many"] Fd:=by
 refine #[k,Oy];obtain⟨c,m,rfl,hm,h⟩:=h;rw[Jn];refine⟨_,(Zc (pS 2 Oy.nd (pI (iL K) (Yd (Nf [1,2,5,10,100,500,998] Jo)) (Zu Yy (pv 0) Zf)))
 (Zd (Zl (Ww rfl (cT ["_law_cell_here","_law_step"] [0,2]) (Yw rfl T.zpl (Za (pv 1) Zb)) (fun _ _ _ _ _=>Wn) (fun _ _ _ _ _=>(Zu Yq Zf (Zu Yy (Zu Yq (Zu Xo (pv 1) Zf) (Zu P6 (pv 2) (pv 0))) Zf))))))),?_⟩
 refine⟨by show 7<=sizeLine;decide,fun p0 hp0=>?_⟩;walk_at "rd";refine⟨p0,_,_,_,rfl,rfl,SqL.of Ze,Wv (xs:=[1,2,5,10,100,500,998]) ⋯ (by show c%7<7;omega),?_⟩;refine⟨_,rfl,_,rfl,by omega,by omega,C5 (fun j=>V.int (zfr c j)) (by rw[zyh];exact zyg hm ⋯) (fun i R hi k=>?_) fun p hp=>?_⟩
 ·rw[zyh] at hi;walk_at "rd";refine⟨.inr ⟨by omega,by omega⟩,?_⟩;walk_at "rd";rw[zy7];exact k
 ·rw[zyh];refine h p _ ?_ ((Zk hp0).trans (Zk hp)) ((Zk hp0).free hp);rw[Ze];unfold J5;rw[zzi];rfl
abbrev Xn:Stmt:=top 64
theorem Kj:#[n,["_law_cell_here","_law_many","_law_step"],["_law_cell_here","_law_many"],Xn]:=fnS
@[irreducible] def Tq:List Expr:=zga (zbr (Nj (Xy (Zw Xn) 0)))
@[irreducible] def Kk:Pos:=zgb (zbr (Nj (Xy (Zw Xn) 0)))
theorem De:Zw Xn=[.Assign (ziq (Xy (Zw Xn) 0)) (.Subscript (.List Tq Kk) (zj0 (Nj (Xy (Zw Xn) 0))) (zj1 (Nj (Xy (Zw Xn) 0)))) (stP (Xy (Zw Xn) 0)),Xy (Zw Xn) 1]:=by unfold Tq Kk;kernel_rfl
theorem Df:F3 Tq [1,2,5,10,50,97,98]:=by unfold Tq;exact⟨by kernel_rfl,by kernel_rfl⟩
theorem A6(F:#[g,"_law_clubs","_law_clubs",Xn])(T:#[j]):FnOk P w K mg base #[f] 1 f fd ["_law_cell_here","_law_many"] zea:=by
 refine #[k,Kj];obtain⟨c,m,rfl,hm,h⟩:=h;rw[De];refine⟨_,(Zc (pS 2 Kj.nd (pI (iL K) (Yd (Nf [1,2,5,10,50,97,98] Df)) (Zu Yy (pv 0) Zf)))
 (Zd (Zl (Ww rfl (cT ["_law_cell_here","_law_step"] [0,2]) (Yw rfl T.zpl (Za (pv 1) Zb)) (fun _ _ _ _ _=>Wn) (fun _ _ _ _ _=>(Zu Yq Zf (Zu Yy (Zu Yq (Zu Xo (pv 1) Zf) (Zu P6 (pv 2) (pv 0))) Zf))))))),?_⟩
 refine⟨by show 7<=sizeLine;decide,fun p0 hp0=>?_⟩;walk_at "rd";refine⟨p0,_,_,_,rfl,rfl,SqL.of Ze,Wv (xs:=[1,2,5,10,50,97,98]) ⋯ (by show c%7<7;omega),?_⟩;refine⟨_,rfl,_,rfl,by omega,by omega,C5 (fun j=>V.int (C7 c j)) (by rw[zyh];exact zyg hm ⋯) (fun i R hi k=>?_) fun p hp=>?_⟩
 ·rw[zyh] at hi;walk_at "rd";refine⟨.inr ⟨by omega,by omega⟩,?_⟩;walk_at "rd";rw[zy7];exact k
 ·rw[zyh];refine h p _ ?_ ((Zk hp0).trans (Zk hp)) ((Zk hp0).free hp);rw[Ze];unfold Oa;rw[zzi];rfl
abbrev Q8:Stmt:=top 65
theorem Ck:#[n,#[L],#[L],Q8]:=fnS
theorem Cm(F:#[g,"_law_one_is","_law_one_is",Q8])(T:#[j])(zqu:Zz P w K mg base "_law_whole" 1 ["_law_found"] B5):FnOk P w K mg base #[f] 2 f fd #[L] Qk:=by
 refine #[k,Ck];obtain⟨x,rfl,hx,h⟩:=h;refine⟨_,Zd (Zl (zae (Zp P8 (pv 1) Y3 (Zt _)) (Vn P8 (pv 0) Y3 (Zt _)) (P5 (pF zqu hr (Za (pv 0) Zb)) (P4 (Vn Wd (pv 0) (pv 1) (Zt _)))))),?_⟩;rcases hx with rfl|⟨i,rfl⟩
 ·refine⟨_,rfl,rfl,_,rfl,?_⟩;refine iteT ?_;exact⟨_,rfl,rfl,h⟩
 ·refine⟨_,rfl,rfl,_,rfl,?_⟩;refine iteF ?_;refine⟨_,rfl,i,rfl,_,rfl,?_⟩;refine iteT ?_;refine⟨_,rfl,_,rfl,rfl,?_⟩;rw[zx9 rfl];exact h
abbrev Ru:Stmt:=top 66
theorem O0:#[n,["_law_found","_law_due","_law_k"],#[L],Ru]:=fnS
theorem Dg(F:#[g,"_law_list_is","_law_list_is",Ru])(T:#[j])(zo7:Zz P w K mg base "_law_one_is" 2 #[L] Qk):FnOk P w K mg base #[f] 3 f fd #[L] (Ob K):=by
 refine #[k,O0];obtain⟨b,c,xs,rfl,hb,hc,ho,hl,h⟩:=h;refine⟨_,(Zc (Z2 #[aq,0,_,Zb,Xh,Zp Pb #[ab,cL,Za,0,Zb] #[ab,cL,Za,1,Zb] (Zt _)]
  (Zd (Zl Yn))
  Zo)
 (Zc (Yp PassesOwn.leaving rfl (Yw rfl T.zpl (Za (Zm (cL K) (by rfl) T.zo5 PySem.boot_len (Za (pv 1) Zb)) Zb)) (pN 2 O0.nd)
  (Zd (Z2 (Yg (Yb (pF zo7 hr (Za (pI (iL K) (pv 0) (pv 2)) (Za (pI (iL K) (pv 1) (pv 2)) Zb)))))
   (Zd (Zl Yn))
   Zo)))
 (Zd (Zl Yn)))),?_⟩
 refine⟨_,rfl,_,_,_,_,rfl,.of (.lst hb),.inl ⟨_,rfl⟩,N4 K,_,rfl,?_⟩;refine iteF ?_;refine⟨_,rfl,b,_,rfl,#[x,hb],_,rfl,c,_,rfl,.inl hc,rfl,_,rfl,?_⟩;rw[zx9 rfl];refine iteF ?_;refine⟨_,rfl,c,_,rfl,.inl hc,_,rfl,by omega,by omega,#[ao,_]⟩
 ·subst e hv;rw[zyh] at hi;have h1:xs[i]?=some (xs[i]'hi):=zx2 hi;rw[zy7];refine⟨_,rfl,_,rfl,b,_,_,_,rfl,rfl,SqL.of hb,Z4 h1,_,rfl,_,rfl,c,_,_,_,rfl,rfl,hc,Z4 h1,_,rfl,ho _ (zyx hi),_,rfl,?_⟩;exact iteF ⟨rfl,#[y,_]⟩
 ·subst e hv;exact h
abbrev Ss:Stmt:=top 67
theorem Po:#[n,["_law_found","_law_due","_law_k"],#[L],Ss]:=fnS
theorem Gh(F:#[g,"_law_tuple_is","_law_tuple_is",Ss])(T:#[j])(zo7:Zz P w K mg base "_law_one_is" 2 #[L] Qk):FnOk P w K mg base #[f] 3 f fd #[L] (Kx K):=by
 refine #[k,Po];obtain⟨b,c,xs,rfl,hb,hc,ho,hl,h⟩:=h;refine⟨_,(Zc (Z2 (PW.pt (X3 #[an,Yg,Yb,Zm,Y7,rfl,Za (pv 0) (Za (Wf rfl T.zsy PyProof.Rows.boot_tuple (show RelV (.ty "tuple") _ from rfl)) Zb)] (Xh (Zp Pb #[ab,cL,Za,0,Zb] #[ab,cL,Za,1,Zb] (Zt _)))))
  (Zd (Zl Yn))
  Zo)
 (Zc (Yp PassesOwn.leaving rfl (Yw rfl T.zpl (Za (Zm (cL K) (by rfl) T.zo5 PySem.boot_len (Za (pv 1) Zb)) Zb)) (pN 2 Po.nd)
  (Zd (Z2 (Yg (Yb (pF zo7 hr (Za (pI (iU K) (pv 0) (pv 2)) (Za (pI (iU K) (pv 1) (pv 2)) Zb)))))
   (Zd (Zl Yn))
   Zo)))
 (Zd (Zl Yn)))),?_⟩
 refine⟨_,rfl,_,_,_,_,rfl,.of (.tup hb),.inl ⟨_,rfl⟩,B4 K,_,rfl,?_⟩;refine iteF ?_;refine⟨_,rfl,b,_,rfl,.inr (SqT.of hb),_,rfl,c,_,rfl,.inr hc,rfl,_,rfl,?_⟩;rw[zx9 rfl];refine iteF ?_;refine⟨_,rfl,c,_,rfl,.inr hc,_,rfl,by omega,by omega,#[ao,_]⟩
 ·subst e hv;rw[zyh] at hi;have h1:xs[i]?=some (xs[i]'hi):=zx2 hi;rw[zy7];refine⟨_,rfl,_,rfl,b,_,_,_,rfl,rfl,SqT.of hb,Z4 h1,_,rfl,_,rfl,c,_,_,_,rfl,rfl,hc,Z4 h1,_,rfl,ho _ (zyx hi),_,rfl,?_⟩;exact iteF ⟨rfl,#[y,_]⟩
 ·subst e hv;exact h
abbrev Su:Stmt:=top 68
theorem Pp:#[n,["_law_found","_law_due","_law_k"],#[L],Su]:=fnS
theorem Gi(F:#[g,"_law_rows_are","_law_rows_are",Su])(T:#[j])(zqc:Zz P w K mg base "_law_tuple_is" 3 #[L] (Kx K)):FnOk P w K mg base #[f] 4 f fd #[L] (O9 K):=by
 refine #[k,Pp];obtain⟨b,c,ts,us,R,rfl,hb,hc,tl,ul,ho,hl,h⟩:=h;refine⟨_,(Zc (Z2 #[aq,0,_,Zb,Xh,Zp Pb #[ab,cL,Za,0,Zb] #[ab,cL,Za,1,Zb] (Zt _)]
  (Zd (Zl Yn))
  Zo)
 (Zc (Yp PassesOwn.leaving rfl (Yw rfl T.zpl (Za (Zm (cL K) (by rfl) T.zo5 PySem.boot_len (Za (pv 1) Zb)) Zb)) (pN 2 Pp.nd)
  (Zd (Z2 (Yg (Yb (pF zqc hr (Za (pI (iL K) (pv 0) (pv 2)) (Za (pI (iL K) (pv 1) (pv 2)) Zb)))))
   (Zd (Zl Yn))
   Zo)))
 (Zd (Zl Yn)))),?_⟩
 have el:ts.length=us.length:=by rw[tl.length,ul.length]
 have hul:=ul.length;refine⟨_,rfl,_,_,_,_,rfl,.of (.lst hb),.inl ⟨_,rfl⟩,N4 K,_,rfl,?_⟩;refine iteF ?_;refine⟨_,rfl,b,_,rfl,#[x,hb],_,rfl,c,_,rfl,.inl hc,rfl,_,rfl,?_⟩;rw[el,zx9 rfl];refine iteF ?_;refine⟨_,rfl,c,_,rfl,.inl hc,_,rfl,by omega,by omega,#[ao,_]⟩
 ·subst e hv;rw[zyh] at hi;have hR:i<R.length:=by rw[<- ul.length];exact hi
  obtain⟨t1,e1,q1⟩:=tl.getR (zx2 hR);obtain⟨t2,e2,q2⟩:=ul.getR (zx2 hR);obtain⟨o1,o2⟩:=ho _ (zyx hR);rw[zy7];refine⟨_,rfl,_,rfl,b,_,_,_,rfl,rfl,SqL.of hb,Z4 e1,_,rfl,_,rfl,c,_,_,_,rfl,rfl,hc,Z4 e2,t1,t2,_,rfl,q1,SqT.of q2,o2,o1,_,rfl,?_⟩;exact iteF ⟨rfl,#[y,_]⟩
 ·subst e hv;exact h
abbrev Ug:Stmt:=top 69
theorem Xb:#[n,["_law_found","_law_may","_law_left","_law_past","_law_due","_law_place","_law_number"],["_law_found","_law_may","_law_left"],Ug]:=fnS
theorem M3(F:#[g,"_law_is_shortage","_law_is_shortage",Ug])(T:#[j])(zqu:Zz P w K mg base "_law_whole" 1 ["_law_found"] B5)(zpe:Zz P w K mg base "_law_list_is" 3 #[L] (Ob K)):FnOk P w K mg base #[f] 4 f fd ["_law_found","_law_may","_law_left"] (Bf K):=by
 refine #[k,Xb];obtain⟨t,l,lp,lr,ls,rows,nu,gs,ps,rs,rfl,ht,hl,il,mo,hp,hrs,SP,h⟩:=h;have hu:=We hr;refine⟨_,(Zc (Z2 (PW.pt (X3 #[an,Yg,Yb,Zm,Y7,rfl,Za (pv 0) (Za (Wf rfl T.zsy PyProof.Rows.boot_tuple (show RelV (.ty "tuple") _ from rfl)) Zb)] (X3 (Zp Pb #[ab,cL,Za,0,Zb] Zf (Zt _)) (Xh #[an,Yg,Yb,Zm,Y7,rfl,Za (pI (iU K) (pv 0) Zf) (Za (Wf rfl T.zp9 PyProof.Rows.boot_list (show RelV (.ty "list") _ from rfl)) Zb)]))))
  (Zd (Zl Yn))
  Zo)
 (Zc (pS 3 Xb.nd (Pa U8 Zf))
 (Zc (pS 4 Xb.nd P9)
 (Zc (Yp PassesOwn.leaving rfl (Z9 (K:=K) rfl (pI (iU K) (pv 0) Zf)) (pN 5 Xb.nd)
  (Zc (Z2 (PW.pt (X3 (Yg (Yb (pF zqu hr (Za (pv 5) Zb)))) (X3 (Zp zg1 (pv 5) (pv 3) (Zt _)) (Xh (Zp zdv (pv 5) (Zm (cL K) (by rfl) T.zo5 PySem.boot_len (Za (pv 1) Zb)) (Zt _))))))
   (Zd (Zl Yn))
   Zo)
  (Zc (pS 3 Xb.nd (pv 5))
  (Zd (Yp PassesOwn.leaving rfl (Z9 (K:=K) rfl (pI (iL K) (pv 1) (pv 5))) (pN 6 Xb.nd)
   (Zd (Yu hu (pv 4) (pv 6) Yn rfl)))))))
 (Zc (Z2 (Yg (Yb (pF zpe hr (Za (pI (iU K) (pv 0) Zf) (Za (Zm (Qo rfl) (by rfl) T.ztk PyProof.Rows.boot_sorted (Za (pv 4) Zb)) Zb)))))
  (Zd (Zl Yn))
  Zo)
 (Zd (Zl (P5 (Vn Wd (Zm (cL K) (by rfl) T.zo5 PySem.boot_len (Za (pI (iU K) (pv 0) Zf) Zb)) (Zu Yq (Zm (cL K) (by rfl) T.zo5 PySem.boot_len (Za (pI (iU K) (pv 0) Zf) Zb)) (pv 2)) (Zt _)) (P4 (zmj (Vn Tu (pv 2) Zf (Zt _)) (P4 (Vn (zd7 (K:=K) rfl hr.units) (pI (iU K) (pv 0) Zf) (Yd Zb) (Zt _))))))))))))),?_⟩
 show let y1:TS:=_;let y2:TS:=Z0 _ y1;let y3:TS:=_;let y4:TS:=Z0 _ y3;let y5:TS:=Z0 (ze8 _ _ (Z0 _ y2)) y4;let y6:TS:=Z0 _ y5;let y7:TS:=Z0 _ y6;Z0 _ y7 _ _ _;intro y1 y2 y3 y4 y5 y6 y7;have line0:1000<sizeLine:=Up ⋯;have hll:(ls.map V.ref).length=rows.length:=by rw[zx1];exact il.length
 have hnl:(Vg ps).length=ps.length:=by unfold Vg;rw[zx1]
 refine Xl (W0 (b:=false) (T1 (b:=false) (c:=false) (fun Q k=>⟨_,rfl,_,_,_,_,rfl,.of (.tup ht),.inl ⟨_,rfl⟩,B4 K,_,rfl,k⟩) (T1 (b:=false) (c:=false) (fun Q k=>⟨_,rfl,t,_,rfl,.inr (SqT.of ht),rfl,_,rfl,k⟩) fun Q k=>⟨_,rfl,t,_,_,_,rfl,rfl,SqT.of ht,rfl,_,_,_,_,rfl,.of (.lst hp),.inl ⟨_,rfl⟩,N4 K,_,rfl,k⟩)) #[S]);refine#[q,_,fun ld hld=>?_];refine al (upd _ ld _) hld rfl fun H1 q1 s1=>?_;have fld:H ld=none:=hld;refine⟨_,rfl,t,_,_,_,rfl,rfl,SqT.of (s1 _ _ ht),rfl,lp,rfl,⟨_,SqL.of (s1 _ _ hp)⟩,?_⟩
 let jv1:Nat->L2.St->Hp->Prop:=fun i σ' H'=>∃ (pst:Int) (kr:List (Key×V)) (rl:List Int) (v5 v6:Option V),σ'=[#[d,t],#[d,l],#[l,((Xz gs).length:Nat)],#[l,pst],#[d,ld],v5,v6]/\#[p]/\H' ld=#[b,.dK,kr]/\kr.map (·.1)=rl.map (inl:Int->Key)/\rl.Nodup/\(∀ p∈ps.drop i,pst<(p:Nat))/\∀ n,n∈rl↔∃ p∈ps.take i,∃ r,rows[p]?=some r/\n∈r
 refine Xr (K:=K) (a:=lp) (xs:=Vg ps) jv1
  ⟨-1,[],[],_,_,rfl,s1,q1,rfl,zzw,fun p _=>by omega,by simp⟩ (by rintro i σ' H' _ ⟨_,_,_,_,_,_,z,_⟩;exact #[K,z,hp]) ?_ ?_
 ·rintro i x σ' Ha hx ⟨pst,kr,rl,v5,v6,rfl,sa,hda,kkr,ndr,past,memr⟩;have hi:i<ps.length:=by have:=(zx3.mp hx).1;rw[hnl] at this;exact this
  have hq0:ps[i]?=some (ps[i]'hi):=zx2 hi;have etk:ps.take (i+1)=ps.take i++[ps[i]'hi]:=zyl hi;have edr:ps.drop i=ps[i]'hi :: ps.drop (i+1):=List.drop_eq_getElem_cons hi;generalize (ps[i]'hi)=q at hq0 etk edr;have ex:x=.int (q:Nat):=by unfold Vg at hx;rw[zx5,hq0] at hx;exact(Option.some.inj hx).symm
  subst ex;have hqm:=zyb hq0;have hqr0:=SP.lt q hqm;have hpast:pst<(q:Nat):=past q (by rw[edr];simp);have hnext:∀ p∈ps.drop (i+1),((q:Nat):Int)<(p:Nat):=fun p hp'=>by
   have h1:(ps.drop i).Pairwise (· < ·):=SP.up.sublist (List.drop_sublist _ _);rw[edr,List.pairwise_cons] at h1;have:=h1.1 p hp';omega
  have hqr:rows[q]?=some (rows[q]'hqr0):=zx2 hqr0;have hrm:rows[q]'hqr0∈rows:=zyx _;generalize (rows[q]'hqr0)=r at hqr hrm;obtain⟨lq,e2',e3⟩:=il.getR hqr;have hl':(ls.map V.ref)[q]?=#[d,lq]:=by rw[zx5,e2'];rfl
  walk_at "if";refine Xl (W0 (b:=false) (T1 (b:=false) (c:=false) (fun Q k=>⟨_,rfl,_,rfl,_,rfl,k⟩) (T1 (b:=false) (c:=false) (fun Q k=>⟨_,rfl,_,rfl,_,_,rfl,rfl,_,rfl,by rw[zye (show ¬ (((q:Nat):Int)<=pst) by omega)];exact k⟩) fun Q k=>⟨_,rfl,_,rfl,l,_,rfl,#[x,sa _ _ hl],_,_,rfl,rfl,_,rfl,by rw[hll,zye (show ¬ (((rows.length:Nat):Int)<=(q:Nat)) by omega)];exact k⟩)) #[S]);refine#[q,_,?_];refine⟨_,rfl,_,rfl,l,_,_,_,rfl,rfl,#[K,sa,hl],Z4 hl',lq,rfl,⟨_,SqL.of (sa _ _ e3)⟩,?_⟩
  let jv2:Nat->L2.St->Hp->Prop:=fun j σ' H'=>∃ (kr:List (Key×V)) (rl:List Int) (v6:Option V),σ'=[#[d,t],#[d,l],#[l,((Xz gs).length:Nat)],#[l,(q:Nat)],#[d,ld],#[l,(q:Nat)],v6]/\#[p]/\H' ld=#[b,.dK,kr]/\kr.map (·.1)=rl.map (inl:Int->Key)/\rl.Nodup/\∀ n,n∈rl↔(∃ p∈ps.take i,∃ r,rows[p]?=some r/\n∈r)\/n∈r.take j
  refine Xr (K:=K) (a:=lq) (xs:=r.map V.int) jv2
   ⟨kr,rl,_,rfl,sa,hda,kkr,ndr,fun n=>by rw[memr];simp⟩ (by rintro j σ' H' _ ⟨_,_,_,_,z,_⟩;exact #[K,z,e3]) ?_ ?_
  ·rintro j y σ' Hd hy ⟨kr,rl,w6,rfl,sd,hrd,kkr,ndr,memr⟩;have hj:j<r.length:=by have:=(zx3.mp hy).1;rw[zx1] at this;exact this
   have hrj:r[j]?=some (r[j]'hj):=zx2 hj;have etj:r.take (j+1)=r.take j++[r[j]'hj]:=zyl hj;generalize (r[j]'hj)=n at hrj etj;have ey:y=.int n:=by rw[zx5,hrj] at hy;exact(Option.some.inj hy).symm
   subst ey;have hsub:∀ m∈rl,m∈nu:=fun m hm=>by
    rcases(memr m).mp hm with ⟨p,_,r',h1,h2⟩|h1
    ·exact(mo.sub r' (zyb h1)).2 m h2
    ·exact(mo.sub r hrm).2 m (zzx h1)
   have hkr:kr.length<=30:=by
    have:=congrArg List.length kkr;rw[zx1,zx1] at this;rw[this];exact zyg (ndr.length_le_of_subset hsub) mo.crowd
   refine⟨_,rfl,_,rfl,ld,_,rfl,DPut.k (k:=inl n) hrd ⋯,putK kr (inl n) (.bl true),Ff rl n,_,rfl,Yx fld sd,Ze,Fg znm kkr n _,N8 ndr,fun m=>?_⟩;rw[Fi,memr,etj,zyd,zx6,or_assoc]
  ·rintro σ' Hd ⟨kr,rl,w6,rfl,sd,hrd,kkr,ndr,memr⟩;rw[zx1,zyi] at memr;refine⟨_,kr,rl,_,_,rfl,sd,hrd,kkr,ndr,hnext,fun n=>?_⟩;rw[memr,etk];constructor
   ·rintro(⟨p,h1,h2⟩|h1)
    ·exact⟨p,zyp _ h1,h2⟩
    ·exact⟨q,by simp,r,hqr,h1⟩
   ·rintro⟨p,h1,r',h2,h3⟩;rcases zyd.mp h1 with z|z
    ·exact .inl ⟨p,z,r',h2,h3⟩
    ·rw[zx6.mp z,hqr] at h2;cases h2;exact .inr h3
 ·rintro σ' Ha ⟨pst,kr,rl,v5,v6,rfl,sa,hda,kkr,ndr,past,memr⟩;rw[hnl,zyi] at memr;have hsub:∀ m∈rl,m∈nu:=fun m hm=>by
   obtain⟨p,_,r',h1,h2⟩:=(memr m).mp hm;exact(mo.sub r' (zyb h1)).2 m h2
  have hrl30:rl.length<=30:=zyg (ndr.length_le_of_subset hsub) mo.crowd;have hrr:∀ n,n∈rl↔n∈rs:=fun n=>by rw[memr,SP.all]
  have hrs30:rs.length<=30:=by
   rw[<- Fj ndr (SP.rup.imp fun h z=>by omega) hrr];exact hrl30
  refine⟨_,rfl,t,_,_,_,rfl,rfl,SqT.of (sa _ _ ht),rfl,_,rfl,ld,kr,rl,rfl,.inl hda,kkr,by omega,fun l2 ns hl2 p3 p4=>?_⟩;have ens:=za5 p3 p4 ndr SP.rup hrr;subst ens;refine #[F,l2,hl2,fun H8 q8 s8=>?_];have s08:=sa.trans s8;refine⟨lr,l2,_,rfl,s08 _ _ hrs,SqL.of q8,zh3,by rw[zx1];omega,_,rfl,?_⟩;refine #[S];refine⟨_,rfl,t,_,_,_,rfl,rfl,SqT.of (s08 _ _ ht),rfl,lp,_,rfl,#[x,s08 _ _ hp],_,rfl,t,_,_,_,rfl,rfl,SqT.of (s08 _ _ ht),rfl,lr,_,rfl,#[x,s08 _ _ hrs],_,rfl,_,_,rfl,rfl,rfl,_,rfl,?_⟩;have hcnt:=SP.cnt;rw[hnl,zx1,R0,zx9 (show ((ps.length:Nat):Int)=((ns.length:Nat):Int)+(((Xz gs).length:Nat):Int) by omega)];refine iteT ?_;refine⟨_,rfl,_,_,rfl,rfl,_,rfl,?_⟩;refine itD (fun hz=>h H8 s08) fun hz=>?_;have hl0:Xz gs=[]:=zze.mp ⋯;have hps:=SP.nil hl0;refine⟨_,rfl,t,_,_,_,rfl,rfl,SqT.of (s08 _ _ ht),rfl,by show 0<=sizeLine;decide,fun m0 hm0=>⟨.lst ((ps.map fun (k:Nat)=>((k:Nat):Int)).map Dt.int),.lst [],.lst (SqL.of (Zk hm0 _ _ (s08 _ _ hp))) (zeh ps),.lst (SqL.of Ze) .nil,B8 _,B9,?_⟩⟩;rw[if_neg ⋯,Aa,hps];exact h _ (s08.trans (Zk hm0))
abbrev Te:Stmt:=top 70
theorem Qc:#[n,["_law_found","_law_due","_law_k"],#[L],Te]:=fnS
theorem Jp(F:#[g,"_law_words_are","_law_words_are",Te])(T:#[j]):FnOk P w K mg base #[f] 1 f fd #[L] (zee K):=by
 refine #[k,Qc];obtain⟨b,c,xs,rfl,hb,hc,hl,h⟩:=h;refine⟨_,(Zc (Z2 #[aq,0,_,Zb,Xh,Zp Pb #[ab,cL,Za,0,Zb] #[ab,cL,Za,1,Zb] (Zt _)]
  (Zd (Zl Yn))
  Zo)
 (Zc (Yp PassesOwn.leaving rfl (Yw rfl T.zpl (Za (Zm (cL K) (by rfl) T.zo5 PySem.boot_len (Za (pv 1) Zb)) Zb)) (pN 2 Qc.nd)
  (Zd (Z2 (PW.pt (X3 (Yg (Yb (Zm (Y7 (K:=K) rfl) (by rfl) T.zo8 PyProof.Rows.boot_isinstance (Za (pI (iL K) (pv 0) (pv 2)) (Za (Wf rfl T.zu5 PyProof.Rows.boot_str (show RelV (.ty "str") _ from rfl)) Zb))))) (Xh (Zp Pb (pI (iL K) (pv 0) (pv 2)) (pI (iL K) (pv 1) (pv 2)) (Zt _)))))
   (Zd (Zl Yn))
   Zo)))
 (Zd (Zl Yn)))),?_⟩
 refine⟨_,rfl,_,_,_,_,rfl,.of (.lst hb),.inl ⟨_,rfl⟩,N4 K,_,rfl,?_⟩;refine iteF ?_;refine⟨_,rfl,b,_,rfl,#[x,hb],_,rfl,c,_,rfl,.inl hc,rfl,_,rfl,?_⟩;rw[zx9 rfl];refine iteF ?_;refine⟨_,rfl,c,_,rfl,.inl hc,_,rfl,by omega,by rw[zx1];omega,#[ao,_]⟩
 ·subst e hv;rw[zx1,zyh] at hi;have h1:(xs.map V.str)[i]?=#[b,.str,xs[i]'hi]:=by rw[zx5,zx2 hi];rfl
  rw[zy7];refine⟨_,rfl,_,rfl,b,_,_,_,rfl,rfl,SqL.of hb,Z4 h1,_,_,_,_,rfl,.of (.str _),.inl ⟨_,rfl⟩,zhu K,_,rfl,?_⟩;refine iteF ?_;refine⟨_,rfl,_,rfl,b,_,_,_,rfl,rfl,SqL.of hb,Z4 h1,_,rfl,_,rfl,c,_,_,_,rfl,rfl,hc,Z4 h1,rfl,_,rfl,?_⟩;rw[zx9 rfl];exact iteF ⟨rfl,#[y,_]⟩
 ·subst e hv;exact h
abbrev Rv:Stmt:=top 71
theorem Dh:#[n,#[L],#[L],Rv]:=fnS
theorem Dj(F:#[g,"_law_deed_is","_law_deed_is",Rv])(T:#[j])(zo7:Zz P w K mg base "_law_one_is" 2 #[L] Qk):FnOk P w K mg base #[f] 3 f fd #[L] Ei:=by
 refine #[k,Dh];obtain⟨t1,t2,d,rfl,h1,h2,h⟩:=h;refine⟨_,(Zc (Z2 (PW.pt (X3 #[an,Yg,Yb,Zm,Y7,rfl,Za (pv 0) (Za (Wf rfl T.zsy PyProof.Rows.boot_tuple (show RelV (.ty "tuple") _ from rfl)) Zb)] (X3 (Zp Pb #[ab,cL,Za,0,Zb] Zf (Zt _)) (Xh #[an,Yg,Yb,Zm,Y7,rfl,Za (pI (iU K) (pv 0) Zf) (Za (Wf rfl T.zu5 PyProof.Rows.boot_str (show RelV (.ty "str") _ from rfl)) Zb)]))))
  (Zd (Zl Yn))
  Zo)
 (Zd (Zl (P5 (Vn Wd (pI (iU K) (pv 0) Zf) (pI (iU K) (pv 1) Zf) (Zt _)) (P5 (pF zo7 hr (Za (pI (iU K) (pv 0) Zf) (Za (pI (iU K) (pv 1) Zf) Zb))) (P4 (pF zo7 hr (Za (pI (iU K) (pv 0) Zf) (Za (pI (iU K) (pv 1) Zf) Zb))))))))),?_⟩
 have h1:H t1=#[b,.tup,[.str d.1,.int d.2.1,.int d.2.2]]:=h1;have h2:H t2=#[b,.tup,[.str d.1,.int d.2.1,.int d.2.2]]:=h2;refine Xl ?_;refine⟨_,rfl,_,_,_,_,rfl,.of (.tup h1),.inl ⟨_,rfl⟩,B4 K,_,rfl,?_⟩;refine iteF ?_;refine⟨_,rfl,t1,_,rfl,.inr (SqT.of h1),rfl,_,rfl,?_⟩;refine(show if (!#[i,V.int ((3:Nat):Int)=V.int 3])=true then _ else _ from ?_);rw[zx9 (show V.int ((3:Nat):Int)=V.int 3 from rfl)];refine iteF ?_;refine⟨_,rfl,t1,_,_,_,rfl,rfl,SqT.of h1,rfl,_,_,_,_,rfl,.of (.str _),.inl ⟨_,rfl⟩,zhu K,_,rfl,?_⟩;refine #[S];dsimp only;refine⟨_,rfl,t1,_,_,_,rfl,rfl,SqT.of h1,rfl,_,rfl,t2,_,_,_,rfl,rfl,SqT.of h2,rfl,rfl,true,by rw[zx9 rfl],iteT ?_⟩;refine⟨_,rfl,t1,_,_,_,rfl,rfl,SqT.of h1,rfl,_,rfl,t2,_,_,_,rfl,rfl,SqT.of h2,rfl,.int d.2.1,rfl,.inr ⟨_,rfl⟩,true,rfl,iteT ?_⟩;exact⟨_,rfl,t1,_,_,_,rfl,rfl,SqT.of h1,rfl,_,rfl,t2,_,_,_,rfl,rfl,SqT.of h2,rfl,.int d.2.2,rfl,.inr ⟨_,rfl⟩,h⟩
abbrev Tf:Stmt:=top 72
theorem Qd:#[n,["_law_found","_law_due","_law_k"],#[L],Tf]:=fnS
theorem Jq(F:#[g,"_law_deeds_are","_law_deeds_are",Tf])(T:#[j])(zp6:Zz P w K mg base "_law_deed_is" 3 #[L] Ei):FnOk P w K mg base #[f] 4 f fd #[L] (Mm K):=by
 refine #[k,Qd];obtain⟨b,c,ts,us,ds,rfl,hb,hc,tl,ul,hl,h⟩:=h;refine⟨_,(Zc (Z2 #[aq,0,_,Zb,Xh,Zp Pb #[ab,cL,Za,0,Zb] #[ab,cL,Za,1,Zb] (Zt _)]
  (Zd (Zl Yn))
  Zo)
 (Zc (Yp PassesOwn.leaving rfl (Yw rfl T.zpl (Za (Zm (cL K) (by rfl) T.zo5 PySem.boot_len (Za (pv 1) Zb)) Zb)) (pN 2 Qd.nd)
  (Zd (Z2 (Yg (Yb (pF zp6 hr (Za (pI (iL K) (pv 0) (pv 2)) (Za (pI (iL K) (pv 1) (pv 2)) Zb)))))
   (Zd (Zl Yn))
   Zo)))
 (Zd (Zl Yn)))),?_⟩
 have e1:=tl.length;have e2:=ul.length;rw[zx1] at e1 e2;have el:ts.length=us.length:=by omega
 refine⟨_,rfl,_,_,_,_,rfl,.of (.lst hb),.inl ⟨_,rfl⟩,N4 K,_,rfl,?_⟩;refine iteF ?_;refine⟨_,rfl,b,_,rfl,#[x,hb],_,rfl,c,_,rfl,#[x,hc],rfl,_,rfl,?_⟩;rw[el,zx9 rfl];refine #[S];dsimp only;refine⟨_,rfl,c,_,rfl,#[x,hc],_,rfl,by omega,by omega,#[ao,_]⟩
 ·subst e hv;rw[zyh] at hi;have hd:i<ds.length:=by omega
  obtain⟨t1,x1,x2⟩:=tl.getR (i:=i) (r:=W2 (ds[i]'hd)) (by rw[zx5,zx2 hd];rfl);obtain⟨t2,y1,y2⟩:=ul.getR (i:=i) (r:=W2 (ds[i]'hd)) (by rw[zx5,zx2 hd];rfl);rw[zy7];walk_at "if";refine⟨_,rfl,_,rfl,b,_,_,_,rfl,rfl,SqL.of hb,Z4 x1,_,rfl,_,rfl,c,_,_,_,rfl,rfl,SqL.of hc,Z4 y1,t1,t2,_,rfl,x2,y2,true,rfl,?_⟩;exact iteF (Zx ⟨rfl,#[y,_]⟩)
 ·subst e hv;exact h
abbrev Tg:Stmt:=top 74
theorem Qe:#[n,["_law_found","_law_due","_law_k"],#[L],Tg]:=fnS
theorem Jr(F:#[g,"_law_moves_are","_law_moves_are",Tg])(T:#[j])(zo7:Zz P w K mg base "_law_one_is" 2 #[L] Qk)(zpk:Zz P w K mg base "_law_rows_are" 4 #[L] (O9 K)):FnOk P w K mg base #[f] 5 f fd #[L] (Eg K):=by
 refine #[k,Qe];obtain⟨ok,ok',b,c,ts,us,G0,rfl,hb,hc,g1,g2,hl1,hl2,h⟩:=h;refine⟨_,(Zc (Z2 #[aq,0,_,Zb,Xh,Zp Pb #[ab,cL,Za,0,Zb] #[ab,cL,Za,1,Zb] (Zt _)]
  (Zd (Zl Yn))
  Zo)
 (Zc (Yp PassesOwn.leaving rfl (Yw rfl T.zpl (Za (Zm (cL K) (by rfl) T.zo5 PySem.boot_len (Za (pv 1) Zb)) Zb)) (pN 2 Qe.nd)
  (Zc (Z2 (PW.pt (X3 (Yg (Yb (Zm (Y7 (K:=K) rfl) (by rfl) T.zo8 PyProof.Rows.boot_isinstance (Za (pI (iL K) (pv 0) (pv 2)) (Za (Wf rfl T.zsy PyProof.Rows.boot_tuple (show RelV (.ty "tuple") _ from rfl)) Zb))))) (Xh (Zp Pb (Zm (cL K) (by rfl) T.zo5 PySem.boot_len (Za (pI (iL K) (pv 0) (pv 2)) Zb)) Zf (Zt _)))))
   (Zd (Zl Yn))
   Zo)
  (Zd (Z2 (PW.pt (X3 (Yg (Yb (pF zo7 hr (Za (pI (iU K) (pI (iL K) (pv 0) (pv 2)) Zf) (Za (pI (iU K) (pI (iL K) (pv 1) (pv 2)) Zf) Zb))))) (Xh (Yg (Yb (pF zpk hr (Za (pI (iU K) (pI (iL K) (pv 0) (pv 2)) Zf) (Za (pI (iU K) (pI (iL K) (pv 1) (pv 2)) Zf) Zb))))))))
   (Zd (Zl Yn))
   Zo))))
 (Zd (Zl Yn)))),?_⟩
 have e1:=g1.length;have e2:=g2.length;have el:ts.length=us.length:=by omega
 refine⟨_,rfl,_,_,_,_,rfl,.of (.lst hb),.inl ⟨_,rfl⟩,N4 K,_,rfl,?_⟩;refine iteF ?_;refine⟨_,rfl,b,_,rfl,#[x,hb],_,rfl,c,_,rfl,#[x,hc],rfl,_,rfl,?_⟩;rw[el,zx9 rfl];refine #[S];dsimp only;refine⟨_,rfl,c,_,rfl,#[x,hc],_,rfl,by omega,by omega,#[ao,_]⟩
 ·subst e hv;rw[zyh] at hi;have hi1:i<ts.length:=by omega
  obtain⟨t1,l1,n1,us1,st1,x1,x2,x3,x4,x5,_⟩:=g1.get (zx2 hi1);obtain⟨t2,l2,n2,us2,st2,y1,y2,y3,y4,y5,_⟩:=g2.get (zx2 hi);rw[x2] at y2;cases y2;have w1:ts[i]?=#[d,t1]:=by rw[zx2 hi1,x1]
  have w2:us[i]?=#[d,t2]:=by rw[zx2 hi,y1]
  have hsl:=hl2 _ (zyb x2);rw[zy7];walk_at "if";refine Xl ?_;refine⟨_,rfl,_,rfl,b,_,_,_,rfl,rfl,SqL.of hb,Z4 w1,_,_,_,_,rfl,.of (.tup x3),.inl ⟨_,rfl⟩,B4 K,_,rfl,?_⟩;refine iteF ?_;refine⟨_,rfl,_,rfl,b,_,_,_,rfl,rfl,SqL.of hb,Z4 w1,t1,_,rfl,.inr (SqT.of x3),rfl,_,rfl,?_⟩;refine(show if (!#[i,V.int ((2:Nat):Int)=V.int 2])=true then _ else _ from ?_);rw[zx9 (show V.int ((2:Nat):Int)=V.int 2 from rfl)];refine #[S];dsimp only;refine⟨_,rfl,_,rfl,b,_,_,_,rfl,rfl,SqL.of hb,Z4 w1,t1,_,_,_,rfl,rfl,SqT.of x3,rfl,_,rfl,_,rfl,c,_,_,_,rfl,rfl,SqL.of hc,Z4 w2,t2,_,_,_,rfl,rfl,SqT.of y3,rfl,.int n1,rfl,.inr ⟨_,rfl⟩,true,rfl,?_⟩;refine iteF ?_;refine⟨_,rfl,_,rfl,b,_,_,_,rfl,rfl,SqL.of hb,Z4 w1,t1,_,_,_,rfl,rfl,SqT.of x3,rfl,_,rfl,_,rfl,c,_,_,_,rfl,rfl,SqL.of hc,Z4 w2,t2,_,_,_,rfl,rfl,SqT.of y3,rfl,l1,l2,us1,us2,st1.map Vz,rfl,x4,SqL.of y4,x5,y5,fun r hr=>?_,by rw[zx1];omega,true,rfl,?_⟩
  ·obtain⟨s,_,rfl⟩:=zya.mp hr;refine⟨by show 2<=1000;decide,fun x hx=>?_⟩;simp[Vz] at hx;rcases hx with rfl|rfl
   ·exact .inr ⟨_,rfl⟩
   ·cases s.2 with
    | none=>exact .inl rfl
    | some n=>exact .inr ⟨_,rfl⟩
  exact iteF (Zx ⟨rfl,#[y,_]⟩)
 ·subst e hv;exact h
abbrev O1:Stmt:=top 75
theorem Kl:#[n,["_law_rounds_here","_law_rest_here","_law_page"],["_law_rounds_here","_law_rest_here"],O1]:=fnS
theorem A7(F:#[g,"_law_first","_law_first",O1])(T:#[j]):FnOk P w K mg base #[f] 1 f fd ["_law_rounds_here","_law_rest_here"] zez:=by
 refine #[k,Kl];obtain⟨r,q,rfl,h⟩:=h;have hu:=We hr;refine⟨_,(Zc (pS 2 Kl.nd (zdz (Tv Zr (pv 0) (Tv Zr (pv 1) (Tv Zr (Yd Zb) (Tv Zr (Yd Zb) (Tv Zr (Yd Zb) (Tv Zr Y3 zdy)))))) rfl rfl (by simp) ⋯))
 (Zc (Yu hu (pv 2) Zr Y3 rfl)
 (Zc (Yu hu (pv 2) Zr (Yd Zb) rfl)
 (Zc (Yu hu (pv 2) Zr (Yd Zb) rfl)
 (Zd (Zl (pv 2))))))),?_⟩
 have sz0:([]:List V).length<=sizeLine:=zyv _;refine fun p fp=>?_;refine #[F,p,fp,fun H1 p1 s1=>?_];refine⟨_,rfl,_,rfl,sz0,fun l1 f1=>?_⟩;refine #[F,l1,f1,fun H2 a1 s2=>?_];have n1:l1≠p:=fun z=>by rw[z,p1] at f1;cases f1
 refine⟨sz0,fun l2 f2=>?_⟩;refine #[F,l2,f2,fun H3 a2 s3=>?_];have n2:l2≠p:=fun z=>by rw[z,s2 _ _ p1] at f2;cases f2
 refine⟨sz0,fun l3 f3=>?_⟩;refine #[F,l3,f3,fun H4 a3 s4=>?_];have n3:l3≠p:=fun z=>by rw[z,s3 _ _ (s2 _ _ p1)] at f3;cases f3
 refine⟨s4 _ _ (s3 _ _ (s2 _ _ p1)),pg6 r q l1 l2 l3 .non,rfl,(show 6<=15 by decide),?_⟩;rw[zgc];have s5:=Yx (o:=.dK (pg6 r q l1 l2 l3 .non)) fp (s1.trans (s2.trans (s3.trans s4)));have p5:(upd H4 p (.dK (pg6 r q l1 l2 l3 .non))) p=#[b,.dK,pg6 r q l1 l2 l3 .non]:=Ze;have b1:#[w,upd H4 p (.dK (pg6 r q l1 l2 l3 .non)),l1,[]]:=by rw[Zj n1];exact s4 _ _ (s3 _ _ a1)
 have b2:#[w,upd H4 p (.dK (pg6 r q l1 l2 l3 .non)),l2,[]]:=by rw[Zj n2];exact s4 _ _ a2
 have b3:#[w,upd H4 p (.dK (pg6 r q l1 l2 l3 .non)),l3,[]]:=by rw[Zj n3];exact a3
 generalize upd H4 p (.dK (pg6 r q l1 l2 l3 .non))=H5 at s5 p5 b1 b2 b3 ⊢;walk_at "if";refine⟨_,rfl,p,_,rfl,DPut.k (k:=inr "listed") p5 (K7 (x:=.non) (y:=.non)).1,?_⟩;have s6:=Yx (o:=.dK (putK (pg6 r q l1 l2 l3 .non) (.inr "listed") .non)) fp s5;have p6:(upd H5 p (.dK (putK (pg6 r q l1 l2 l3 .non) (.inr "listed") .non))) p=#[b,.dK,putK (pg6 r q l1 l2 l3 .non) (.inr "listed") .non]:=Ze;have c1:=(Zj (H:=H5) (o:=.dK (putK (pg6 r q l1 l2 l3 .non) (.inr "listed") .non)) n1).trans b1;have c2:=(Zj (H:=H5) (o:=.dK (putK (pg6 r q l1 l2 l3 .non) (.inr "listed") .non)) n2).trans b2;have c3:=(Zj (H:=H5) (o:=.dK (putK (pg6 r q l1 l2 l3 .non) (.inr "listed") .non)) n3).trans b3;generalize upd H5 p (.dK (putK (pg6 r q l1 l2 l3 .non) (.inr "listed") .non))=H6 at s6 p6 c1 c2 c3 ⊢;refine⟨sz0,fun l4 f4=>?_⟩;refine #[F,l4,f4,fun H7 a4 s7=>?_];have n4:l4≠p:=fun z=>by rw[z,p6] at f4;cases f4
 refine⟨_,rfl,p,_,rfl,DPut.k (k:=inr "goes") (s7 _ _ p6) (K7 (y:=.non)).2.1,?_⟩;have s8:=Yx (o:=.dK (putK (putK (pg6 r q l1 l2 l3 .non) (.inr "listed") .non) (.inr "goes") (.ref l4))) fp (s6.trans s7);have p8:(upd H7 p (.dK (putK (putK (pg6 r q l1 l2 l3 .non) (.inr "listed") .non) (.inr "goes") (.ref l4)))) p=#[b,.dK,putK (putK (pg6 r q l1 l2 l3 .non) (.inr "listed") .non) (.inr "goes") (.ref l4)]:=Ze;have d1:=(Zj (H:=H7) (o:=.dK (putK (putK (pg6 r q l1 l2 l3 .non) (.inr "listed") .non) (.inr "goes") (.ref l4))) n1).trans (s7 _ _ c1);have d2:=(Zj (H:=H7) (o:=.dK (putK (putK (pg6 r q l1 l2 l3 .non) (.inr "listed") .non) (.inr "goes") (.ref l4))) n2).trans (s7 _ _ c2);have d3:=(Zj (H:=H7) (o:=.dK (putK (putK (pg6 r q l1 l2 l3 .non) (.inr "listed") .non) (.inr "goes") (.ref l4))) n3).trans (s7 _ _ c3);have d4:=(Zj (H:=H7) (o:=.dK (putK (putK (pg6 r q l1 l2 l3 .non) (.inr "listed") .non) (.inr "goes") (.ref l4))) n4).trans a4;generalize upd H7 p (.dK (putK (putK (pg6 r q l1 l2 l3 .non) (.inr "listed") .non) (.inr "goes") (.ref l4)))=H8 at s8 p8 d1 d2 d3 d4 ⊢;refine⟨sz0,fun l5 f5=>?_⟩;refine #[F,l5,f5,fun H9 a5 s9=>?_];have n5:l5≠p:=fun z=>by rw[z,p8] at f5;cases f5
 refine⟨_,rfl,p,_,rfl,DPut.k (k:=inr "moves") (s9 _ _ p8) K7.2.2,?_⟩;rw[zj3];refine#[q,_,h p _ ?_ (Yx fp (s8.trans s9)) fp];have fr:∀ x,H4 x=none->H x=none:=fun x hx=>s1.free (s2.free (s3.free (s4.free hx)));exact⟨l1,l2,l3,.non,.non,l4,l5,[],[],[],[],Ze,(Zj n1).trans (s9 _ _ d1),.nil,(Zj n2).trans (s9 _ _ d2),.nil,(Zj n3).trans (s9 _ _ d3),.nil,rfl,rfl,(Zj n4).trans (s9 _ _ d4),(Zj n5).trans a5,.nil,
  fp,s1.free f1,s1.free (s2.free f2),s1.free (s2.free (s3.free f3)),s6.free f4,s8.free f5⟩
abbrev Js:Stmt:=top 76
theorem Vx:#[n,["_law_page","_law_met_here","_law_listed","_law_goes","_law_moves","_law_may","_law_k"],["_law_page"],Js]:=fnS
theorem zdp(F:#[g,"_law_met","_law_met",Js])(T:#[j]):FnOk P w K mg base #[f] 1 f fd ["_law_page"] (An K):=by
 refine #[k,Vx];obtain⟨ok,d,P0,rfl,PA,PO,h⟩:=h;have hu:=We hr;refine⟨_,(Zc (pS 1 Vx.nd G7)
 (Zc (Yp PassesOwn.leaving rfl (Z9 (K:=K) rfl (M9 (Le (K:=K) rfl) (pD hu (pv 0) Zr) (Gv (Zm (O7 rfl) (by rfl) T.zuk PyProof.Rows.boot_max (Za Zf (Za (Zu Rf (Zm (cL K) (by rfl) T.zo5 PySem.boot_len (Za (pD hu (pv 0) Zr) Zb)) (pD hu (pv 0) Zr)) Zb)))) Gu)) (Xu (K:=K) (n:=4) rfl rfl (Zv (pN 2 Vx.nd) (Zv (pN 3 Vx.nd) (Zv (pN 4 Vx.nd) (Zv (pN 5 Vx.nd) Xt)))))
  (Zd (Yp PassesOwn.leaving rfl (Yw rfl T.zpl (Za (Zm (cL K) (by rfl) T.zo5 PySem.boot_len (Za (pv 2) Zb)) Zb)) (pN 6 Vx.nd)
   (Zd (Z2 (Zp Tj (pI (iL K) (pv 3) (pv 6)) Y3 (Zt _))
    (Zc (Yu hu (pv 1) (Yc (Za (pI (iL K) (pv 3) (pv 6)) (Za (pI (iU K) (pI (iL K) (pv 2) (pv 6)) Zf) Zb))) Yn rfl)
    (Zd (Yu hu (pv 1) (Yc (Za (pI (iL K) (pv 3) (pv 6)) (Za (pI (iU K) (pI (iL K) (pv 2) (pv 6)) Zf) Zb))) Yn rfl)))
    Zo)))))
 (Zd (Zl (pv 1))))),?_⟩
 obtain⟨lp,lo,lv,dv,li,lg,lm,pts,ots,vts,mts,a1,a2,a3,a4,a5,a6,a7,a8,a9,b1,b2,b3,o1,o2,o3,o4,o5,o6⟩:=PA;refine fun m fm=>?_;refine #[F,m,fm,fun H1 m1 s1=>?_];walk_at "if";refine⟨_,rfl,d,_,rfl,DGet.k (k:=.inr "over") (s1 _ _ a1),?_⟩;refine⟨_,rfl,d,_,rfl,DGet.k (k:=.inr "over") (s1 _ _ a1),lv,vts,rfl,#[x,s1 _ _ a6],_,rfl,d,_,rfl,DGet.k (k:=.inr "rest") (s1 _ _ a1),_,_,rfl,rfl,_,_,rfl,_,rfl,lv,vts,rfl,#[K,s1,a6],fun c fc=>?_⟩;have e0:=ziu vts vts.length P0.rest;rw[a7.length] at e0;have ez:(vts.length:Int)=(P0.over.length:Int):=by rw[a7.length]
 rw[ez,e0];obtain⟨k0,hk0⟩:∃ k:Nat,k=((P0.over.length:Int)-P0.rest).toNat:=#[y,_];rw[<- hk0];refine #[F,c,fc,fun H2 c2 s2=>?_];have ncm:c≠m:=fun z=>by rw[z,m1] at fc;cases fc
 have OV:Xf ok H2 (vts.drop k0) (P0.over.drop k0):=(a7.drop k0).keep (fun x o _ z=>s2 _ _ (s1 _ _ z)) fun x o z=>s2 _ _ (s1 _ _ z);have m2:=s2 _ _ m1;have hin:∀ s∈P0.over.drop k0,s∈P0.over:=fun s hs=>List.mem_of_mem_drop hs;have hlen:(P0.over.drop k0).length<=100:=by rw[z0b];have:=PO.1;omega
 generalize vts.drop k0=ds at c2 OV ⊢;refine⟨c,rfl,⟨_,SqL.of c2⟩,Xr (K:=K) (a:=c) (xs:=ds) (fun i σ H'=>(∃ v1 v2 v3 v4 v5,σ=[#[d,d],#[d,m],v1,v2,v3,v4,v5])/\(∀ x o,H2 x=#[c]->x≠m->H' x=#[c]) /\
  ∃ kvs,H' m=#[b,.dT,kvs]/\Mi kvs (P0.over.drop k0) i 0/\kvs.length<=40*i) ⟨⟨_,_,_,_,_,rfl⟩,fun _ _ e _=>e,[],m2,.zero _,by simp⟩ (fun i σ H' _ ⟨_,k,_⟩=>SqL.of (k _ _ c2 ncm)) ?_ ?_⟩
 ·rintro i x σ H' hx ⟨⟨v1,v2,v3,v4,v5,rfl⟩,k2,kvs,hm,mi,kl⟩;obtain⟨t,l,g,mm,y,ts,s,rfl,hs,ht,hl,tl,hg,_,_⟩:=OV.get hx;have htn:t≠m:=Y2 ht m2 (by intro z;cases z);have hln:l≠m:=Y2 hl m2 (by intro z;cases z);have hgn:g≠m:=Y2 hg m2 (by intro z;cases z);refine⟨t,_,rfl,SqT.of (k2 _ _ ht htn),rfl,_,_,rfl,_,_,rfl,_,_,rfl,_,_,rfl,rfl,?_⟩;have hsz:=PO.2.2 s (hin s (zyb hs));have hi:i<ds.length:=(zx3.mp hx).1;have hdl:=OV.length;have tln:ts.length=s.ms.length:=by rw[tl.length,zx1]
  have rln:(Ya s).length=s.ms.length:=by unfold Ya;rw[z0c,hsz.2.1,Nat.min_self]
  refine⟨_,rfl,l,ts,rfl,#[x,k2 _ _ hl hln],_,rfl,by omega,by omega,Xa (fun j σ H'=>(∃ v,σ=[#[d,d],#[d,m],#[d,l],#[d,g],#[d,mm],#[d,y],v])/\(∀ x o,H2 x=#[c]->x≠m->H' x=#[c]) /\
   ∃ kvs,H' m=#[b,.dT,kvs]/\Mi kvs (P0.over.drop k0) i j/\kvs.length<=40*i+2*j) ⟨⟨_,rfl⟩,k2,kvs,hm,mi,by omega⟩ ?_ ?_⟩
  ·rintro j σ H3 hj ⟨⟨v,rfl⟩,k3,kvs3,hm3,mi3,kl3⟩;rw[zyh] at hj;rw[zy7];have hj2:j<s.gv.length:=by omega
   have hg3:s.gv[j]?=some (s.gv[j]'hj2):=zx2 hj2;have hone:=hsz.2.2 _ (zyx hj2);generalize s.gv[j]'hj2=xv at hg3 hone;have ht3:ts[j]?=some (ts[j]'hj):=zx2 hj;obtain⟨tj,mj,e1,hmj,htj⟩:=Ni tl ht3;rw[e1] at ht3;have htjn:tj≠m:=Y2 htj m2 (by intro z;cases z);have hr3:(Ya s)[j]?=some (Fp mj xv):=by unfold Ya;rw[List.getElem?_zipWith,hmj,hg3]
   refine⟨_,rfl,_,rfl,g,_,_,_,rfl,rfl,SqL.of (k3 _ _ hg hgn),Z4 hg3,rfl,_,rfl,?_⟩;rcases hone with rfl|⟨w,rfl⟩
   ·refine iteF ?_;exact⟨#[y,_],k3,kvs3,hm3,mi3.none hs hr3 rfl,by omega⟩
   ·refine iteT ?_;refine⟨_,rfl,_,rfl,_,rfl,g,_,_,_,rfl,rfl,SqL.of (k3 _ _ hg hgn),Z4 hg3,?_⟩;have big:∀ n:Nat,n<=200000->n<sizeLine:=fun n hn=>Nat.lt_trans (zzq hn ⋯) T4;refine⟨_,rfl,_,rfl,l,_,_,_,rfl,rfl,SqL.of (k3 _ _ hl hln),Z4 ht3,tj,_,_,_,rfl,rfl,SqT.of (k3 _ _ htj htjn),rfl,sz2,fun t2 ht2=>⟨m,_,rfl,DPut.t (k:=[inl w,inl mj.1]) (by rw[Zj (Zh hm3 ht2)];exact hm3) Ze (big _ ⋯),?_⟩⟩;have k4:∀ x o,H2 x=#[c]->x≠m->upd (upd H3 t2 (.tup [.int w,.int mj.1])) m (.dT (putK kvs3 [inl w,inl mj.1] (.bl true))) x=#[c]:=fun x o e n=>by
     have:=k3 x o e n;rw[Zj n,Zj (Zh this ht2)];exact this
    have hm4:upd (upd H3 t2 (.tup [.int w,.int mj.1])) m (.dT (putK kvs3 [inl w,inl mj.1] (.bl true))) m=#[b,.dT,putK kvs3 [inl w,inl mj.1] (.bl true)]:=Ze;have l4:=X4 kvs3 ([inl w,inl mj.1]:List Key) (.bl true);generalize upd (upd H3 t2 (.tup [.int w,.int mj.1])) m (.dT (putK kvs3 [inl w,inl mj.1] (.bl true)))=H4 at k4 hm4 ⊢;refine⟨_,rfl,_,rfl,_,rfl,g,_,_,_,rfl,rfl,SqL.of (k4 _ _ hg hgn),Z4 hg3,?_⟩;refine⟨_,rfl,_,rfl,l,_,_,_,rfl,rfl,SqL.of (k4 _ _ hl hln),Z4 ht3,tj,_,_,_,rfl,rfl,SqT.of (k4 _ _ htj htjn),rfl,sz2,fun t4 ht4=>⟨m,_,rfl,DPut.t (k:=[inl w,inl mj.2.1]) (by rw[Zj (Zh hm4 ht4)];exact hm4) Ze (big _ ⋯),?_⟩⟩;have l5:=X4 (putK kvs3 ([inl w,inl mj.1]:List Key) (.bl true)) ([inl w,inl mj.2.1]:List Key) (.bl true);refine⟨#[y,_],fun x o e n=>?_,_,Ze,mi3.some hs hr3 rfl,by omega⟩;have:=k4 x o e n;rw[Zj n,Zj (Zh this ht4)];exact this
  ·rintro σ H3 ⟨⟨v,rfl⟩,k3,kvs3,hm3,mi3,kl3⟩;rw[zyh] at mi3 kl3;rw[tln,<- rln] at mi3;exact⟨⟨_,_,_,_,_,rfl⟩,k3,kvs3,hm3,mi3.next hs,by omega⟩
 ·rintro σ H' ⟨⟨v1,v2,v3,v4,v5,rfl⟩,k2,kvs,hm,mi,kl⟩;rw[OV.length] at mi;refine#[q,_,h m kvs H' hm (mi.all hk0) (fun x o e=>k2 _ _ (s2 _ _ (s1 _ _ e)) (Zh e fm)) fm]
abbrev M4:Stmt:=top 77
theorem Wm:#[n,["_law_page","_law_met_here","_law_person","_law_match","_law_number","_law_grade","_law_club","_law_home","_law_guest","_law_asked","_law_told"],["_law_page","_law_met_here","_law_person","_law_match"],M4]:=fnS
theorem zb4(F:#[g,"_law_bars","_law_bars",M4])(T:#[j]):FnOk P w K mg base #[f] 1 f fd ["_law_page","_law_met_here","_law_person","_law_match"] (Ea K):=by
 refine #[k,Wm];obtain⟨ok,d,m,t1,t2,P0,kvs,x,y,rfl,PA,hm,mo,h1,h2,h⟩:=h;have hu:=We hr;refine⟨_,(Zc (Nz (pv 2) (Xu (K:=K) (n:=3) rfl rfl (Zv (pN 4 Wm.nd) (Zv (pN 5 Wm.nd) (Zv (pN 6 Wm.nd) Xt)))))
 (Zc (Nz (pv 3) (Xu (K:=K) (n:=3) rfl rfl (Zv (pN 7 Wm.nd) (Zv (pN 8 Wm.nd) (Zv (pN 9 Wm.nd) Xt)))))
 (Zc (pS 10 Wm.nd (Yd Zb))
 (Zc (Z2 (Zp (Lq (K:=K) rfl hr.units) (Yc (Za (Zu Yq (Zm (cL K) (by rfl) T.zo5 PySem.boot_len (Za (pD hu (pv 0) Zr) Zb)) Zf) (Za (pv 4) Zb))) (pD hu (pv 0) Zr) (by with_unfolding_all rfl))
  (Zd (Y6 (pv 10) Zr))
  Zo)
 (Zc (Z2 (Zp Tu (pv 9) (pv 5) (Zt _))
  (Zd (Y6 (pv 10) Zr))
  Zo)
 (Zc (Z2 (PW.pt (X3 (Zp Wd (pv 6) (pv 7) (Zt _)) (Xh (Zp Wd (pv 6) (pv 8) (Zt _)))))
  (Zd (Y6 (pv 10) Zr))
  Zo)
 (Zc (Z2 (PW.pt (X3 (Qf (N3 hu (Yc (Za (pv 4) (Za (pv 7) Zb))) (pv 1))) (Xh (Qf (N3 hu (Yc (Za (pv 4) (Za (pv 8) Zb))) (pv 1))))))
  (Zd (Y6 (pv 10) Zr))
  Zo)
 (Zd (Zl (pv 10)))))))))),?_⟩
 show let y1:TS:=_;let y2:TS:=Z0 _ y1;let y3:TS:=Z0 _ y2;let y4:TS:=Z0 _ y3;let y5:TS:=Z0 _ y4;let y6:TS:=Z0 _ y5;let y7:TS:=Z0 _ y6;Z0 _ y7 _ _ _;intro y1 y2 y3 y4 y5 y6 y7;obtain⟨n,g,c⟩:=x;obtain⟨ho,gu,as⟩:=y;have h1:H t1=#[b,.tup,[.int n,.int g,.int c]]:=h1;have h2:H t2=#[b,.tup,[.int ho,.int gu,.int as]]:=h2;obtain⟨lp,lo,lv,dv,li,lg,lm,pts,ots,vts,mts,a1,a2,a3,a4,a5,a6,a7,a8,a9,c1,c2,c3,o1,o2,o3,o4,o5,o6⟩:=PA;refine⟨_,rfl,t1,_,rfl,SqT.of h1,rfl,_,_,rfl,_,_,rfl,_,_,rfl,rfl,?_⟩;refine⟨_,rfl,t2,_,rfl,SqT.of h2,rfl,_,_,rfl,_,_,rfl,_,_,rfl,rfl,?_⟩;refine#[af,fun l hl=>?_];refine al (upd _ l _) hl rfl fun H1 TH1 s1=>?_;have q1:H1 l=some (.lst (([]:List Str).map V.str)):=TH1;walk_at "if";have b1:=K2 (decide (((P0.over.length:Int)+1,n)∈P0.out)) "away";have b2:=K2 (decide (g<as)) "grade";have b3:=K2 (#[i,c=ho]||#[i,c=gu]) "club";refine S6 (b:=decide (((P0.over.length:Int)+1,n)∈P0.out)) (H0:=H) (fun Q q=>?_) hl s1 q1 ⋯ rfl fun H2 s2 q2 _=>?_
 ·refine⟨_,rfl,d,_,rfl,DGet.k (k:=.inr "over") (s1 _ _ a1),lv,vts,rfl,#[x,s1 _ _ a6],_,_,rfl,rfl,_,rfl,sz2,fun t ht=>?_⟩;have s3:=Zk (o:=.tup [.int ((vts.length:Int)+1),.int n]) ht;refine⟨_,rfl,d,_,rfl,DGet.k (k:=.inr "out") (s3 _ _ (s1 _ _ a1)),t,lo,ots,_,_,P0.out,rfl,rfl,SqT.of Ze,SqL.of (s3 _ _ (s1 _ _ a4)),a5.mono fun _ _ z=>s3 _ _ (s1 _ _ z),_,rfl,?_⟩;rw[a7.length] at s3 ⊢;exact q _ s3
 rw[List.nil_append] at q2;have din:∀ (H3:Hp) (cc:Int) (Q3:Bool->Hp->Prop),Same H H3->(∀ H4,Same H3 H4->Q3 (S5 (P0.over.map Ya) n cc P0.rest) H4)->∀ t,H3 t=none->Q3 (valV kvs [inl n,inl cc]).isSome (upd H3 t (.tup [.int n,.int cc])):=fun H3 cc Q3 s3 q3 t ht=>by
  rw[mo n cc];exact q3 _ (Zk ht)
 refine S6 (b:=decide (g<as)) (H0:=H) (Qm fun Q q=>⟨_,rfl,_,rfl,_,_,rfl,rfl,_,rfl,q⟩) hl s2 q2 ⋯ rfl fun H3 s3 q3 _=>?_;refine S6 (b:=decide (c=ho)||decide (c=gu)) (H0:=H) (Qm (T1 (fun Q q=>⟨_,rfl,_,rfl,rfl,_,rfl,R0▸q⟩) fun Q q=>⟨_,rfl,_,rfl,rfl,_,rfl,R0▸q⟩)) hl s3 q3 (by rw[zx4];omega) rfl fun H4 s4 q4 _=>?_;refine S6 (b:=S5 (P0.over.map Ya) n ho P0.rest||S5 (P0.over.map Ya) n gu P0.rest) (H0:=H) (zax (fun Q q=>?_) fun H5 s5 Q q=>?_) hl s4 q4 (by rw[zx4,zx4];omega) rfl fun H5 s5 q5 _=>?_
 ·exact⟨_,rfl,_,rfl,sz2,fun t ht=>⟨_,rfl,m,_,rfl,DGet.t (k:=[inl n,inl ho]) (Zk ht _ _ (s4 _ _ hm)) Ze,_,rfl,din _ ho _ s4 q t ht⟩⟩
 ·exact⟨_,rfl,_,rfl,sz2,fun t ht=>⟨_,rfl,m,_,rfl,DGet.t (k:=[inl n,inl gu]) (Zk ht _ _ (s5 _ _ (s4 _ _ hm))) Ze,_,rfl,din _ gu _ (s4.trans s5) q t ht⟩⟩
 refine#[q,_,h l H5 ?_ s5 hl];unfold whyP whyS;rw[q5,zzy,zzy]
abbrev M5:Stmt:=top 78
theorem U7:#[n,["_law_page","_law_met_here","_law_may","_law_match","_law_fit"],["_law_page"],M5]:=fnS
theorem zb5(F:#[g,"_law_open","_law_open",M5])(T:#[j])(zrx:Zz P w K mg base "_law_met" 1 ["_law_page"] (An K))(zre:Zz P w K mg base "_law_bars" 1 ["_law_page","_law_met_here","_law_person","_law_match"] (Ea K)):FnOk P w K mg base #[f] 2 f fd ["_law_page"] (zdd K):=by
 refine #[k,U7];obtain⟨ok,d,P0,ms,rfl,PA,PO,hms,hl1,hl2,h⟩:=h;have hu:=We hr;refine⟨_,(Zc (pS 1 U7.nd (pF zrx hr (Za (pv 0) Zb)))
 (Zc (pS 2 U7.nd (Yd Zb))
 (Zc (Yp PassesOwn.leaving rfl (Z9 (K:=K) rfl (pD hu (pv 0) Zr)) (pN 3 U7.nd)
  (Zc (V1 (i:=4) U7.nd rfl rfl rfl (cT ["_law_page","_law_met_here","_law_match"] [0,1,3]) (Z9 (K:=K) rfl (pD hu (pv 0) Zr)) (fun _ _ _ _ _=>Sz (Zp (zd7 (K:=K) rfl hr.units) (zd5 zre (hr.mono ⋯) zau rfl (Za (pv 1) (Za (pv 2) (Za (pv 0) (Za (pv 3) Zb))))) (Yd Zb) (Zt _))) (fun _ _ _ _ _=>(pv 0)))
  (Zd (Y6 (pv 2) (Ww rfl (cT [] []) (Z9 (K:=K) rfl (pv 4)) (fun _ _ _ _ _=>Wn) (fun _ _ _ _ _=>(pI (iU K) (pv 0) Zf)))))))
 (Zd (Zl (pv 2)))))),?_⟩
 refine⟨_,rfl,ok,d,P0,rfl,PA,PO,fun m kvs H1 hm mo s1 fm=>?_⟩;obtain⟨lp,lo,lv,dv,li,lg,lm,pts,ots,vts,mts,a1,a2,a3,a4,a5,a6,a7,a8,a9,c1,c2,c3,o1,o2,o3,o4,o5,o6⟩:=id PA;refine#[af,fun r hr'=>?_];have s2:=s1.trans (Zk (o:=.lst []) hr');have q2:upd H1 r (.lst []) r=#[b,.lst,[]]:=Ze;have hm2:upd H1 r (.lst []) m=#[b,.dT,kvs]:=Zk hr' _ _ hm;have fr:=s1.free hr';walk_at "if";generalize upd H1 r (.lst [])=H2 at s2 q2 hm2 ⊢;rw[hms] at a9;obtain⟨ll,ts,rfl,hll,tl,_⟩:=a9;have htl:ts.length=ms.length:=by rw[tl.length,zx1]
 have hpl:pts.length=P0.ppl.length:=by rw[a3.length,zx1]
 have hmr:m≠r:=fun z=>by rw[z,q2] at hm2;cases hm2
 refine⟨_,rfl,d,_,rfl,DGet.k (k:=.inr "listed") (s2 _ _ a1),ll,rfl,⟨_,SqL.of (s2 _ _ hll)⟩,Xr (K:=K) (a:=ll) (xs:=ts) (fun i σ H'=>(∃ v1 v2,σ=[#[d,d],#[d,m],#[d,r],v1,v2])/\(∀ x o,H2 x=#[c]->x≠r->H' x=#[c]) /\
  ∃ ls,H' r=#[R,ls.map,V.ref]/\ILs H' ls ((Pt P0 ms).take i)/\ls.length=i/\∀ x∈ls,H x=none/\x≠r) ⟨⟨_,_,rfl⟩,fun _ _ e _=>e,[],q2,.nil,rfl,by simp⟩ (fun i σ H' _ ⟨_,k,_⟩=>SqL.of (k _ _ (s2 _ _ hll) (Zh hll fr))) ?_ ?_⟩
 ·rintro i x σ H' hx ⟨⟨v1,v2,rfl⟩,k2,ls,hr3,il,hln,hfr⟩;obtain⟨t,mm,rfl,hmm,ht⟩:=Ni tl hx;have sh:#[p]:=fun x o e=>k2 _ _ (s2 _ _ e) (Zh e fr);refine#[ap,_,d,_,sh,_,sh,a2,?_];refine X0 (K:=K) (a:=lp) (xs:=pts) (fun i ys H''=>Same H' H''/\Z8 H'' ys (((P0.ppl.take i).filter fun x=>(whyP P0 x mm).isEmpty).map pV)) ⟨Same.refl _,.nil⟩ (fun i ys H'' _ ⟨z,_⟩=>SqL.of (z _ _ (sh _ _ a2))) (szN ⋯) (fun i ys H' ⟨_,e⟩=>by rw[e.length,zx1];exact zyg (zyw _ _) (zzc _ _)) ?_ ?_
  ·rintro j x ys H3 hx3 ⟨s3,tl3⟩;obtain⟨tp,pp,rfl,hpp,htp⟩:=Ni a3 hx3;have sh3:=sh.trans s3;refine⟨_,rfl,_,rfl,_,rfl,_,rfl,ok,d,m,tp,t,P0,kvs,pp,mm,rfl,PA.same sh3,s3 _ _ (k2 _ _ hm2 hmr),mo,sh3 _ _ htp,sh3 _ _ ht,fun lw H4 hlw s4 fw=>?_⟩;refine#[af,fun le hle=>?_];have s5:=s4.trans (Zk (o:=.lst []) hle);refine⟨_,_,.lst (SqL.of (Zk hle _ _ hlw)) (Eb _),.lst (SqL.of Ze) .nil,zj5 _ zj6,B9,_,rfl,?_⟩;generalize upd H4 le (.lst [])=H5 at s5 ⊢;rw[if_neg (show ¬ false=true by decide),Aa];have e:P0.ppl.take (j+1)=P0.ppl.take j++[pp]:=Xq hpp;rw[e,zzk,zx7];refine itB (fun hb=>?_) fun hb=>?_
   ·refine⟨_,rfl,s3.trans s5,?_⟩;rw[zzl (p:=fun x=>(whyP P0 x mm).isEmpty) (a:=pp) hb,zz6];exact(tl3.same s5).snoc (s5 _ _ (sh3 _ _ htp))
   ·refine⟨s3.trans s5,?_⟩;rw[zzm (p:=fun x=>(whyP P0 x mm).isEmpty) (a:=pp) (by rw[hb];decide),zz6,List.map_nil,z0e];exact tl3.same s5
  ·rintro ys H3 ⟨s3,tl3⟩ lf hlf;rw[hpl,zyi] at tl3;have s4:=s3.trans (Zk (o:=.lst ys) hlf);have q4:upd H3 lf (.lst ys) lf=#[b,.lst,ys]:=Ze;have tl4:=tl3.same (Zk (o:=.lst ys) hlf);show Wu 4 (V.ref lf) _ (upd H3 lf (.lst ys)) _;generalize upd H3 lf (.lst ys)=H4 at s4 q4 tl4 ⊢;have hfl:ys.length<=100:=by rw[tl3.length,zx1];exact zyg (zyw _ _) hl2
   walk_at "if";refine⟨_,rfl,r,_,rfl,s4 _ _ hr3,_,rfl,lf,rfl,⟨_,SqL.of q4⟩,X0 (K:=K) (a:=lf) (xs:=ys) (fun i zs H''=>Same H4 H''/\zs=((P0.ppl.filter fun x=>(whyP P0 x mm).isEmpty).take i).map fun x=>V.int x.1) #[y,Same.refl _] (fun i zs H'' _ ⟨z,_⟩=>#[K,z,q4]) (szN ⋯) (fun i zs H'' ⟨_,e⟩=>by rw[e,zx1];exact zzc _ _) ?_ ?_⟩
   ·rintro j x zs H5 hx5 ⟨s5,rfl⟩;obtain⟨tp,pp,rfl,hpp,htp⟩:=Ni tl4 hx5;unfold tYes;dsimp only;rw[if_pos rfl];refine⟨_,rfl,tp,_,_,_,rfl,rfl,SqT.of (s5 _ _ htp),show atI (pV pp) 0=some _ from rfl,s5,?_⟩;rw[Xq hpp,zx7];rfl
   ·rintro zs H5 ⟨s5,rfl⟩ ln hln';have hyl:ys.length=(P0.ppl.filter fun x=>(whyP P0 x mm).isEmpty).length:=by rw[tl3.length,zx1]
    rw[hyl,zyi];have er:(P0.ppl.filter fun x=>(whyP P0 x mm).isEmpty).map (fun x=>V.int x.1)=((P0.ppl.filter fun x=>(whyP P0 x mm).isEmpty).map (·.1)).map V.int:=by rw[zzi];rfl
    rw[er];have s6:=(s4.trans s5).trans (Zk (o:=.lst (((P0.ppl.filter fun x=>(whyP P0 x mm).isEmpty).map (·.1)).map V.int)) hln');have q6:upd H5 ln (.lst (((P0.ppl.filter fun x=>(whyP P0 x mm).isEmpty).map (·.1)).map V.int)) ln=some (.lst (((P0.ppl.filter fun x=>(whyP P0 x mm).isEmpty).map (·.1)).map V.int)):=Ze;have fl:H' ln=none:=(s4.trans s5).free hln';dsimp only;generalize upd H5 ln (.lst (((P0.ppl.filter fun x=>(whyP P0 x mm).isEmpty).map (·.1)).map V.int))=H6 at s6 q6 ⊢;refine⟨_,s6 _ _ hr3,szN (by rw[zx1];have:=(zx3.mp hx).1;omega),⟨_,_,rfl⟩,fun x o e n=>by rw[Zj n];exact s6 _ _ (k2 _ _ e n),ls++[ln],by rw[zx7];exact Ze,?_,by rw[zx4,hln];rfl,fun y hy=>?_⟩
    ·have e:(Pt P0 ms).take (i+1)=(Pt P0 ms).take i++[(P0.ppl.filter fun x=>(whyP P0 x mm).isEmpty).map (·.1)]:=by
      unfold Pt;rw[zzd,zx5,hmm];rfl
     rw[e];refine ILs.snoc (by rw[Zj (Zh hr3 fl).symm];exact q6) (il.keep fun x hx' o q=>?_);rw[Zj (hfr x hx').2];exact s6 _ _ q
    ·rcases zyd.mp hy with z|z
     ·exact hfr y z
     ·rw[zx6.mp z];exact⟨sh.free fl,(Zh hr3 fl).symm⟩
 ·rintro σ H' ⟨⟨v1,v2,rfl⟩,k2,ls,hr3,il,hln,hfr⟩;have sh:#[p]:=fun x o e=>k2 _ _ (s2 _ _ e) (Zh e fr);have hml:(Pt P0 ms).length=ms.length:=by unfold Pt;rw[zx1]
  rw[htl,<- hml,zyi] at il;exact#[q,_,h r ls H' hr3 il sh fr fun x hx=>(hfr x hx).1]
abbrev O2:Stmt:=top 79
theorem Tr:#[n,["_law_pages","_law_deed_here","_law_page","_law_at_here","_law_kept"],["_law_pages","_law_deed_here"],O2]:=fnS
theorem A8(F:#[g,"_law_paged","_law_paged",O2])(T:#[j])(zq4:Zz P w K mg base "_law_open" 2 ["_law_page"] (zdd K)):FnOk P w K mg base #[f] 3 f fd ["_law_pages","_law_deed_here"] (Ap K):=by
 refine #[k,Tr];obtain⟨ok,l,t,ds,d,P0,D,rfl,hl,PA,hD,PO,hpl,hol,hdl,hcl,h⟩:=h;have hu:=We hr;refine⟨_,(Zc (pS 2 Tr.nd (Xp zc8 (by rfl) T.zu4 PyProof.Rows.boot_dict (Za (pI (iL K) (pv 0) (Pa U8 Zf)) Zb)))
 (Zc (pS 3 Tr.nd (Zu Yq (Zm (cL K) (by rfl) T.zo5 PySem.boot_len (Za (pD hu (pv 2) Zr) Zb)) Zf))
 (Zc (Z2 (Zp Wd (pI (iU K) (pv 1) Zf) Zr (Zt _))
  (Zd (Zl (M9 (Le (K:=K) rfl) (pv 0) Gu (Gv (Pa U8 Zf)))))
  Zo)
 (Zc (Z2 (Zp Wd (pI (iU K) (pv 1) Zf) Zr (Zt _))
  (Zc (pS 4 Tr.nd (Yc (Za (pD hu (pv 2) Zr) (Za (pD hu (pv 2) Zr) (Za (pD hu (pv 2) Zr) (Za (pF zq4 hr (Za (pv 2) Zb)) Zb))))))
  (Zc (Yu hu (pv 2) Zr (Zu Kt (pD hu (pv 2) Zr) (Yd (Za (pv 4) Zb))) rfl)
  (Zc (Yu hu (pv 2) Zr Y3 rfl)
  (Zc (Yu hu (pv 2) Zr (Yd Zb) rfl)
  (Zc (Yu hu (pv 2) Zr (Yd Zb) rfl)
  (Zd (Zl (Yd (Za (pv 2) Zb)))))))))
  Zo)
 (Zc (Z2 (Zp Wd (pI (iU K) (pv 1) Zf) Zr (Zt _))
  (Zc (Yu hu (pv 2) Zr (Zu Kt (pD hu (pv 2) Zr) (Yd (Za (Yc (Za (pI (iU K) (pv 1) Zf) (Za (pI (iU K) (pv 1) Zf) (Za (pI (iU K) (pv 1) Zf) Zb)))) Zb))) rfl)
  (Zd (Yu hu (pv 2) Zr (Yc (Za Zr (Za (pI (iU K) (pv 1) Zf) (Za (pv 3) Zb)))) rfl)))
  (Zd (Z2 (Zp Wd (pI (iU K) (pv 1) Zf) Zr (Zt _))
   (Zc (Yu hu (pv 2) Zr (pI (iU K) (pv 1) Zf) rfl)
   (Zd (Yu hu (pv 2) Zr (Yc (Za Zr (Za (Zm (cL K) (by rfl) T.zo5 PySem.boot_len (Za (pI (iU K) (pv 1) Zf) Zb)) (Za (pv 3) Zb)))) rfl)))
   (Zc (Yu hu (pv 2) Zr (Zu Kt (pD hu (pv 2) Zr) (Yd (Za (Yc (Za (pI (iU K) (pv 1) Zf) (Za (pI (iU K) (pv 1) Zf) Zb))) Zb))) rfl)
   (Zd (Yu hu (pv 2) Zr (Yc (Za Zr (Za (pI (iU K) (pv 1) Zf) (Za (pI (iU K) (pv 1) Zf) Zb)))) rfl))))))
 (Zd (Zl (Zu Kt (pv 0) (Yd (Za (pv 2) Zb)))))))))),?_⟩
 show let y1:TS:=_;let y2:TS:=Z0 _ y1;let y3:TS:=Z0 _ y2;let y4:TS:=Z0 _ y3;let y5:TS:=Z0 _ y4;let y6:TS:=_;let y7:TS:=Z0 _ y6;let y8:TS:=Z0 (Dp _ (Z0 _ y5) _) y7;let y9:TS:=Z0 _ y8;let y10:TS:=Z0 _ y9;Z0 _ y10 _ _ _;intro y1 y2 y3 y4 y5 y6 y7 y8 y9 y10;obtain⟨lp,lo,lv,dv,li,lg,lm,a1,PB,okd⟩:=id PA.split;have hat:atI ((ds++[d]).map V.ref) (-1)=#[b,V.ref,d]:=by rw[zx7];exact L2.atI_last _ _
 refine⟨_,rfl,_,rfl,l,_,_,_,rfl,rfl,SqL.of hl,hat,d,_,rfl,.inl a1,fun d' fd'=>al (upd _ d' _) fd' rfl fun H1 q1 s1=>?_⟩;obtain⟨ok1,hok1⟩:∃ ok1:Addr->Prop,ok1=fun x=>ok x\/H x=none:=#[y,_];have okf:∀ x,H x=none->ok1 x:=fun x hx=>by rw[hok1];exact .inr hx
 have oko:∀ x,ok x->ok1 x:=fun x hx=>by rw[hok1];exact .inl hx
 rw[<- hok1] at h;have PB1:=(PB.imp (fun x _ o=>oko x o)).keepL (.of s1);walk_at "if";have PA1:PgAt ok1 H1 d' P0:=.join q1 PB1 (okf _ fd');obtain⟨vts,v1,v2,v3⟩:=PB1.vv;refine⟨_,rfl,d',_,rfl,DGet.k (k:=.inr "over") q1,lv,vts,rfl,#[x,v1],_,_,rfl,rfl,?_⟩;rw[v2.length];have sz0:([]:List V).length<=sizeLine:=zyv _;have sz3:∀ {x y z:V},[x,y,z].length<=sizeLine:=fun {x y z}=>by show 3<=sizeLine;rw[sizeLine_eq];decide
 have sz1:∀ x:V,[x].length<=sizeLine:=fun x=>by show 1<=sizeLine;rw[sizeLine_eq];decide
 walk_at "if";have fin:Ao ds d d' D=ds++[d]++[d']->∀ v Hx,PgAt ok1 Hx d' (Ur P0 D)->Same H Hx->y6 { nx:=fun x H'=>Q V.non H',rt:=Q } [#[d,l],#[d,t],#[d,d'],#[l,(P0.over.length:Int)+1],v] Hx:=fun ek v Hx PAx sx=>by
  refine⟨_,rfl,_,rfl,sz1 _,fun l2 f2=>#[F,l2,f2,fun H8 t8 s8=>⟨l,l2,_,_,rfl,rfl,(sx.trans s8) _ _ hl,t8,szN (by rw[zx1,zx4];show ds.length+1+1<=1000;omega),fun lr flr=>#[F,lr,flr,fun H9 t9 s9=>?_]⟩]⟩;have s89:=s8.trans s9;exact h lr d' H9 (by rw[ek,t9,zx7 (l₁:=ds++[d])];rfl) (fun _=>PAx.same s89) (sx.trans s89) (sx.free (s8.free flr)) fd'
 cases D with
 | back =>
   have ht:H t=#[b,.tup,[.str "take back"]]:=hD;refine Xl (ze2 rfl (s1 _ _ ht) ⟨_,rfl,_,rfl,_,rfl,l,_,rfl,#[K,s1,hl],fun c fc=>?_⟩);rw[zx7,show Ks (ds.map V.ref++[d].map V.ref) none (some (-1))=ds.map V.ref from zbx _ _];exact h c d' _ Ze (fun z=>absurd rfl z) (s1.trans (Zk fc)) (s1.free fc) fd'
 | close =>
   have ht:H t=#[b,.tup,[.str "close"]]:=hD;obtain⟨ms,hms,hml⟩:=hcl rfl;refine Mn rfl (s1 _ _ ht) ⋯ (Xl (ze2 rfl (s1 _ _ ht) ⟨_,rfl,d',_,rfl,DGet.k (k:=.inr "listed") q1,_,rfl,d',_,rfl,DGet.k (k:=.inr "goes") q1,_,rfl,d',_,rfl,DGet.k (k:=.inr "moves") q1,_,rfl,ok1,d',P0,ms,rfl,PA1,PO,hms,hml,hpl,fun ly ls H2 hly ily s2 fly fls=>⟨by show 4<=sizeLine;rw[sizeLine_eq];decide,fun tk ftk=>#[F,tk,ftk,fun H3 t3 s3=>?_]⟩⟩));obtain⟨ll,ts,rfl,b1,b2,b3⟩:∃ l ts,li=.ref l/\H1 l=#[r,ts]/\Z8 H1 ts (ms.map pV)/\ok1 l:=by have:=PB1.li;rw[hms] at this;exact this
   obtain⟨mts,c1,c2,c3⟩:=PB1.mm;obtain⟨g1,g2⟩:=PB1.gg;have s13:=s2.trans s3;walk_at "if";refine⟨_,rfl,d',_,rfl,DGet.k (k:=.inr "over") (s13 _ _ q1),_,rfl,sz1 _,fun l1 f1=>#[F,l1,f1,fun H4 t4 s4=>⟨lv,l1,vts,_,rfl,rfl,(s13.trans s4) _ _ v1,t4,szN (by rw[v2.length];have:=PO.1;show P0.over.length+1<=1000;omega),fun lv' fv'=>#[F,lv',fv',fun H5 t5 s5=>?_]⟩]⟩;have s35:=s4.trans s5;have s15:=s13.trans s35;refine pgw { P0 with over:=P0.over++[⟨ms,Pt P0 ms,P0.gv,P0.mv⟩] } rfl (PA1.same s15) fd' (s1.trans s15) (fun {_ _ _ _ _ _ _ H'} kk b=>?_) fun H6 PA6 s6=>?_
   ·have k1:=(W7.of s15).trans kk;have k3:=(W7.of s35).trans kk;exact⟨_,_,lv',_,_,_,_,zis,b.pp,b.oo,⟨_,kk.1 _ _ t5,Xf.snoc (s:=⟨ms,Pt P0 ms,P0.gv,P0.mv⟩) (k3.2 _ _ t3) (k1.1 _ _ b1) (b2.mono k1.2) (k1.1 _ _ g1) (k1.1 _ _ c1) (c2.keepL k1) (k3.1 _ _ (s3 _ _ hly)) (ILs.keepL k3 (ily.same s3)) ⟨b3,g2,c3,okf _ (s1.free fly),fun x hx=>okf _ (s1.free (fls x hx))⟩ (v2.keepL k1),okf _ (s1.free (s13.free (s4.free fv')))⟩,b.dd,b.li,b.gg,b.mm⟩
   refine pgw { P0 with over:=P0.over++[⟨ms,Pt P0 ms,P0.gv,P0.mv⟩],lis:=none } rfl PA6 fd' s6 (fun kk b=>⟨_,_,_,_,.non,_,_,F6,b.pp,b.oo,b.vv,b.dd,rfl,b.gg,b.mm⟩) fun H7 PA7 s7=>⟨sz0,fun lg' fg'=>#[F,lg',fg',fun H8 t8 s8=>?_]⟩
   refine pgw { P0 with over:=P0.over++[⟨ms,Pt P0 ms,P0.gv,P0.mv⟩],lis:=none,gv:=[] } rfl (PA7.same s8) fd' (s7.trans s8) (fun kk b=>⟨_,_,_,_,_,lg',_,zbv,b.pp,b.oo,b.vv,b.dd,b.li,⟨kk.1 _ _ t8,okf _ (s7.free fg')⟩,b.mm⟩) fun H9 PA9 s9=>⟨sz0,fun lm' fm'=>#[F,lm',fm',fun H10 t10 s10=>?_]⟩
   refine pgw (Ur P0 .close) rfl (PA9.same s10) fd' (s9.trans s10) (fun kk b=>⟨_,_,_,_,_,_,lm',Bp,b.pp,b.oo,(by unfold Ur;rw[hms];exact b.vv),b.dd,b.li,b.gg,[],kk.1 _ _ t10,.nil,okf _ (s9.free fm')⟩) fun H11 PA11 s11=>⟨_,rfl,sz1 _,fun lr flr=>?_⟩
   exact h lr d' _ Ze (fun _=>PA11.same (Zk flr)) (s11.trans (Zk flr)) (s11.free flr) fd'
 | enrol n g c =>
   have ht:H t=#[b,.tup,[.str "enrol",.int n,.int g,.int c]]:=hD;obtain⟨pts,p1,p2,p3⟩:=PB1.pp;refine Mn rfl (s1 _ _ ht) ⋯ (Mn rfl (s1 _ _ ht) ⋯ (Xl (ze2 rfl (s1 _ _ ht) ⟨_,rfl,d',_,rfl,DGet.k (k:=.inr "people") q1,_,rfl,t,_,_,_,rfl,rfl,SqT.of (s1 _ _ ht),rfl,_,rfl,t,_,_,_,rfl,rfl,SqT.of (s1 _ _ ht),rfl,_,rfl,t,_,_,_,rfl,rfl,SqT.of (s1 _ _ ht),rfl,sz3,fun tp ftp=>#[F,tp,ftp,fun H2 t2 s2=>⟨sz1 _,fun l1 f1=>#[F,l1,f1,fun H3 t3 s3=>⟨lp,l1,pts,_,rfl,rfl,(s2.trans s3) _ _ p1,t3,szN (by rw[p2.length,zx1];show _+1<=1000;omega),fun lp' fp'=>#[F,lp',fp',fun H4 t4 s4=>?_]⟩]⟩]⟩)));have s13:=s2.trans s3;have s14:=s13.trans s4;refine pgw { P0 with ppl:=P0.ppl++[(n,g,c)] } rfl (PA1.same s14) fd' (s1.trans s14) (fun kk b=>⟨lp',_,_,_,_,_,_,zda,⟨_,kk.1 _ _ t4,?_,okf _ (s1.free (s13.free fp'))⟩,b.oo,b.vv,b.dd,b.li,b.gg,b.mm⟩) fun H5 PA5 s5=>⟨_,rfl,t,_,_,_,rfl,rfl,SqT.of (s5 _ _ ht),rfl,_,rfl,sz3,fun td ftd=>#[F,td,ftd,fun H6 t6 s6=>?_]⟩
   ·rw[zx7];exact((p2.same s14).mono kk.2).snoc (kk.2 _ _ (s4 _ _ (s3 _ _ t2)))
   exact pgw (Ur P0 (.enrol n g c)) rfl (PA5.same s6) fd' (s5.trans s6) (fun kk b=>⟨_,_,_,.ref td,_,_,_,F5,b.pp,b.oo,b.vv,#[q,td,kk.2 _ _ t6],b.li,b.gg,b.mm⟩) fun H7 PA7 s7=>fin rfl _ H7 PA7 s7
 | draw ms =>
   obtain⟨ll,ts,ht,hll,tl,okl⟩:∃ l ts,H t=#[z,[.str "draw up",.ref l]]/\H l=#[r,ts]/\Z8 H ts (ms.map pV)/\ok l:=hD;have ez:(ts.length:Int)=(ms.length:Int):=by rw[tl.length,zx1]
   refine Mn rfl (s1 _ _ ht) ⋯ (Mn rfl (s1 _ _ ht) ⋯ (Xl (zmb rfl (s1 _ _ ht) ⋯ (ze2 rfl (s1 _ _ ht) ⟨_,rfl,t,_,_,_,rfl,rfl,SqT.of (s1 _ _ ht),rfl,?_⟩))));refine pgw { P0 with lis:=some ms } rfl PA1 fd' s1 (fun kk b=>⟨_,_,_,_,.ref ll,_,_,F6,b.pp,b.oo,b.vv,b.dd,⟨ll,ts,rfl,kk.1 _ _ (s1 _ _ hll),(tl.same s1).mono kk.2,oko _ okl⟩,b.gg,b.mm⟩) fun H5 PA5 s5=>⟨_,rfl,t,_,_,_,rfl,rfl,SqT.of (s5 _ _ ht),rfl,ll,ts,rfl,#[x,s5 _ _ hll],_,rfl,sz3,fun td ftd=>#[F,td,ftd,fun H6 t6 s6=>?_]⟩
   rw[ez] at t6;exact pgw (Ur P0 (.draw ms)) rfl (PA5.same s6) fd' (s5.trans s6) (fun kk b=>⟨_,_,_,.ref td,_,_,_,F5,b.pp,b.oo,b.vv,#[q,td,kk.2 _ _ t6],b.li,b.gg,b.mm⟩) fun H7 PA7 s7=>fin rfl _ H7 PA7 s7
 | away i n =>
   have ht:H t=#[b,.tup,[.str "away",.int i,.int n]]:=hD;obtain⟨pts,p1,p2,p3⟩:=PB1.oo;refine Mn rfl (s1 _ _ ht) ⋯ (Mn rfl (s1 _ _ ht) ⋯ (Xl (zmb rfl (s1 _ _ ht) ⋯ (zmb rfl (s1 _ _ ht) ⋯ ⟨_,rfl,d',_,rfl,DGet.k (k:=.inr "out") q1,_,rfl,t,_,_,_,rfl,rfl,SqT.of (s1 _ _ ht),rfl,_,rfl,t,_,_,_,rfl,rfl,SqT.of (s1 _ _ ht),rfl,sz2,fun tp ftp=>#[F,tp,ftp,fun H2 t2 s2=>⟨sz1 _,fun l1 f1=>#[F,l1,f1,fun H3 t3 s3=>⟨lo,l1,pts,_,rfl,rfl,(s2.trans s3) _ _ p1,t3,szN (by rw[p2.length,zx1];show _+1<=1000;omega),fun lo' fp'=>#[F,lo',fp',fun H4 t4 s4=>?_]⟩]⟩]⟩))));have s13:=s2.trans s3;have s14:=s13.trans s4;refine pgw { P0 with out:=P0.out++[(i,n)] } rfl (PA1.same s14) fd' (s1.trans s14) (fun kk b=>⟨_,lo',_,_,_,_,_,zj2,b.pp,⟨_,kk.1 _ _ t4,?_,okf _ (s1.free (s13.free fp'))⟩,b.vv,b.dd,b.li,b.gg,b.mm⟩) fun H5 PA5 s5=>⟨_,rfl,t,_,_,_,rfl,rfl,SqT.of (s5 _ _ ht),rfl,_,rfl,t,_,_,_,rfl,rfl,SqT.of (s5 _ _ ht),rfl,sz3,fun td ftd=>#[F,td,ftd,fun H6 t6 s6=>?_]⟩
   ·rw[zx7];exact((p2.same s14).mono kk.2).snoc (kk.2 _ _ (s4 _ _ (s3 _ _ t2)))
   exact pgw (Ur P0 (.away i n)) rfl (PA5.same s6) fd' (s5.trans s6) (fun kk b=>⟨_,_,_,.ref td,_,_,_,F5,b.pp,b.oo,b.vv,#[q,td,kk.2 _ _ t6],b.li,b.gg,b.mm⟩) fun H7 PA7 s7=>fin rfl _ H7 PA7 s7
abbrev Ym:Stmt:=top 80
theorem Y5:#[n,["_law_cell_here","_law_clubs_here","_law_most","_law_mixed","_law_matches_here","_law_many","_law_grades","_law_rest_here","_law_k","_law_home","_law_guest"],["_law_cell_here","_law_clubs_here","_law_most","_law_mixed"],Ym]:=fnS
@[irreducible] def Uh:List Expr:=zga (Nj (Xy (Zw Ym) 2))
@[irreducible] def O3:Pos:=zgb (Nj (Xy (Zw Ym) 2))
theorem Jt:Zw Ym=[Xy (Zw Ym) 0,Xy (Zw Ym) 1,.Assign (ziq (Xy (Zw Ym) 2)) (.List Uh O3) (stP (Xy (Zw Ym) 2)),Xy (Zw Ym) 3,Xy (Zw Ym) 4,Xy (Zw Ym) 5]:=by unfold Uh O3;kernel_rfl
theorem Ju:F3 Uh [1,2,3,4,5,6,7,8,9,1,1,1,1,2,2,3,3,4]:=by unfold Uh;exact⟨by kernel_rfl,by kernel_rfl⟩
theorem Dk(F:#[g,"_law_matches","_law_matches",Ym])(T:#[j])(zqm:Zz P w K mg base "_law_mix" 1 ["_law_cell_here","_law_k"] zd9):FnOk P w K mg base #[f] 2 f fd ["_law_cell_here","_law_clubs_here","_law_most","_law_mixed"] (Ij K):=by
 refine #[k,Y5];obtain⟨b,ns,cell,most,mixed,rfl,hb,hl1,hl2,nd,rng,hm1,hmx,h⟩:=h;rw[Jt];refine⟨_,(Zc (pS 4 Y5.nd (Yd Zb))
 (Zc (pS 5 Y5.nd (Zm (cL K) (by rfl) T.zo5 PySem.boot_len (Za (pv 1) Zb)))
 (Zc (pS 6 Y5.nd (Yd (Nf [1,2,3,4,5,6,7,8,9,1,1,1,1,2,2,3,3,4] Ju)))
 (Zc (pS 7 Y5.nd (Zu Xo (pv 0) (Zu Yq (pv 2) Zf)))
 (Zc (Yp PassesOwn.leaving rfl (Yw rfl T.zpl (Za (Zu Yy (pv 0) (Zu Yq (pv 2) Zf)) Zb)) (pN 8 Y5.nd)
  (Zc (pS 9 Y5.nd (Zu Yy (pv 7) (pv 5)))
  (Zc (pS 10 Y5.nd (Zu Yy (Zu Yq (Zu Yq (pv 9) Zf) (Zu Yy (Zu Xo (pv 7) (pv 5)) (Zu Rf (pv 5) Zf))) (pv 5)))
  (Zc (Y6 (pv 4) (Yc (Za (pI (iL K) (pv 1) (pv 9)) (Za (pI (iL K) (pv 1) (pv 10)) (Za (pI (iL K) (pv 6) (Zu Yy (Zu Xo (Zu Xo (pv 7) (pv 5)) (Zu Rf (pv 5) Zf)) Zf)) Zb)))))
  (Zd (pS 7 Y5.nd (pI (iL K) (Yd (Za (Zu Xo (Zu Xo (Zu Xo (pv 7) (pv 5)) (Zu Rf (pv 5) Zf)) Zf) (Za (pF zqm hr (Za (pv 7) (Za (pv 8) Zb))) Zb))) (pv 3))))))))
 (Zd (Zl (pv 4)))))))),?_⟩
 show let y1:TS:=_;let y2:TS:=Z0 _ y1;let y3:TS:=Z0 _ y2;let y4:TS:=_;let y5:TS:=Z0 (ze8 _ _ (Z0 _ y3)) y4;let y6:TS:=Z0 _ y5;let y7:TS:=Z0 _ y6;let y8:TS:=Z0 _ y7;Z0 _ y8 _ _ _;intro y1 y2 y3 y4 y5 y6 y7 y8;have sz0:([]:List V).length<=sizeLine:=zyv _;have sz3:∀ x y z:V,[x,y,z].length<=sizeLine:=fun x y z=>by show 3<=sizeLine;rw[sizeLine_eq];decide
 refine⟨sz0,fun r fr=>?_⟩;have s1:=Zk (o:=.lst []) fr;have q1:=Ze (H:=H) (a:=r) (o:=.lst []);walk_at "if";generalize upd H r (.lst [])=H1 at s1 q1 ⊢;refine⟨_,rfl,b,_,rfl,#[x,s1 _ _ hb],?_⟩;rw[zx1];walk_at "if";refine zbt [1,2,3,4,5,6,7,8,9,1,1,1,1,2,2,3,3,4] ⋯ fun lg H2 hg s2 fg=>?_;have frg:lg≠r:=(Zh q1 fg).symm;have hc:(0:Int)<(most:Int)+1:=by omega
 refine⟨_,rfl,_,rfl,_,_,rfl,rfl,_,_,rfl,rfl,⟨hc,by omega⟩,?_⟩;walk_at "if";refine⟨_,rfl,_,rfl,_,_,rfl,rfl,_,_,rfl,rfl,hc,_,rfl,?_⟩;have c0:=zy9 cell (show ((most:Int)+1)≠0 by omega);have c1:=zy1 cell hc;have hn0:(0:Int)<(ns.length:Int):=by omega
 have hn1:(0:Int)<(ns.length:Int)-1:=by omega
 let jv3:Nat->L2.St->Hp->Prop:=fun i σ H'=>(∃ v8 v9 v10 R,σ=[some (.int cell),some (.ref b),some (.int most),some (.int mixed),some (.ref r),some (.int ns.length),some (.ref lg),some (.int R),v8,v9,v10])/\(∀ x o,H2 x=some o->x≠r->H' x=some o)/\∃ ts ms,H' r=#[r,ts]/\Z8 H' ts (ms.map pV)/\ms.length=i/\zde ms
 refine⟨by omega,by omega,Xa jv3
  ⟨⟨_,_,_,_,rfl⟩,fun _ _ e _=>e,[],[],s2 _ _ q1,.nil,rfl,(fun m z=>nomatch z),(fun m z=>nomatch z)⟩ ?_ ?_⟩
 ·rintro i σ H' hi ⟨⟨v8,v9,v10,R,rfl⟩,k,ts,ms,hr',tl,hml,gm⟩;have hb':=k _ _ (s2 _ _ (s1 _ _ hb)) (Zh hb fr);have hg':=k _ _ hg frg;have e0:=zy9 R (show (ns.length:Int)≠0 by omega);have e1:=zy1 R hn0;have f0:=zy9 (R/(ns.length:Int)) (show (ns.length:Int)-1≠0 by omega);have f1:=zy1 (R/(ns.length:Int)) hn1;have w0:=zy9 (R/(ns.length:Int)/((ns.length:Int)-1)) (show (18:Int)≠0 by omega);have w1:=zy1 (R/(ns.length:Int)/((ns.length:Int)-1)) (show (0:Int)<18 by omega);obtain⟨g0,g1,g2⟩:=ziw e0 e1 (y:=1+R/(ns.length:Int)%((ns.length:Int)-1)) ⋯ ⋯;rw[<- Int.add_assoc] at g0 g1 g2;refine⟨_,rfl,_,rfl,_,_,rfl,rfl,hn0,?_⟩;walk_at "if";refine⟨_,rfl,_,_,rfl,rfl,_,rfl,_,rfl,_,_,rfl,rfl,⟨hn0,by omega⟩,_,rfl,_,_,rfl,rfl,_,_,rfl,rfl,hn1,_,_,rfl,rfl,_,rfl,_,_,rfl,rfl,hn0,?_⟩;walk_at "if";generalize hG:(R%(ns.length:Int)+1+R/(ns.length:Int)%((ns.length:Int)-1))%(ns.length:Int)=gu at g0 g1 g2 ⊢;generalize hHo:R%(ns.length:Int)=ho at e0 e1 g2 ⊢;refine⟨_,rfl,r,_,rfl,hr',?_⟩;have hgr:=Wv (xs:=Aq) w0 (by show _<((18:Nat):Int);omega);have rgr:=zdf (R/(ns.length:Int)/((ns.length:Int)-1)%18).toNat ⋯;generalize hgv:Aq.getD (R/(ns.length:Int)/((ns.length:Int)-1)%18).toNat 0=gv at hgr rgr;have hho:=Wv (xs:=ns) e0 ⋯;have hgu:=Wv (xs:=ns) g0 ⋯;have mho:=Tt (ns:=ns) (i:=ho.toNat) ⋯;have mgu:=Tt (ns:=ns) (i:=gu.toNat) ⋯;have hne:ns.getD ho.toNat 0≠ns.getD gu.toNat 0:=fun z=>by
   have:=zix nd ⋯ ⋯ z;omega
  generalize ns.getD ho.toNat 0=a1 at hho mho hne;generalize ns.getD gu.toNat 0=a2 at hgu mgu hne;refine⟨_,rfl,_,rfl,b,_,_,_,rfl,rfl,SqL.of hb',hho,_,rfl,_,rfl,b,_,_,_,rfl,rfl,SqL.of hb',hgu,?_⟩;refine⟨_,rfl,_,rfl,_,rfl,_,_,rfl,rfl,⟨hn0,by omega⟩,_,rfl,_,_,rfl,rfl,_,_,rfl,rfl,⟨hn1,by omega⟩,_,_,rfl,rfl,⋯,lg,_,_,_,rfl,rfl,SqL.of hg',hgr,sz3 _ _ _,fun t ft=>?_⟩;refine #[F,t,ft,fun H3 q3 s3=>?_];have tln:=tl.length;rw[zx1] at tln;refine⟨ts,s3 _ _ hr',szN ⋯,?_⟩;have hi':i<101:=by omega
  have k4:∀ x o,H3 x=#[c]->x≠r->upd H3 r (.lst (ts++[.ref t])) x=#[c]:=fun x o e n=>by rw[Zj n];exact e
  have q4:=Ze (H:=H3) (a:=r) (o:=.lst (ts++[.ref t]));have kt4:∀ x ys,H3 x=#[z,ys]->upd H3 r (.lst (ts++[.ref t])) x=#[z,ys]:=fun x ys e=>k4 _ _ e (Y2 e (s3 _ _ hr') (by intro z;cases z));dsimp only;generalize upd H3 r (.lst (ts++[.ref t]))=H4 at k4 q4 kt4 ⊢;obtain⟨z,hz⟩:=at2 (R/(ns.length:Int)/((ns.length:Int)-1)/18) (zjs R (0+(i:Int))) hmx;refine⟨_,rfl,_,rfl,_,_,rfl,rfl,⟨hn0,by omega⟩,_,rfl,_,_,rfl,rfl,_,_,rfl,rfl,⟨hn1,by omega⟩,_,_,rfl,rfl,⟨by omega,by omega⟩,_,rfl,_,rfl,_,_,rfl,sz2,fun l2 f2=>⟨_,rfl,l2,_,_,_,rfl,rfl,SqL.of Ze,hz,?_⟩⟩;have s5:=Zk (o:=.lst [.int (R/(ns.length:Int)/((ns.length:Int)-1)/18),.int (zjs R (0+(i:Int)))]) f2;refine⟨⟨_,_,_,_,rfl⟩,fun x o e n=>s5 _ _ (k4 _ _ (s3 _ _ (k _ _ e n)) n),ts++[.ref t],ms++[(a1,a2,gv)],s5 _ _ q4,?_,by rw[zx4,hml];rfl,?_,?_⟩
  ·rw[zx7];exact(tl.mono fun x ys e=>s5 _ _ (kt4 _ _ (s3 _ _ e))).snoc (s5 _ _ (kt4 _ _ q3))
  ·intro m hm;rcases zyd.mp hm with hm|hm
   ·exact gm.1 m hm
   ·rw[zx6.mp hm];have:=rng _ mho;have:=rng _ mgu;unfold badM;dsimp only;omega
  ·intro m hm;rcases zyd.mp hm with hm|hm
   ·exact gm.2 m hm
   ·rw[zx6.mp hm];exact hne
 ·rintro σ H' ⟨⟨v8,v9,v10,R,rfl⟩,k,ts,ms,hr',tl,hml,gm⟩;refine#[q,_,h r ts ms H' hr' tl ⋯ gm (fun x o e=>k _ _ (s2 _ _ (s1 _ _ e)) (Zh e fr)) fr]
abbrev Dl:Stmt:=top 81
theorem zgu:#[n,["_law_season","_law_deed_here"],["_law_season","_law_deed_here"],Dl]:=fnS
theorem zgv(F:#[g,"_law_do","_law_do",Dl])(T:#[j])(zr5:Zq P w K mg base a.zov "enrol" 5 #[ae] #[e,zeu])(zsi:Zq P w K mg base a.zov "away" 7 ["self","at","number"] #[e,zin])(zrb:Zq P w K mg base a.zov "draw_up" 6 ["self","matches"] (zbi K (ca a)))(zr2:Zq P w K mg base a.zov "close" 4 ["self"] #[e,zew])(zpd:Zq P w K mg base a.zov "take_back" 2 ["self"] #[e,Qt]):FnOk P w K mg base #[f] 8 f fd ["_law_season","_law_deed_here"] (zl7 K (ca a)):=by
 refine #[k,zgu];obtain⟨A',S,t,d,rfl,SA,hd,gd,co,po,hz,hoz,htot,hl,hol,hln,hsn,hbk,h⟩:=h;refine⟨_,(Zc (Z2 (Zp Wd (pI (iU K) (pv 1) Zf) Zr (Zt _))
  (Zd (Zl (Yj (pv 0) T.zow zr5 (hr.mono ⋯) Zi (Za (pI (iU K) (pv 1) Zf) (Za (pI (iU K) (pv 1) Zf) (Za (pI (iU K) (pv 1) Zf) Zb))))))
  Zo)
 (Zc (Z2 (Zp Wd (pI (iU K) (pv 1) Zf) Zr (Zt _))
  (Zd (Zl (Yj (pv 0) T.zow zsi (hr.mono ⋯) Zi (Za (pI (iU K) (pv 1) Zf) (Za (pI (iU K) (pv 1) Zf) Zb)))))
  Zo)
 (Zc (Z2 (Zp Wd (pI (iU K) (pv 1) Zf) Zr (Zt _))
  (Zd (Zl (Yj (pv 0) T.zow zrb (hr.mono ⋯) Zi (Za (Xp (Y0 (K:=K) rfl) (by rfl) T.zp9 PyProof.Rows.boot_list (Za (pI (iU K) (pv 1) Zf) Zb)) Zb))))
  Zo)
 (Zc (Z2 (Zp Wd (pI (iU K) (pv 1) Zf) Zr (Zt _))
  (Zd (Zl (Ye (pv 0) T.zow zr2 (hr.mono ⋯) Zi)))
  Zo)
 (Zd (Zl (Ye (pv 0) T.zow zpd (hr.mono ⋯) Zi))))))),?_⟩
 obtain⟨⟨dx,v,a1,a2⟩,_⟩:=id SA;cases d with
 | enrol n g c0 =>
   have ht:H t=#[b,.tup,[.str "enrol",.int n,.int g,.int c0]]:=hd;obtain⟨g1,g2,g3,g4,g5⟩:=gd;have hb:=g3;unfold badI at hb;refine⟨_,rfl,t,_,_,_,rfl,rfl,SqT.of ht,rfl,rfl,_,rfl,?_⟩;rw[zc9];refine iteT ?_;refine⟨_,rfl,A'.p,dx,_,rfl,a1,Z6 ⋯,_,rfl,t,_,_,_,rfl,rfl,SqT.of ht,rfl,_,rfl,t,_,_,_,rfl,rfl,SqT.of ht,rfl,_,rfl,t,_,_,_,rfl,rfl,SqT.of ht,rfl,A',S,n,g,c0,rfl,SA,⟨Yi ⋯ ⋯,Yi ⋯ ⋯,Yi ⋯ ⋯⟩,by omega,by omega,?_⟩;rw[if_neg ⋯,if_neg (by rw[g2];decide),if_neg g3,if_neg g4,if_neg ⋯,if_neg ⋯];exact fun H' SA' f'=>h .non A' _ H' (.enrol n g c0) SA' (.refl A' H) f' (fun l z=>nomatch z)
 | away i n =>
   have ht:H t=#[b,.tup,[.str "away",.int i,.int n]]:=hd;obtain⟨g1,g2,g3,g4⟩:=gd;refine⟨_,rfl,t,_,_,_,rfl,rfl,SqT.of ht,rfl,rfl,_,rfl,?_⟩;rw[Nk ⋯];refine #[S];refine⟨_,rfl,t,_,_,_,rfl,rfl,SqT.of ht,rfl,rfl,_,rfl,?_⟩;rw[zc9];refine iteT ?_;have si:Yf i:=Yi ⋯ ⋯;refine⟨_,rfl,A'.p,dx,_,rfl,a1,Z6 ⋯,_,rfl,t,_,_,_,rfl,rfl,SqT.of ht,rfl,_,rfl,t,_,_,_,rfl,rfl,SqT.of ht,rfl,A',S,i,n,rfl,SA,si,hsn i n rfl,by omega,hoz,po,fun s hs=>?_,?_⟩
   ·obtain⟨c1,c2,c3,c4,c5⟩:=co s hs;exact⟨c1,c2,c4,by omega⟩
   rw[if_neg ⋯,if_neg ⋯,if_pos g3,if_neg g4,if_neg ⋯];refine⟨fun hc l H' hl' SA' f' fl=>h _ A' _ H' (.awayN hc hl') SA' (.refl A' H) f' (fun l2 z _=>by cases z;exact fl),fun s hi hs hp l H' hl' SA' f' fl=>?_,fun s p hi hs hp l us st e w' H' hl' tl CR SA' f' fl=>?_⟩
   ·subst hi;exact h _ A' _ H' (.awayF hs hp hl') SA' (.refl A' H) f' (fun l2 z _=>by cases z;exact fl)
   ·subst hi;exact h _ A' _ H' (.awayC hs hp hl' tl CR) SA' (.refl A' H) f' (fun l2 z _=>by cases z;exact fl)
 | draw ms =>
   obtain⟨l0,ts,ht,hl0,tl,okl⟩:∃ l ts,H t=#[z,[.str "draw up",.ref l]]/\H l=#[r,ts]/\Z8 H ts (ms.map pV)/\l∉A'.fp:=hd;obtain⟨g1,g2,g3,g4,g5⟩:=gd;refine⟨_,rfl,t,_,_,_,rfl,rfl,SqT.of ht,rfl,rfl,_,rfl,?_⟩;rw[Nk ⋯];refine #[S];refine⟨_,rfl,t,_,_,_,rfl,rfl,SqT.of ht,rfl,rfl,_,rfl,?_⟩;rw[Nk ⋯];refine #[S];refine⟨_,rfl,t,_,_,_,rfl,rfl,SqT.of ht,rfl,rfl,_,rfl,?_⟩;rw[zc9];refine iteT ?_;refine⟨_,rfl,A'.p,dx,_,rfl,a1,Z6 ⋯,_,rfl,t,_,_,_,rfl,rfl,SqT.of ht,rfl,l0,ts,rfl,#[x,hl0],fun l1 hl1=>?_⟩;refine al (upd _ l1 _) hl1 rfl fun H1 q1 s1=>?_;have nb:¬ Qq ms:=fun ⟨m,hm,hb⟩=>g4 m hm hb;have ns:¬ Qr ms:=fun ⟨m,hm,hb⟩=>g5 m hm hb;refine⟨A',S,l1,ts,ms,rfl,SA.same s1,SqL.of q1,tl.same s1,fun m hm=>?_,by omega,by omega,po,?_⟩
   ·have:=g4 m hm;unfold badM at this;exact⟨Yi ⋯ ⋯,Yi ⋯ ⋯,Yi ⋯ ⋯⟩
   rw[if_neg ⋯,if_neg (by rw[g2];decide)];refine⟨fun z=>absurd z ⋯,fun _ z=>absurd z nb,fun _ _ z=>absurd z ns,fun _ _ _=>⟨fun z=>absurd z ⋯,fun _ l gv H' hl' SA' FP SP f' fl=>?_⟩⟩;exact h _ A' _ H' (.draw hl' FP SP) SA' (.refl A' H) ((FrS.of A' s1).trans f') (fun l2 z _=>by cases z;exact s1.free fl)
 | close =>
   have ht:H t=#[b,.tup,[.str "close"]]:=hd;obtain⟨g1,g2⟩:=gd;refine⟨_,rfl,t,_,_,_,rfl,rfl,SqT.of ht,rfl,rfl,_,rfl,?_⟩;rw[Nk ⋯];refine #[S];refine⟨_,rfl,t,_,_,_,rfl,rfl,SqT.of ht,rfl,rfl,_,rfl,?_⟩;rw[Nk ⋯];refine #[S];refine⟨_,rfl,t,_,_,_,rfl,rfl,SqT.of ht,rfl,rfl,_,rfl,?_⟩;rw[Nk ⋯];refine #[S];refine⟨_,rfl,t,_,_,_,rfl,rfl,SqT.of ht,rfl,rfl,_,rfl,?_⟩;rw[zc9];refine iteT ?_;refine⟨_,rfl,A'.p,dx,_,rfl,a1,Z6 ⋯,A',S,rfl,SA,htot,hl,hol,fun s hs=>?_,?_⟩
   ·obtain⟨c1,c2,c3,c4,c5⟩:=co s hs;refine⟨c2.one,?_,by omega⟩;rw[c2.len,c4];unfold mayS;rw[zx1]
   rw[if_neg ⋯];exact⟨fun z=>absurd z g2,fun s x H' hs SA' f' fx=>h _ { A' with lt:=x } _ H' (.close hs) SA' #[q,x,.inr fx] f' (fun l2 z=>nomatch z)⟩
 | back =>
   have ht:H t=#[b,.tup,[.str "take back"]]:=hd;refine⟨_,rfl,t,_,_,_,rfl,rfl,SqT.of ht,rfl,rfl,_,rfl,?_⟩;rw[Nk ⋯];refine #[S];refine⟨_,rfl,t,_,_,_,rfl,rfl,SqT.of ht,rfl,rfl,_,rfl,?_⟩;rw[Nk ⋯];refine #[S];refine⟨_,rfl,t,_,_,_,rfl,rfl,SqT.of ht,rfl,rfl,_,rfl,?_⟩;rw[Nk ⋯];refine #[S];refine⟨_,rfl,t,_,_,_,rfl,rfl,SqT.of ht,rfl,rfl,_,rfl,?_⟩;rw[Nk ⋯];refine #[S];obtain⟨S0,hs0⟩:=hbk rfl;obtain⟨d0,e1,e2,e3,e4,e5,e6⟩:=id hs0;refine⟨_,rfl,A'.p,dx,_,rfl,a1,Z6 ⋯,A',S,rfl,SA,fun z=>absurd z gd,fun std d s he=>?_⟩;rw[e1] at he;obtain⟨he1,he2⟩:=zzt he rfl;have he2:(d0,S0.cur)=(d,s):=by simpa using he2
   cases he2;subst he1;refine⟨S0.ppl,S0.out,e2,fun t' H' ht' SA' f'=>?_⟩;have eS:{ S with ppl:=S0.ppl,out:=S0.out,cur:=S0.cur,std:=S0.std }=S0:=by
    cases S;cases S0;simp only at e3 e4 e5 e6 ⊢;subst e3 e4 e5 e6;rfl
   rw[eS] at SA';exact h _ A' S0 H' (.back e1 ht' hs0) SA' (.refl A' H) f' (fun l2 z hx=>by cases z;obtain⟨xs,hx⟩:=hx;rw[ht'] at hx;cases hx)
abbrev M6:Stmt:=top 82
theorem Y9:#[n,["_law_pages","_law_cell_here","_law_pool_here","_law_most","_law_mixed","_law_clubs_here","_law_numbers_here","_law_page","_law_at_here","_law_kind","_law_rest_here","_law_day","_law_here","_law_known","_law_fresh","_law_club"],["_law_pages","_law_cell_here","_law_pool_here","_law_most","_law_mixed"],M6]:=fnS
theorem zb6(F:#[g,"_law_deed","_law_deed",M6])(T:#[j])(zsk:Zz P w K mg base "_law_matches" 2 ["_law_cell_here","_law_clubs_here","_law_most","_law_mixed"] (Ij K)):FnOk P w K mg base #[f] 3 f fd ["_law_pages","_law_cell_here","_law_pool_here","_law_most","_law_mixed"] (zby K):=by
 refine #[k,Y9];obtain⟨ok,l,t,lc,ln,ds,d,P0,cell,cs,nu,most,mixed,rfl,hl,PA,PL,hm1,hmx,hov,hpp,h⟩:=h;have hu:=We hr;refine⟨_,(Zc (Nz (pv 2) (Xu (K:=K) (n:=2) rfl rfl (Zv (pN 5 Y9.nd) (Zv (pN 6 Y9.nd) Xt))))
 (Zc (pS 7 Y9.nd (pI (iL K) (pv 0) (Pa U8 Zf)))
 (Zc (pS 8 Y9.nd (Zu Yq (Zm (cL K) (by rfl) T.zo5 PySem.boot_len (Za (pD hu (pv 7) Zr) Zb)) Zf))
 (Zc (pS 9 Y9.nd (Zu Yy (pv 1) Zf))
 (Zc (pS 10 Y9.nd (Zu Xo (pv 1) Zf))
 (Zc (Z2 (PW.pt (Ny (Zp Wd (pv 9) Zf (Zt _)) (Qg (Zp Tu (Zm (cL K) (by rfl) T.zo5 PySem.boot_len (Za (pv 0) Zb)) Zf (Zt _)))))
  (Zd (Zl (Yc (Za Zr Zb))))
  Zo)
 (Zc (pS 11 Y9.nd (Zm (Ko rfl) (by rfl) T.zu1 PyProof.Rows.boot_min (Za (pD hu (pv 7) Zr) (Za (Zu Yq (pv 8) (pI (iL K) (Yd (Za Zf (Za (Zu Yq Zf (Zu Yy (Zu Xo (pv 10) Zf) Zf)) Zb))) (Xp zfa (by rfl) T.zu6 PyProof.Rows.boot_int (Za (Vn Wd (pv 9) Zf (Zt _)) Zb)))) Zb))))
 (Zc (V1 (i:=12) Y9.nd rfl rfl rfl (cT ["_law_day","_law_page"] [11,7]) (Z9 (K:=K) rfl (pD hu (pv 7) Zr)) (fun _ _ _ _ _=>Sz (Zp (Iy (K:=K) rfl hr.units) (Yc (Za (pv 1) (Za (pI (iU K) (pv 0) Zf) Zb))) (pD hu (pv 2) Zr) (by with_unfolding_all rfl))) (fun _ _ _ _ _=>(pI (iU K) (pv 0) Zf)))
 (Zc (Z2 (PW.pt (Ny (Zp (zd8 (K:=K) rfl hr.units) (pv 12) (Yd Zb) (Zt _)) (Qg (PW.pt (X3 (Zp Tu (pv 9) Zf (Zt _)) (Xh (PW.pt (Ny (Zp Tu (pv 9) Zf (Zt _)) (Qg (Zp Tj (pD hu (pv 7) Zr) Y3 (Zt _)))))))))))
  (Zd (Zl (Yc (Za Zr (Za (pv 11) (Za (pI (iL K) (pv 12) (Zu Yy (pv 10) (Zm (cL K) (by rfl) T.zo5 PySem.boot_len (Za (pv 12) Zb)))) Zb))))))
  Zo)
 (Zc (Z2 (Zp Tj (pD hu (pv 7) Zr) Y3 (Zt _))
  (Zd (Zl (Yc (Za Zr Zb))))
  Zo)
 (Zc (pS 13 Y9.nd (Ww rfl (cT [] []) (Z9 (K:=K) rfl (pD hu (pv 7) Zr)) (fun _ _ _ _ _=>Wn) (fun _ _ _ _ _=>(pI (iU K) (pv 0) Zf))))
 (Zc (V1 (i:=14) Y9.nd rfl rfl rfl (cT ["_law_known"] [13]) (Z9 (K:=K) rfl (pv 6)) (fun _ _ _ _ _=>Sz (Zp (Dy (K:=K) rfl) (pv 0) (pv 1) (by with_unfolding_all rfl))) (fun _ _ _ _ _=>(pv 0)))
 (Zc (Z2 (PW.pt (Ny (Zp Wd (pv 9) Zf (Zt _)) (Qg (Zp (zd8 (K:=K) rfl hr.units) (pv 14) (Yd Zb) (Zt _)))))
  (Zc (pS 15 Y9.nd (pI (iL K) (pv 5) (Zu Yy (Zu Xo (pv 10) Zf) (Zm (cL K) (by rfl) T.zo5 PySem.boot_len (Za (pv 5) Zb)))))
  (Zd (Zl (Yc (Za Zr (Za (pI (iL K) (pv 14) (Zu Yy (pv 10) (Zm (cL K) (by rfl) T.zo5 PySem.boot_len (Za (pv 14) Zb)))) (Za (Zu Yq Zf (Zu Yy (Zu Xo (pv 10) Zf) Zf)) (Za (pv 15) Zb))))))))
  Zo)
 (Zd (Zl (Yc (Za Zr (Za (pF zsk hr (Za (pv 10) (Za (pv 5) (Za (pv 3) (Za (pv 4) Zb))))) Zb)))))))))))))))))),?_⟩
 show let y1:TS:=_;let y2:TS:=Z0 _ y1;let y3:TS:=Z0 _ y2;let y4:TS:=Z0 _ y3;let y5:TS:=Z0 _ y4;let y6:TS:=Z0 _ y5;let y7:TS:=Z0 _ y6;let y8:TS:=Z0 _ y7;let y9:TS:=Z0 _ y8;let y10:TS:=Z0 _ y9;let y11:TS:=Z0 _ y10;let y12:TS:=Z0 _ y11;let y13:TS:=Z0 _ y12;Z0 _ y13 _ _ _;intro y1 y2 y3 y4 y5 y6 y7 y8 y9 y10 y11 y12 y13;have sz0:([]:List V).length<=sizeLine:=zyv _;obtain⟨lp,lo,lv,dv,li,lg,lm,a1,PB,okd⟩:=id PA.split;have hat:atI ((ds++[d]).map V.ref) (-1)=#[b,V.ref,d]:=by rw[zx7];exact L2.atI_last _ _
 obtain⟨vts,v1,v2,v3⟩:=PB.vv;refine⟨_,rfl,t,_,rfl,SqT.of PL.tup,rfl,_,_,rfl,_,_,rfl,rfl,?_⟩;walk_at "if";refine⟨_,rfl,_,rfl,l,_,_,_,rfl,rfl,SqL.of hl,hat,?_⟩;walk_at "if";refine⟨_,rfl,d,_,rfl,DGet.k (k:=.inr "over") a1,lv,vts,rfl,#[x,v1],_,_,rfl,rfl,?_⟩;rw[v2.length];walk_at "if";refine⟨_,rfl,_,_,rfl,rfl,⋯,?_⟩;walk_at "if";refine⟨_,rfl,_,_,rfl,rfl,⟨by omega,by omega⟩,?_⟩;walk_at "if";obtain⟨kd,hkd⟩:∃ kd,kd=cell%8:=#[y,_];obtain⟨R,hR⟩:∃ R,R=cell/8:=#[y,_];rw[<- hkd,<- hR];show Z0 _ _ _ [#[d,l],#[l,cell],#[d,t],#[l,most],#[l,mixed],#[d,lc],#[d,ln],#[d,d],#[l,(P0.over.length:Int)+1],#[l,kd],#[l,R],none,none,none,none,none] H;have hdl:((((ds++[d]).map V.ref).length:Nat):Int)=(ds.length:Int)+1:=by rw[zx1,zx4];rfl
 have tup1:∀ (w:Str),([V.str w]).length<=sizeLine:=fun w=>by show 1<=sizeLine;rw[sizeLine_eq];decide
 refine Xl (W0 (b:=decide (V.int kd=V.int 7)&&decide (1<(ds.length:Int)+1)) (K0 (fun Q q=>⟨_,rfl,rfl,_,rfl,q⟩) fun Q q=>⟨_,rfl,l,_,rfl,#[x,hl],_,_,rfl,rfl,_,rfl,by rw[hdl];exact q⟩) (itB (fun hb=>?_) fun _=>Zx ?_))
 ·refine⟨tup1 _,fun tt ft=>?_⟩;refine h tt .back _ (show upd H tt _ tt=_ from Ze) ?_ (Zk ft) ft;rw[zzn,decide_eq_true_eq,decide_eq_true_eq] at hb;intro z;rw[z] at hb;have:=hb.2;simp at this
 refine⟨_,rfl,d,_,rfl,DGet.k (k:=.inr "rounds") a1,_,rfl,_,rfl,_,_,rfl,rfl,⟨by omega,by omega⟩,_,_,rfl,rfl,⋯,_,_,rfl,rfl,sz2,fun l2 f2=>?_⟩;refine al (upd _ l2 _) f2 rfl fun H2 q2 s2=>?_;obtain⟨z,hz,hz0⟩:∃ z:Int,atI [V.int 0,V.int (1+R/60%3)] (if #[i,V.int kd=V.int 6]=true then 1 else 0)=#[l,z]/\0<=z:=by
  cases decide (V.int kd=V.int 6) with
  | true=>exact#[q,_,by omega]
  | false=>exact#[q,0,by omega]
 refine⟨_,rfl,rfl,.inr ⟨_,rfl,l2,_,_,_,rfl,rfl,SqL.of q2,hz,_,_,rfl,rfl,_,_,rfl,?_⟩⟩;obtain⟨day,hday,hd1,hd2⟩:∃ day:Int,(if ((P0.over.length:Int)+1+z)<(P0.len:Int) then ((P0.over.length:Int)+1+z) else (P0.len:Int))=day/\(P0.over.length:Int)<day/\day<=P0.len:=⟨_,rfl,by split<;>omega,by split<;>omega⟩;rw[hday];walk_at "if";obtain⟨pts,p1,p2,p3⟩:=PB.pp;obtain⟨ots,o1,o2,o3⟩:=PB.oo;have hpl:pts.length=P0.ppl.length:=by rw[p2.length,zx1]
 have hls:=PB.li.some;refine#[ap,_,d,_,s2,_,s2,p1,X0 (K:=K) (a:=lp) (xs:=pts) (fun i ys H'=>Same H2 H'/\ys=(((P0.ppl.take i).filter fun x=>!decide ((day,x.1)∈P0.out)).map (·.1)).map V.int) #[y,Same.refl _] (fun i ys H' _ ⟨z,_⟩=>SqL.of (z _ _ (s2 _ _ p1))) (szN ⋯) (fun i ys H' ⟨_,e⟩=>by rw[e,zx1,zx1];exact zyg (zyw _ _) (zzc _ _)) ?_ ?_]
 ·rintro j x ys H3 hx3 ⟨s3,rfl⟩;obtain⟨tp,pp,rfl,hpp',htp⟩:=Ni p2 hx3;have sh3:=s2.trans s3;refine⟨_,rfl,_,rfl,tp,_,_,_,rfl,rfl,SqT.of (sh3 _ _ htp),show atI (pV pp) 0=some _ from rfl,sz2,fun t3 f3=>?_⟩;refine #[F,t3,f3,fun H4 q4 s4=>?_];have sh4:=sh3.trans s4;refine⟨_,rfl,d,_,rfl,DGet.k (k:=.inr "out") (sh4 _ _ a1),t3,lo,ots,_,_,P0.out,rfl,rfl,SqT.of q4,#[K,sh4,o1],o2.same sh4,_,rfl,?_⟩;rw[if_pos rfl,Xq hpp',zzk,zx7,zx7];refine itB (fun hb=>?_) fun hb=>?_
  ·refine⟨_,rfl,tp,_,_,_,rfl,rfl,SqT.of (sh4 _ _ htp),show atI (pV pp) 0=some _ from rfl,s3.trans s4,?_⟩;rw[zzl (p:=fun x:P3=>!decide ((day,x.1)∈P0.out)) (a:=pp) hb,zz6];rfl
  ·refine⟨s3.trans s4,?_⟩;rw[zzm (p:=fun x:P3=>!decide ((day,x.1)∈P0.out)) (a:=pp) (by rw[hb];decide),zz6];simp
 rintro ys H3 ⟨s3,rfl⟩ lh flh;rw[hpl,zyi];obtain⟨he,hhe⟩:∃ he,he=(P0.ppl.filter fun x=>!decide ((day,x.1)∈P0.out)).map (·.1):=#[y,_];rw[<- hhe];have hel:he.length<=100:=by rw[hhe,zx1];exact zyg (zyw _ _) hpp
 have hem:∀ n∈he,n∈P0.ppl.map (·.1)/\(day,n)∉P0.out:=fun n hn=>by
  rw[hhe] at hn;obtain⟨x,hx,rfl⟩:=zya.mp hn;obtain⟨hx1,hx2⟩:=zy5.mp hx;exact⟨zya.mpr ⟨x,hx1,rfl⟩,by simpa using hx2⟩
 have s4:=(s2.trans s3).trans (Zk (o:=.lst (he.map V.int)) flh);have q4:=Ze (H:=H3) (a:=lh) (o:=.lst (he.map V.int));show Wu 12 (V.ref lh) _ (upd H3 lh (.lst (he.map V.int))) _;generalize upd H3 lh (.lst (he.map V.int))=H4 at s4 q4 ⊢;walk_at "if";refine Xl (zaz (b:=!he.isEmpty&&(decide (3<kd)||(decide (0<kd)&&P0.lis.isSome))) (Bq (Il rfl q4) fun H5 s5=>Qm (T1 (fun Q q=>⟨_,rfl,_,_,rfl,rfl,_,rfl,q⟩) (K0 (fun Q q=>⟨_,rfl,_,_,rfl,rfl,_,rfl,q⟩) fun Q q=>⟨_,rfl,d,_,rfl,DGet.k (k:=.inr "listed") (s5 _ _ (s4 _ _ a1)),rfl,_,rfl,by rw[hls];exact q⟩))) fun H5 s5=>itB (fun hb=>?_) fun _=>Zx ?_)
 ·rw[zzn] at hb;have hne:he.length≠0:=by have:=hb.1;intro z;rw[zze.mp z] at this;exact absurd this ⋯
  have hpos:(0:Int)<(he.length:Int):=by omega
  have y0:=zy9 R (show (he.length:Int)≠0 by omega);have y1:=zy1 R hpos;have hix:=Wv (xs:=he) y0 ⋯;have mix:=Tt (ns:=he) (i:=(R%(he.length:Int)).toNat) ⋯;generalize he.getD (R%(he.length:Int)).toNat 0=n at hix mix;refine⟨_,rfl,_,rfl,_,rfl,_,rfl,lh,_,rfl,#[x,s5 _ _ q4],?_⟩;rw[zx1];refine⟨_,_,rfl,rfl,hpos,lh,_,_,_,rfl,rfl,#[K,s5,q4],hix,(by show 3<=sizeLine;rw[sizeLine_eq];decide),fun tt ft=>?_⟩;exact h tt (.away day n) _ (show upd H5 tt _ tt=_ from Ze) ⟨hd1,hd2,(hem n mix).1,(hem n mix).2⟩ ((s4.trans s5).trans (Zk ft)) ((s4.trans s5).free ft)
 have s05:=s4.trans s5;dsimp only;refine Xl (W0 (b:=P0.lis.isSome) (fun Q q=>⟨_,rfl,d,_,rfl,DGet.k (k:=.inr "listed") (s05 _ _ a1),rfl,_,rfl,by rw[hls];exact q⟩) (itB (fun hb=>?_) fun hb=>Zx ?_))
 ·refine⟨tup1 _,fun tt ft=>?_⟩;exact h tt .close _ (show upd H5 tt _ tt=_ from Ze) (fun z=>by rw[z] at hb;cases hb) (s05.trans (Zk ft)) (s05.free ft)
 have hno:P0.lis=none:=by
  cases hq:P0.lis with
  | none=>rfl
  | some ms=>rw[hq] at hb;cases hb
 dsimp only;have nul:=PL.nfew;have csl:=PL.few;refine#[ap,_,d,_,s05,_,s05,p1,X0 (K:=K) (a:=lp) (xs:=pts) (fun i ys H'=>Same H5 H'/\ys=((P0.ppl.take i).map (·.1)).map V.int) #[y,Same.refl _] (fun i ys H' _ ⟨z,_⟩=>SqL.of (z _ _ (s05 _ _ p1))) (szN ⋯) (fun i ys H' ⟨_,e⟩=>by rw[e,zx1,zx1];exact zzc _ _) ?_ ?_]
 ·rintro j x ys H6 hx6 ⟨s6,rfl⟩;obtain⟨tp,pp,rfl,hpp',htp⟩:=Ni p2 hx6;unfold tYes;dsimp only;rw[if_pos rfl];refine⟨_,rfl,tp,_,_,_,rfl,rfl,SqT.of (s6 _ _ (s05 _ _ htp)),show atI (pV pp) 0=some _ from rfl,s6,?_⟩;rw[Xq hpp',zx7,zx7];rfl
 rintro ys H6 ⟨s6,rfl⟩ lk flk;rw[hpl,zyi];obtain⟨kn,hkn⟩:∃ kn,kn=P0.ppl.map (·.1):=#[y,_];rw[<- hkn];have s7:=(s05.trans s6).trans (Zk (o:=.lst (kn.map V.int)) flk);have q7:=Ze (H:=H6) (a:=lk) (o:=.lst (kn.map V.int));show Wu 13 (V.ref lk) _ (upd H6 lk (.lst (kn.map V.int))) _;generalize upd H6 lk (.lst (kn.map V.int))=H7 at s7 q7 ⊢;walk_at "if";refine⟨_,rfl,ln,rfl,⟨_,SqL.of (s7 _ _ PL.nums)⟩,X0 (K:=K) (a:=ln) (xs:=nu.map V.int) (fun i ys H'=>H'=H7/\ys=((nu.take i).filter fun n=>!decide (n∈kn)).map V.int) #[y,rfl] (fun i ys H' _ ⟨z,_⟩=>by rw[z];exact #[K,s7,PL.nums]) (szN (by rw[zx1];omega)) (fun i ys H' ⟨_,e⟩=>by rw[e,zx1];exact zyg (zyw _ _) (zzc _ _)) ?_ ?_⟩
 ·rintro j x ys H8 hx8 ⟨rfl,rfl⟩;rw[zx5] at hx8;obtain⟨n,hn,rfl⟩:=zz2.mp hx8;refine⟨_,rfl,_,rfl,lk,_,rfl,#[x,q7],rfl,(List.all_eq_true.mpr fun y hy=>by obtain⟨i,_,rfl⟩:=zya.mp hy;rfl),_,rfl,?_⟩;rw[if_pos rfl,zeg,Xq hn,zzk,zx7];refine itB (fun hb=>?_) fun hb=>?_
  ·refine⟨_,rfl,rfl,?_⟩;rw[zzl (p:=fun n:Int=>!decide (n∈kn)) (a:=n) hb,zz6];rfl
  ·refine⟨rfl,?_⟩;rw[zzm (p:=fun n:Int=>!decide (n∈kn)) (a:=n) (by rw[hb];decide),zz6];simp
 rintro ys H8 ⟨rfl,rfl⟩ lf flf;rw[zx1,zyi];obtain⟨fs,hfs⟩:∃ fs,fs=nu.filter fun n=>!#[i,n∈kn]:=#[y,_];rw[<- hfs];have hfm:∀ n∈fs,n∈nu/\n∉P0.ppl.map (·.1):=fun n hn=>by
  rw[hfs] at hn;obtain⟨hx1,hx2⟩:=zy5.mp hn;exact⟨hx1,by rw[<- hkn];simpa using hx2⟩
 have hfl:fs.length<=100:=by rw[hfs];exact zyg (zyw _ _) ⋯
 have s9:=s7.trans (Zk (o:=.lst (fs.map V.int)) flf);have q9:=Ze (H:=H8) (a:=lf) (o:=.lst (fs.map V.int));show Wu 14 (V.ref lf) _ (upd H8 lf (.lst (fs.map V.int))) _;generalize upd H8 lf (.lst (fs.map V.int))=H9 at s9 q9 ⊢;walk_at "if";refine Xl (zaz (b:=decide (V.int kd=V.int 3) && !fs.isEmpty) (Bq (Qm fun Q q=>⟨_,rfl,rfl,_,rfl,q⟩) fun H10 s10=>Il rfl (s10 _ _ q9)) fun H10 s10=>itB (fun hb=>?_) fun _=>Zx ?_)
 ·rw[zzn] at hb;have hne:fs.length≠0:=by have:=hb.2;intro z;rw[zze.mp z] at this;exact absurd this ⋯
  have hpos:(0:Int)<(fs.length:Int):=by omega
  have y0:=zy9 R (show (fs.length:Int)≠0 by omega);have y1:=zy1 R hpos;have hix:=Wv (xs:=fs) y0 ⋯;have mix:=Tt (ns:=fs) (i:=(R%(fs.length:Int)).toNat) ⋯;generalize fs.getD (R%(fs.length:Int)).toNat 0=n at hix mix;have hcl:(0:Int)<(cs.length:Int):=by omega
  have w0:=zy9 (R/360) (show (cs.length:Int)≠0 by omega);have w1:=zy1 (R/360) hcl;have hcs:=Wv (xs:=cs) w0 ⋯;have mcs:=Tt (ns:=cs) (i:=(R/360%(cs.length:Int)).toNat) ⋯;generalize cs.getD (R/360%(cs.length:Int)).toNat 0=c at hcs mcs;have s010:=s9.trans s10;refine⟨_,rfl,_,rfl,_,_,rfl,rfl,⟨by omega,by omega⟩,_,rfl,lc,_,rfl,#[x,s010 _ _ PL.clubs],?_⟩;rw[zx1];refine⟨_,_,rfl,rfl,hcl,lc,_,_,_,rfl,rfl,#[K,s010,PL.clubs],hcs,?_⟩;walk_at "if";refine⟨_,rfl,_,rfl,_,rfl,lf,_,rfl,#[x,s10 _ _ q9],?_⟩;rw[zx1];refine⟨_,_,rfl,rfl,hpos,lf,_,_,_,rfl,rfl,#[K,s10,q9],hix,_,rfl,_,_,rfl,rfl,⟨by omega,by omega⟩,_,_,rfl,rfl,⋯,_,_,rfl,rfl,_,rfl,(by show 4<=sizeLine;rw[sizeLine_eq];decide),fun tt ft=>?_⟩;exact h tt (.enrol n (1+R/40%9) c) _ (show upd H10 tt _ tt=_ from Ze) ⟨hno,(hfm n mix).1,(hfm n mix).2,by omega,by omega,mcs⟩ (s010.trans (Zk ft)) (s010.free ft)
 have s010:=s9.trans s10;dsimp only;refine⟨_,rfl,_,rfl,_,rfl,_,rfl,lc,cs,R,most,mixed,rfl,s010 _ _ PL.clubs,by omega,by omega,PL.cnd,PL.crng,hm1,hmx,fun lm' ts ms H11 hlm tl hml gm s11 flm=>⟨sz2,fun tt ft=>?_⟩⟩;have s12:=Zk (o:=.tup [.str "draw up",.ref lm']) ft;exact h tt (.draw ms) _ ⟨lm',ts,Ze,s12 _ _ hlm,tl.same s12,s010.free flm⟩ ⟨hno,hml,gm⟩ ((s010.trans s11).trans s12) ((s010.trans s11).free ft)
abbrev Xx:Stmt:=top 83
theorem Ip:#[n,["_law_script","_law_crowd","_law_many"],["_law_script","_law_crowd"],Xx]:=fnS
@[irreducible] def Rb:List Expr:=zga (zbr (Nj (Xy (Zw Xx) 0)))
@[irreducible] def Iq:Pos:=zgb (zbr (Nj (Xy (Zw Xx) 0)))
theorem Cn:Zw Xx=[.Assign (ziq (Xy (Zw Xx) 0)) (.Subscript (.List Rb Iq) (zj0 (Nj (Xy (Zw Xx) 0))) (zj1 (Nj (Xy (Zw Xx) 0)))) (stP (Xy (Zw Xx) 0)),Xy (Zw Xx) 1]:=by unfold Rb Iq;kernel_rfl
theorem Co:F3 Rb [4,3,5,4,6,10,4,8]:=by unfold Rb;exact⟨by kernel_rfl,by kernel_rfl⟩
theorem zb7(F:#[g,"_law_pool","_law_pool",Xx])(T:#[j])(zpf:Zz P w K mg base "_law_at" 1 ["_law_script","_law_k"] (zcx K))(ztc:Zz P w K mg base "_law_clubs" 1 ["_law_cell_here","_law_many"] zea)(zsf:Zz P w K mg base "_law_numbers" 1 ["_law_cell_here","_law_many"] Fd):FnOk P w K mg base #[f] 2 f fd ["_law_script","_law_crowd"] (zbn K):=by
 refine #[k,Ip];obtain⟨b,ns,cr,rfl,hS,hc1,hc2,h⟩:=h;rw[Cn];refine⟨_,(Zc (pS 2 Ip.nd (pI (iL K) (Yd (Nf [4,3,5,4,6,10,4,8] Co)) (Zu Yy (Zu Xo (pF zpf hr (Za (pv 0) (Za Zf Zb))) Zf) Zf)))
 (Zd (Zl (Yc (Za (pF ztc hr (Za (pF zpf hr (Za (pv 0) (Za Zf Zb))) (Za (pv 2) Zb))) (Za (pF zsf hr (Za (pF zpf hr (Za (pv 0) (Za Zf Zb))) (Za (pv 1) Zb))) Zb)))))),?_⟩
 refine zl9 [4,3,5,4,6,10,4,8] ⋯ fun l H1 q1 s1 fl=>?_;have h0:=zy9 (Xm ns 0/4) (show (8:Int)≠0 by decide);have h1:=zy1 (Xm ns 0/4) (show (0:Int)<8 by decide);refine⟨_,rfl,b,ns,0,rfl,s1.seq hS,_,_,rfl,rfl,⟨by decide,by decide⟩,_,_,rfl,rfl,(show (0:Int)<8 by decide),l,_,_,_,rfl,rfl,SqL.of q1,Wv (xs:=[4,3,5,4,6,10,4,8]) h0 (by show _<((8:Nat):Int);omega),?_⟩;obtain⟨m,hm,hm1,hm2⟩:∃ m:Nat,([4,3,5,4,6,10,4,8]:List Int).getD (Xm ns 0/4%8).toNat 0=m/\3<=m/\m<=10:=by
  have hk:(Xm ns 0/4%8).toNat<8:=by omega
  generalize (Xm ns 0/4%8).toNat=k at hk
  match k,hk with
  | 0,_=>exact⟨4,rfl,by decide,by decide⟩
  | 1,_=>exact⟨3,rfl,by decide,by decide⟩
  | 2,_=>exact⟨5,rfl,by decide,by decide⟩
  | 3,_=>exact⟨4,rfl,by decide,by decide⟩
  | 4,_=>exact⟨6,rfl,by decide,by decide⟩
  | 5,_=>exact⟨10,rfl,by decide,by decide⟩
  | 6,_=>exact⟨4,rfl,by decide,by decide⟩
  | 7,_=>exact⟨8,rfl,by decide,by decide⟩
 rw[hm];refine⟨_,rfl,b,ns,3,rfl,s1.seq hS,_,rfl,_,m,rfl,by omega,fun lc H2 hlc s2 f2=>?_⟩;refine⟨_,rfl,b,ns,2,rfl,(s1.trans s2).seq hS,_,rfl,_,cr,rfl,by omega,fun ln H3 hln s3 f3=>?_⟩;refine⟨sz2,fun t ht=>?_⟩;have s4:=Zk (o:=.tup [.ref lc,.ref ln]) ht;have s13:=s1.trans (s2.trans s3);refine h t lc ln _ _ _ ⟨Ze,s4 _ _ (s3 _ _ hlc),s4 _ _ hln,by rw[Dz];exact⟨hm1,hm2⟩,zbp _ hm2,zf8 _ _,by rw[Lg];exact⟨hc1,hc2⟩,zbq _ ⋯,zf9 _ _⟩ (Lg _ _) (s13.trans s4) (s13.free ht) (s1.free f2) ((s1.trans s2).free f3)
abbrev Yk:Stmt:=top 84
theorem Y1:#[n,["_law_script","_law_pool_here","_law_clubs_here","_law_numbers_here","_law_many","_law_grades","_law_rest_here","_law_deeds","_law_k"],["_law_script","_law_pool_here"],Yk]:=fnS
@[irreducible] def U4:List Expr:=zga (Nj (Xy (Zw Yk) 3))
@[irreducible] def Nv:Pos:=zgb (Nj (Xy (Zw Yk) 3))
theorem Gj:Zw Yk=[Xy (Zw Yk) 0,Xy (Zw Yk) 1,Xy (Zw Yk) 2,.Assign (ziq (Xy (Zw Yk) 3)) (.List U4 Nv) (stP (Xy (Zw Yk) 3)),Xy (Zw Yk) 4,Xy (Zw Yk) 5,Xy (Zw Yk) 6,Xy (Zw Yk) 7]:=by unfold U4 Nv;kernel_rfl
theorem Gk:F3 U4 [1,2,3,4,5,6,7,8,9,9,9,9,9,8,8,7,6,5]:=by unfold U4;exact⟨by kernel_rfl,by kernel_rfl⟩
theorem Cp(F:#[g,"_law_people","_law_people",Yk])(T:#[j])(zpf:Zz P w K mg base "_law_at" 1 ["_law_script","_law_k"] (zcx K))(zqm:Zz P w K mg base "_law_mix" 1 ["_law_cell_here","_law_k"] zd9):FnOk P w K mg base #[f] 2 f fd ["_law_script","_law_pool_here"] (Ec K):=by
 refine #[k,Y1];obtain⟨b,t,lc,ln,ns,cs,nu,rfl,hS,PA,h⟩:=h;rw[Gj];refine⟨_,(Zc (Nz (pv 1) (Xu (K:=K) (n:=2) rfl rfl (Zv (pN 2 Y1.nd) (Zv (pN 3 Y1.nd) Xt))))
 (Zc (pS 4 Y1.nd (Zu Yy (pF zpf hr (Za (pv 0) (Za Zf Zb))) (Zu Yq (Zm (cL K) (by rfl) T.zo5 PySem.boot_len (Za (pv 3) Zb)) Zf)))
 (Zc (Z2 (Zp Wd (Zu Yy (Zu Xo (pF zpf hr (Za (pv 0) (Za Zf Zb))) (Zu Yq (Zm (cL K) (by rfl) T.zo5 PySem.boot_len (Za (pv 3) Zb)) Zf)) Zf) Zf (Zt _))
  (Zd (pS 4 Y1.nd (Zu Rf (Zm (cL K) (by rfl) T.zo5 PySem.boot_len (Za (pv 3) Zb)) (Zu Yy (pv 4) Zf))))
  Zo)
 (Zc (pS 5 Y1.nd (Yd (Nf [1,2,3,4,5,6,7,8,9,9,9,9,9,8,8,7,6,5] Gk)))
 (Zc (pS 6 Y1.nd (pF zpf hr (Za (pv 0) (Za Zf Zb))))
 (Zc (pS 7 Y1.nd (Yd Zb))
 (Zc (Yp PassesOwn.leaving rfl (Yw rfl T.zpl (Za (pv 4) Zb)) (pN 8 Y1.nd)
  (Zc (Y6 (pv 7) (Yc (Za Zr (Za (pI (iL K) (pv 3) (pv 8)) (Za (pI (iL K) (pv 5) (Zu Yy (pv 6) Zf)) (Za (pI (iL K) (pv 2) (Zu Yy (Zu Xo (pv 6) Zf) (Zm (cL K) (by rfl) T.zo5 PySem.boot_len (Za (pv 2) Zb)))) Zb))))))
  (Zd (pS 6 Y1.nd (pI (iL K) (Yd (Za (Zu Xo (Zu Xo (pv 6) Zf) (Zm (cL K) (by rfl) T.zo5 PySem.boot_len (Za (pv 2) Zb))) (Za (pF zqm hr (Za (pv 6) (Za (pv 8) Zb))) Zb))) (Zu Yy (pF zpf hr (Za (pv 0) (Za Zf Zb))) Zf))))))
 (Zd (Zl (pv 7)))))))))),?_⟩
 show let y1:TS:=_;let y2:TS:=Z0 _ y1;let y3:TS:=Z0 _ y2;let y4:TS:=Z0 _ y3;let y5:TS:=Z0 _ y4;let y6:TS:=Z0 _ y5;let y7:TS:=Z0 _ y6;Z0 _ y7 _ _ _;intro y1 y2 y3 y4 y5 y6 y7;have sz0:([]:List V).length<=sizeLine:=zyv _;have hw:(0:Int)<(nu.length:Int)+1:=by omega
 obtain⟨c1,c2⟩:=PA.few;obtain⟨n1,n2⟩:=PA.nfew;refine⟨_,rfl,t,_,rfl,SqT.of PA.tup,rfl,_,_,rfl,_,_,rfl,rfl,?_⟩;walk_at "if";refine⟨_,rfl,b,ns,4,rfl,hS,_,rfl,ln,_,rfl,#[x,PA.nums],_,_,rfl,rfl,?_⟩;rw[zx1];refine⟨_,_,rfl,rfl,hw,?_⟩;walk_at "if";have u0:=zy9 (Xm ns 4) (show (nu.length:Int)+1≠0 by omega);have u1:=zy1 (Xm ns 4) hw
 let jv4:L2.St->Hp->Prop:=fun σ' H'=>H'=H/\∃ m:Nat,σ'=[#[d,b],#[d,t],#[d,lc],#[d,ln],#[l,m],none,none,none,none]/\m<=nu.length
 refine J2 (b:=decide (V.int (Xm ns 4/((nu.length:Int)+1)%2)=V.int 1)) jv4 (fun Q q=>?_) (fun _ N hN=>?_) (fun _ N hN=>?_) ?_
 ·refine⟨_,rfl,b,ns,4,rfl,hS,_,rfl,ln,_,rfl,#[x,PA.nums],_,_,rfl,rfl,?_⟩;rw[zx1];exact⟨_,_,rfl,rfl,⟨hw,by omega⟩,_,_,rfl,rfl,by omega,rfl,_,rfl,q⟩
 ·refine⟨_,rfl,ln,_,rfl,#[x,PA.nums],?_⟩;rw[zx1];refine⟨_,rfl,_,_,rfl,rfl,by omega,_,_,rfl,rfl,hN _ _ ⟨rfl,((nu.length:Int)-Xm ns 4%((nu.length:Int)+1)%2).toNat,?_,by omega⟩⟩;rw[zz0 ⋯];rfl
 ·refine Zx (hN _ _ ⟨rfl,(Xm ns 4%((nu.length:Int)+1)).toNat,?_,by omega⟩);rw[zz0 ⋯];rfl
 rintro σ H' ⟨rfl,m,rfl,hm⟩;refine zbt [1,2,3,4,5,6,7,8,9,9,9,9,9,8,8,7,6,5] ⋯ fun lg H2 hg s2 fg=>?_;refine⟨_,rfl,b,ns,5,rfl,s2.seq hS,sz0,fun r fr=>?_⟩;have s1:=s2.trans (Zk (o:=.lst []) fr);have q1:=Ze (H:=H2) (a:=r) (o:=.lst []);have hg1:=Zk (o:=.lst []) fr _ _ hg;walk_at "if";generalize upd H2 r (.lst [])=H1 at s1 q1 hg1 ⊢;have fr0:=s2.free fr;have frg:lg≠r:=Zh hg fr
 let jv5:Nat->L2.St->Hp->Prop:=fun i σ H3=>(∃ v8 R,σ=[some (.ref b),some (.ref t),some (.ref lc),some (.ref ln),some (.int m),some (.ref lg),some (.int R),some (.ref r),v8])/\(∀ x o,H1 x=some o->x≠r->H3 x=some o)/\∃ ts es,H3 r=#[r,ts]/\Z8 H3 ts ((es:List P3).map enV)/\es.length=i/\es.map (·.1)=nu.take i/\(∀ x∈es,1<=x.2.1/\x.2.1<=9/\x.2.2∈cs)
 refine⟨_,rfl,_,rfl,by omega,by omega,Xa jv5
  ⟨⟨_,_,rfl⟩,fun _ _ e _=>e,[],[],q1,.nil,rfl,rfl,(fun m z=>nomatch z)⟩ ?_ ?_⟩
 ·rintro i σ H3 hi ⟨⟨v8,R,rfl⟩,k,ts,es,hr',tl,hml,enu,eok⟩;rw[zyh] at hi;rw[zy7];have s3:Same H' H3:=fun x o e=>k _ _ (s1 _ _ e) (Zh e fr0);have hg3:=k _ _ hg1 frg;have PA3:=PA.same s3;have hcl:(0:Int)<(cs.length:Int):=by omega
  have w0:=zy9 R (show (18:Int)≠0 by omega);have w1:=zy1 R (show (0:Int)<18 by omega);have y0:=zy9 (R/18) (show (cs.length:Int)≠0 by omega);have y1:=zy1 (R/18) hcl;have hgr:=Wv (xs:=Ar) w0 (by show _<((18:Nat):Int);omega);have rgr:=zdg (R%18).toNat ⋯;generalize hgv:Ar.getD (R%18).toNat 0=gv at hgr rgr;have hcs:=Wv (xs:=cs) y0 ⋯;have mcs:=Tt (ns:=cs) (i:=(R/18%(cs.length:Int)).toNat) ⋯;generalize cs.getD (R/18%(cs.length:Int)).toNat 0=c at hcs mcs;have hni:i<nu.length:=by omega
  have hnu:nu[i]?=some (nu[i]'hni):=zx2 hni;have etk:nu.take (i+1)=nu.take i++[nu[i]'hni]:=zyl hni;generalize nu[i]'hni=n at hnu etk;walk_at "if";refine⟨_,rfl,r,_,rfl,hr',?_⟩;refine⟨_,rfl,_,rfl,ln,_,_,_,rfl,rfl,SqL.of PA3.nums,Z4 (by rw[zx5,hnu];rfl),_,rfl,_,rfl,_,_,rfl,rfl,⋯,lg,_,_,_,rfl,rfl,SqL.of hg3,hgr,?_⟩;refine⟨_,rfl,_,rfl,_,_,rfl,rfl,⟨by omega,by omega⟩,_,rfl,lc,_,rfl,#[x,PA3.clubs],?_⟩;rw[zx1];refine⟨_,_,rfl,rfl,hcl,lc,_,_,_,rfl,rfl,SqL.of PA3.clubs,hcs,(by show 4<=sizeLine;rw[sizeLine_eq];decide),fun tt ft=>?_⟩;refine #[F,tt,ft,fun H4 q4 s4=>?_];have tln:=tl.length;rw[zx1] at tln;refine⟨ts,s4 _ _ hr',szN ⋯,?_⟩;have k5:∀ x o,H4 x=#[c]->x≠r->upd H4 r (.lst (ts++[.ref tt])) x=#[c]:=fun x o e n=>by rw[Zj n];exact e
  have q5:=Ze (H:=H4) (a:=r) (o:=.lst (ts++[.ref tt]));have kt5:∀ x ys,H4 x=#[z,ys]->upd H4 r (.lst (ts++[.ref tt])) x=#[z,ys]:=fun x ys e=>k5 _ _ e (Y2 e (s4 _ _ hr') (by intro z;cases z));dsimp only;generalize upd H4 r (.lst (ts++[.ref tt]))=H5 at k5 q5 kt5 ⊢;have s05:Same H' H5:=fun x o e=>k5 _ _ (s4 _ _ (s3 _ _ e)) (Zh e fr0);have PA5:=PA.same s05;obtain⟨mx,hmx,hmx1⟩:∃ mx:Nat,Xm ns 0%2=mx/\mx<=1:=⟨(Xm ns 0%2).toNat,by omega,by omega⟩;obtain⟨z,hz⟩:=at2 (R/18/(cs.length:Int)) (zjs R (i:Int)) hmx1;refine⟨_,rfl,_,_,rfl,rfl,⟨by omega,by omega⟩,_,rfl,lc,_,rfl,#[x,PA5.clubs],?_⟩;rw[zx1];refine⟨_,_,rfl,rfl,⟨hcl,by omega⟩,_,rfl,_,rfl,_,_,rfl,sz2,fun l2 f2=>?_⟩;refine #[F,l2,f2,fun H6 q6 s6=>?_];refine⟨_,rfl,b,ns,0,rfl,(s05.trans s6).seq hS,_,_,rfl,rfl,⋯,l2,_,_,_,rfl,rfl,SqL.of q6,(by rw[hmx];exact hz),?_⟩;refine⟨⟨_,_,rfl⟩,fun x o e n=>s6 _ _ (k5 _ _ (s4 _ _ (k _ _ e n)) n),ts++[.ref tt],es++[(n,gv,c)],s6 _ _ q5,?_,by rw[zx4,hml];rfl,?_,?_⟩
  ·rw[zx7];exact(tl.mono fun x ys e=>s6 _ _ (kt5 _ _ (s4 _ _ e))).snoc (s6 _ _ (kt5 _ _ q4))
  ·rw[zx7,enu,etk];rfl
  ·intro m hm;rcases zyd.mp hm with hm|hm
   ·exact eok m hm
   ·rw[zx6.mp hm];exact⟨rgr.1,rgr.2,mcs⟩
 ·rintro σ H3 ⟨⟨v8,R,rfl⟩,k,ts,es,hr',tl,hml,enu,eok⟩;rw[zyh] at hml enu;refine#[q,_,h r ts es H3 hr' tl (by rw[hml];exact enu) ⋯ eok (fun x o e=>k _ _ (s1 _ _ e) (Zh e fr0)) fr0]
abbrev Sv:Stmt:=top 85
theorem Th:#[n,["_law_season","_law_pages","_law_deeds","_law_deed_here"],["_law_season","_law_pages","_law_deeds"],Sv]:=fnS
theorem Gm(F:#[g,"_law_enrolled","_law_enrolled",Sv])(T:#[j])(zss:Zz P w K mg base "_law_do" 8 ["_law_season","_law_deed_here"] (zl7 K (ca a)))(zqv:Zz P w K mg base "_law_paged" 3 ["_law_pages","_law_deed_here"] (Ap K)):FnOk P w K mg base #[f] 9 f fd ["_law_season","_law_pages","_law_deeds"] (Ed K (ca a)):=by
 refine #[k,Th];obtain⟨mb,A',l,le,ts,es,ds,d,P0,S,nu,n,rfl,SA,hl,hlo,F,hle,hlf,tl,nd,eok,hp30,hn90,hcur,hlen,h⟩:=h;refine⟨_,(Zc (Yp PassesOwn.leaving rfl (Z9 (K:=K) rfl (pv 2)) (pN 3 Th.nd)
  (Zc (Z7 (pF zss hr (Za (pv 0) (Za (pv 3) Zb))))
  (Zd (pS 1 Th.nd (pF zqv hr (Za (pv 1) (Za (pv 3) Zb)))))))
 (Zd (Zl (pv 1)))),?_⟩
 have tln:=tl.length;rw[zx1] at tln
 let jv6:Nat->L2.St->Hp->Prop:=fun i σ H1=>∃ A1 l1 ds1 d1 P1 S1 v,σ=[#[d,A'.p],#[d,l1],#[d,le],v]/\Zy (ca a) H1 A1 S1/\H1 l1=#[R,(ds1++[d1]).map,V.ref]/\l1∉A1.fp/\Full mb (·∉A1.fp) H1 nu (n+i) ds1 d1 P1 S1/\FrN A' A1 H H1/\S1.cur=none/\S1.led=S.led/\S1.len=S.len/\S1.ppl=S.ppl++es.take i
 refine⟨_,rfl,le,rfl,⟨_,SqL.of hle⟩,Xr (K:=K) (a:=le) (xs:=ts) jv6
  ⟨A',l,ds,d,P0,S,_,rfl,SA,hl,hlo,F,.refl _ _,hcur,rfl,rfl,by simp⟩ (by rintro i σ H1 _ ⟨A1,_,_,_,_,_,_,_,_,_,_,_,f,_⟩;exact SqL.of (f.k _ _ hle hlf).1) ?_ ?_⟩
 ·rintro i x σ H1 hx ⟨A1,l1,ds1,d1,P1,S1,v,rfl,SA1,hl1,ho1,F1,f1,e1,e2,e3,e4⟩;have hi:i<ts.length:=(zx3.mp hx).1;have hie:i<es.length:=by omega
  have hex:es[i]?=some (es[i]'hie):=zx2 hie;have etk:=Xq hex;have hmem:es[i]'hie∈es:=zyx hie;obtain⟨t,ht1,ht2⟩:∃ t,x=.ref t/\H t=some (.tup (enV (es[i]'hie))):=by
   obtain⟨t,r,z1,z2,z3⟩:=tl.get hx;rw[zx5,hex] at z2;cases z2;exact⟨t,z1,z3⟩
  have hfr:(es[i]'hie).1∉(es.take i).map (·.1):=fun z=>by
   obtain⟨y,hy,ey⟩:=zya.mp z;obtain⟨j,hj,rfl⟩:=zzg hy;rw[z0a] at hj;rw[List.getElem_take] at ey;have h1:(es.map (·.1))[j]'(by rw[zx1];omega)=(es.map (·.1))[i]'(by rw[zx1];omega):=by rw[List.getElem_map,List.getElem_map];exact ey
   have:=(List.getElem_inj nd).mp h1;omega
  have hok:=eok _ hmem;generalize es[i]'hie=x0 at hex etk hmem ht2 hfr hok;obtain⟨k,gr,c⟩:=x0;subst ht1;have hD:Wy (·∉A1.fp) H1 t (.enrol k gr c):=f1.kt _ _ ht2;have g:Ih S1 (.enrol k gr c):=by
   refine⟨by rw[e2,e3];exact hlen,e1,hok.2.1,?_,?_⟩
   ·rw[e4,zx7];intro z;rcases zyd.mp z with z|z
    ·exact hok.2.2 z
    ·exact hfr z
   ·rw[e4,zx4,z0a];omega
  obtain⟨b1,b2,b3,b4,b5,b6,b7,b8,b9,b10⟩:=F1.pre g ⋯;refine⟨_,rfl,_,rfl,A1,S1,t,_,(by rw[f1.p];rfl),SA1,hD,g,b1,b2,b3,b4,b5,b6,b7,b8,b9,b10,fun v' A2 S2 H2 af SA2 nx fr _=>?_⟩;have f12:=FrN.next SA1 nx fr;obtain⟨c1,c2,c3,c4,c5⟩:=F1.pre2 g ⋯
  refine⟨_,rfl,_,rfl,(·∉A2.fp),l1,t,ds1,d1,P1,.enrol k gr c,rfl,(f12.k _ _ hl1 ho1).1,F1.pg.fr f12,hD.fr f12,c1,c2,c3,c4,c5,fun l3 d3 H3 hl3 pg s3 fl3 fd3=>?_⟩;obtain⟨ds2,d2,P2,ek,Pe,eP,_⟩:=turn F1 SA1 af SA2 nx fr g (fun k' gr' c' z=>by cases z;exact hok.1) pg s3 fd3;cases af with
  | enrol k gr c =>
    rw[ek] at hl3;refine⟨A2,l3,ds2,d2,P2,_,_,rfl,SA2.same s3,hl3,SA2.newOk _ fl3,Pe.full (fun s hs=>?_) fun z=>?_,f1.trans (f12.trans (.of s3)),e1,e2,e3,?_⟩
    ·have hs:S1.cur=some s:=hs;rw[e1] at hs;cases hs
    ·rw[eP nofun];show P1.mv=_;rw[F1.re.mv z,Vs e1];exact(Vs e1).symm
    ·show S1.ppl++[(k,gr,c)]=_;rw[e4,etk,zzy]
 ·rintro σ H1 ⟨A1,l1,ds1,d1,P1,S1,v,rfl,SA1,hl1,ho1,F1,f1,e1,e2,e3,e4⟩;rw[tln] at F1;exact#[q,_,h A1 l1 ds1 d1 P1 S1 H1 SA1 hl1 ho1 F1 f1 e1 e2 e3]
abbrev Wt:Stmt:=top 86
theorem zb8:#[n,["_law_script"],["_law_script"],Wt]:=fnS
@[irreducible] def Rc:List Expr:=zga (zbr (zjz (Xy (Zw Wt) 0)))
@[irreducible] def Ir:Pos:=zgb (zbr (zjz (Xy (Zw Wt) 0)))
theorem Cq:Zw Wt=[.Return (some (.Subscript (.List Rc Ir) (zj0 (zjz (Xy (Zw Wt) 0))) (zj1 (zjz (Xy (Zw Wt) 0))))) (stP (Xy (Zw Wt) 0))]:=by unfold Rc Ir;kernel_rfl
theorem Cr:F3 Rc [0,1,2,3,4,5,6,7,8,9,10,0,0,0,1,1,1,2,2,0,1,3]:=by unfold Rc;exact⟨by kernel_rfl,by kernel_rfl⟩
theorem zb9(F:#[g,"_law_rest","_law_rest",Wt])(T:#[j])(zpf:Zz P w K mg base "_law_at" 1 ["_law_script","_law_k"] (zcx K)):FnOk P w K mg base #[f] 2 f fd ["_law_script"] (zbl K):=by
 refine #[k,zb8];obtain⟨b,ns,rfl,hS,h⟩:=h;rw[Cq];refine⟨_,Zd (Zl (pI (iL K) (Yd (Nf [0,1,2,3,4,5,6,7,8,9,10,0,0,0,1,1,1,2,2,0,1,3] Cr)) (Zu Yy (pF zpf hr (Za (pv 0) (Za Zf Zb))) Zf))),?_⟩;refine zl8 Ig ⋯ fun l H1 q1 s1 fl=>?_;have h0:=zy9 (Xm ns 1) (show (22:Int)≠0 by decide);have h1:=zy1 (Xm ns 1) (show (0:Int)<22 by decide);have hat:=Wv (xs:=Ig) h0 (show _<((22:Nat):Int) by omega);have hb:0<=Ig.getD (Xm ns 1%22).toNat 0/\Ig.getD (Xm ns 1%22).toNat 0<=10:=by
  generalize (Xm ns 1%22).toNat=k;rw[zyt];cases e:Ig[k]? with
  | none=>exact⟨by decide,by decide⟩
  | some x =>
    have hm:=zyb e;have:∀ x∈Ig,0<=x/\x<=10:=by decide
    exact this x hm
 have hfin:=h (Ig.getD (Xm ns 1%22).toNat 0).toNat H1 rfl ⋯ s1;rw[zz0 hb.1] at hfin;exact⟨_,rfl,b,ns,1,rfl,s1.seq hS,_,_,rfl,rfl,(show (0:Int)<22 by decide),l,_,_,_,rfl,rfl,SqL.of q1,hat,hfin⟩
abbrev Q9:Stmt:=top 87
theorem Cs:#[n,["_law_script"],["_law_script"],Q9]:=fnS
theorem Ct(F:#[g,"_law_rounds","_law_rounds",Q9])(T:#[j])(zpf:Zz P w K mg base "_law_at" 1 ["_law_script","_law_k"] (zcx K)):FnOk P w K mg base #[f] 2 f fd ["_law_script"] (Fx K):=by
 refine #[k,Cs];obtain⟨b,ns,rfl,hS,h⟩:=h;refine⟨_,Zd (Zl (pI (iL K) (Yd (Za Zf (Za (Zu Yq Zf (Zu Yy (Zu Xo (pF zpf hr (Za (pv 0) (Za Zf Zb))) Zf) Zf)) Zb))) (Zu Yy (Zu Xo (pF zpf hr (Za (pv 0) (Za Zf Zb))) Zf) Zf))),?_⟩;refine⟨_,rfl,b,ns,1,rfl,hS,?_⟩;refine⟨_,_,rfl,rfl,⟨by decide,by decide⟩,_,_,rfl,rfl,(show (0:Int)<60 by decide),_,_,rfl,rfl,sz2,fun l hl=>?_⟩;have s1:=Zk (o:=.lst [V.int 60,V.int (1+Xm ns 1/22%60)]) hl;have q1:upd H l (.lst [V.int 60,V.int (1+Xm ns 1/22%60)]) l=#[b,.lst,[V.int 60,V.int (1+Xm ns 1/22%60)]]:=Ze;refine⟨_,rfl,b,ns,0,rfl,s1.seq hS,_,_,rfl,rfl,⟨by decide,by decide⟩,_,_,rfl,rfl,(show (0:Int)<2 by decide),?_⟩;have h01:Xm ns 0/2%2=0\/Xm ns 0/2%2=1:=by omega
 have hat:atI [V.int 60,V.int (1+Xm ns 1/22%60)] (Xm ns 0/2%2)=#[l,(((Oi ns).toNat:Nat):Int)]/\1<=(Oi ns).toNat/\(Oi ns).toNat<=60:=by
  unfold Oi;rcases h01 with e|e
  ·rw[e,if_pos rfl];exact⟨rfl,by decide,by decide⟩
  ·rw[e,if_neg ⋯,zz0 ⋯];exact⟨rfl,by omega,by omega⟩
 exact⟨l,_,_,_,rfl,rfl,SqL.of q1,hat.1,h _ _ rfl hat.2.1 hat.2.2 s1⟩
abbrev M7:Stmt:=top 88
theorem zca:#[n,["_law_script","_law_k"],["_law_script","_law_k"],M7]:=fnS
theorem zcb(F:#[g,"_law_cell","_law_cell",M7])(T:#[j])(zpf:Zz P w K mg base "_law_at" 1 ["_law_script","_law_k"] (zcx K))(zqm:Zz P w K mg base "_law_mix" 1 ["_law_cell_here","_law_k"] zd9):FnOk P w K mg base #[f] 2 f fd ["_law_script","_law_k"] (zbm K):=by
 refine #[k,zca];obtain⟨b,ns,k,rfl,hS,hk,h⟩:=h;refine⟨_,(Zc (Z2 (Zp Wd (Zu Yy (pF zpf hr (Za (pv 0) (Za Zf Zb))) Zf) Zf (Zt _))
  (Zd (Zl (pF zqm hr (Za (pI (iL K) (pv 0) (pv 1)) (Za (pv 1) Zb)))))
  Zo)
 (Zd (Zl (pI (iL K) (pv 0) (pv 1))))),?_⟩
 have hk':(ns.map V.int)[k]?=#[l,ns[k]'hk]:=by rw[zx5,zx2 hk];rfl
 refine⟨_,rfl,b,ns,0,rfl,hS,_,_,rfl,rfl,(show (0:Int)<2 by decide),rfl,_,rfl,?_⟩;refine itB (fun _=>?_) fun _=>?_
 ·exact⟨_,rfl,_,rfl,b,_,_,_,rfl,rfl,hS,Z4 hk',_,rfl,_,_,rfl,h _ H (Same.refl _)⟩
 ·exact⟨_,rfl,_,rfl,b,_,_,_,rfl,rfl,hS,Z4 hk',h _ H (Same.refl _)⟩
abbrev Ui:Stmt:=top 90
theorem Yh:#[n,["_law_season","_law_at_here","_law_kept","_law_people_here","_law_listed","_law_goes","_law_moves","_law_may","_law_left","_law_number","_law_grade","_law_club","_law_spots"],["_law_season","_law_at_here","_law_kept","_law_people_here"],Ui]:=fnS
theorem M8(F:#[g,"_law_shows_round","_law_shows_round",Ui])(T:#[j])(zpk:Zz P w K mg base "_law_rows_are" 4 #[L] (O9 K))(zrf:Zq P w K mg base a.zov "matches" 4 ["self","at"] #[e,Bn])(zpe:Zz P w K mg base "_law_list_is" 3 #[L] (Ob K))(zqh:Zq P w K mg base a.zov "goes" 4 ["self","at"] #[e,zc7])(zsp:Zq P w K mg base a.zov "left" 4 ["self","at"] #[e,zbk])(zrn:Zz P w K mg base "_law_moves_are" 5 #[L] (Eg K))(zp2:Zq P w K mg base a.zov "chains" 4 ["self","at"] #[e,Lo])(zo7:Zz P w K mg base "_law_one_is" 2 #[L] Qk)(zrz:Zq P w K mg base a.zov "where" 4 ["self","at","number"] #[e,zex])(zq0:Zz P w K mg base "_law_is_shortage" 4 ["_law_found","_law_may","_law_left"] (Bf K))(zsx:Zq P w K mg base a.zov "why" 4 ["self","at"] #[e,zkn]):FnOk P w K mg base #[f] 6 f fd ["_law_season","_law_at_here","_law_kept","_law_people_here"] (Lu K (ca a)):=by
 refine #[k,Yh];obtain⟨ok,A',S,i,t,lp,ll,lg,lm,lw,ts,mts,pts,ls,sh,rfl,SA,⟨i1,i2,i3,i4⟩,hsh,ht,hl,tl,hg,hm,gm,hw,iw,hp,tp,po,so,h⟩:=h;refine⟨_,(Zc (Nz (pv 2) (Xu (K:=K) (n:=4) rfl rfl (Zv (pN 4 Yh.nd) (Zv (pN 5 Yh.nd) (Zv (pN 6 Yh.nd) (Zv (pN 7 Yh.nd) Xt))))))
 (Zc (V1 (i:=8) Yh.nd rfl rfl rfl (cT ["_law_goes"] [5]) (Yw rfl T.zpl (Za (Zm (cL K) (by rfl) T.zo5 PySem.boot_len (Za (pv 5) Zb)) Zb)) (fun _ _ _ _ _=>Sz (Zp P8 (pI (iL K) (pv 1) (pv 0)) Y3 (Zt _))) (fun _ _ _ _ _=>(pv 0)))
 (Zc (Z2 (PW.pt (X3 (Yg (Yb (pF zpk hr (Za (Yj (pv 0) T.zow zrf (hr.mono ⋯) Zi (Za (pv 1) Zb)) (Za (pv 4) Zb))))) (Xh (Yg (Yb (pF zpe hr (Za (Yj (pv 0) T.zow zqh (hr.mono ⋯) Zi (Za (pv 1) Zb)) (Za (pv 5) Zb))))))))
  (Zd (Zl Yn))
  Zo)
 (Zc (Z2 (PW.pt (X3 (Yg (Yb (pF zpe hr (Za (Yj (pv 0) T.zow zsp (hr.mono ⋯) Zi (Za (pv 1) Zb)) (Za (pv 8) Zb))))) (Xh (Yg (Yb (pF zrn hr (Za (Yj (pv 0) T.zow zp2 (hr.mono ⋯) Zi (Za (pv 1) Zb)) (Za (pv 6) Zb))))))))
  (Zd (Zl Yn))
  Zo)
 (Zc (Yp PassesOwn.leaving rfl (Z9 (K:=K) rfl (pv 3)) (Xu (K:=K) (n:=3) rfl rfl (Zv (pN 9 Yh.nd) (Zv (pN 10 Yh.nd) (Zv (pN 11 Yh.nd) Xt))))
  (Zc (pS 12 Yh.nd (Zu Kt (Ww rfl (cT ["_law_number","_law_goes"] [9,5]) (Yw rfl T.zpl (Za (Zm (cL K) (by rfl) T.zo5 PySem.boot_len (Za (pv 5) Zb)) Zb)) (fun _ _ _ _ _=>Sz (Zp Wd (pI (iL K) (pv 2) (pv 0)) (pv 1) (Zt _))) (fun _ _ _ _ _=>(pv 0))) (Yd (Za Y3 Zb))))
  (Zd (Z2 (Yg (Yb (pF zo7 hr (Za (Yj (pv 0) T.zow zrz (hr.mono ⋯) Zi (Za (pv 1) (Za (pv 9) Zb))) (Za (pI (iL K) (pv 12) Zf) Zb)))))
   (Zd (Zl Yn))
   Zo))))
 (Zd (Zl (pF zq0 hr (Za (Yj (pv 0) T.zow zsx (hr.mono ⋯) Zi (Za (pv 1) Zb)) (Za (pv 7) (Za (Zm (cL K) (by rfl) T.zo5 PySem.boot_len (Za (pv 8) Zb)) Zb))))))))))),?_⟩
 show let y1:TS:=_;let y2:TS:=_;let y3:TS:=Z0 (ze8 _ _ (Z0 _ y1)) y2;let y4:TS:=Z0 _ y3;let y5:TS:=Z0 _ y4;let y6:TS:=Z0 _ y5;Z0 _ y6 _ _ _;intro y1 y2 y3 y4 y5 y6;obtain⟨g1,g2,g3,g4,⟨nu,g5⟩,g6,g7⟩:=so;have hgl:sh.gv.length=sh.may.length:=g3.len;obtain⟨⟨dx,vv,ob,_⟩,_⟩:=id SA;have i34:=And.intro i3 i4;refine⟨_,rfl,t,_,rfl,SqT.of ht,rfl,_,_,rfl,_,_,rfl,_,_,rfl,_,_,rfl,rfl,?_⟩;walk_at "if";refine⟨_,rfl,lg,_,rfl,#[x,hg],?_⟩;refine⟨_,rfl,by omega,by omega,?_⟩;rw[zyh];refine Lh (fun i=>#[i,sh.gv[i]?=some .non]) (fun i=>.int (i:Nat)) ⋯ (fun j R hj k'=>?_) (fun j R hj _ k'=>?_) fun lz flz=>?_
 ·rw[zy7];have hgj:sh.gv[j]?=some (sh.gv[j]'hj):=zx2 hj;refine⟨_,rfl,_,rfl,lg,_,_,_,rfl,rfl,SqL.of hg,Z4 hgj,rfl,_,rfl,?_⟩;rw[hgj] at k';have e2:#[i,some (sh.gv[j]'hj)=some V.non]=#[i,(sh.gv[j]'hj)=V.non]:=decide_eq_decide.mpr ⟨fun z=>Option.some.inj z,fun z=>by rw[z]⟩;rw[e2] at k';exact k'
 ·rw[zy7];exact#[q,_,k']
 have hlft:(Xz sh.gv).length<=100:=by
  unfold Xz;exact zyg (zyw _ _) (by rw[zy6];omega)
 have s1:Same H (upd H lz (.lst ((Xz sh.gv).map fun i=>V.int (i:Nat)))):=Zk flz;have q1:upd H lz (.lst ((Xz sh.gv).map fun i=>V.int (i:Nat))) lz=some (.lst ((Xz sh.gv).map fun i=>V.int (i:Nat))):=Ze;show Wu 8 _ _ (upd H lz (.lst ((Xz sh.gv).map fun i=>V.int (i:Nat)))) _;generalize upd H lz (.lst ((Xz sh.gv).map fun i=>V.int (i:Nat)))=H1 at s1 q1 ⊢;walk_at "if";refine Xl ?_;refine⟨_,rfl,A'.p,dx,_,rfl,s1 _ _ ob,Z6 ⋯,_,rfl,A',S,i,rfl,SA.same s1,R7 i1 i2 i34 hsh fun lq ts2 H2 hlq tq s2 _=>?_⟩;have s12:=s1.trans s2;refine⟨_,rfl,lq,ll,ts2,ts,_,rfl,hlq,#[K,s12,hl],tq,tl.same s12,fun r hr=>?_,by rw[zx1];omega,true,rfl,iteF ?_⟩
 ·obtain⟨m,_,rfl⟩:=zya.mp hr;refine⟨by show 3<=1000;decide,fun x hx=>?_⟩;simp only[pV,zx8,zy4,or_false] at hx;rcases hx with rfl|rfl|rfl<;>exact .inr ⟨_,rfl⟩
 refine⟨_,rfl,A'.p,dx,_,rfl,s12 _ _ ob,Z6 ⋯,_,rfl,A',S,i,rfl,SA.same s12,R7 i1 i2 i34 hsh fun lq2 H3 hlq2 s3 _=>?_⟩;have s13:=s12.trans s3;refine⟨_,rfl,lq2,lg,sh.gv,rfl,hlq2,#[K,s13,hg],g3.one,by omega,true,rfl,#[S]⟩;dsimp only;refine Xl ?_;refine⟨_,rfl,A'.p,dx,_,rfl,s13 _ _ ob,Z6 ⋯,_,rfl,A',S,i,rfl,SA.same s13,R7 i1 i2 i34 hsh ⟨g3.one,by omega,fun l3 H4 hl3 s4 _=>?_⟩⟩;have s14:=s13.trans s4;have q4:=(s2.trans (s3.trans s4)) _ _ q1;refine⟨_,rfl,l3,lz,_,rfl,hl3,SqL.of q4,fun x hx=>?_,by rw[zx1];omega,true,rfl,iteF ?_⟩
 ·obtain⟨k,_,rfl⟩:=zya.mp hx;exact .inr ⟨_,rfl⟩
 refine⟨_,rfl,A'.p,dx,_,rfl,s14 _ _ ob,Z6 ⋯,_,rfl,A',S,i,rfl,SA.same s14,R7 i1 i2 i34 hsh ⟨by omega,fun l4 ts4 H5 hl4 gl4 s5 _=>?_⟩⟩;have s15:=s14.trans s5;refine⟨_,rfl,_,ok,l4,lm,ts4,mts,sh.gaps,rfl,hl4,s15 _ _ hm,gl4,gm.keepL (.of s15),by omega,fun x hx=>zyg (g7 x hx) ⋯,true,rfl,#[S]⟩;have q5:=s5 _ _ q4;dsimp only;clear q4 q1 hlq tq hlq2 hl3 hl4 gl4 s14 s13 s12 s1 s2 s3 s4 s5
 let jv7:Nat->L2.St->Hp->Prop:=fun j σ H'=>(∃ v9 v10 v11 v12,σ=[some (.ref A'.p),some (.int i),some (.ref t),some (.ref lp),some (.ref ll),some (.ref lg),some (.ref lm),some (.ref lw),some (.ref lz),v9,v10,v11,v12])/\Same H5 H'
 refine⟨_,rfl,lp,rfl,⟨_,SqL.of (s15 _ _ hp)⟩,Xr (K:=K) (a:=lp) (xs:=pts) jv7 ⟨⟨_,_,_,_,rfl⟩,Same.refl _⟩ (fun j σ H' _ ⟨_,z⟩=>SqL.of (z _ _ (s15 _ _ hp))) ?_ ?_⟩
 ·rintro j x σ H6 hx ⟨⟨v9,v10,v11,v12,rfl⟩,s6⟩;obtain⟨t',r,rfl,hr,ht'⟩:=tp.get hx;obtain⟨pp,hpp,rfl⟩:∃ pp,S.ppl[j]?=some pp/\pV pp=r:=by
   rw[zx5] at hr;cases e:S.ppl[j]? with
   | none=>rw[e] at hr;cases hr
   | some y=>rw[e] at hr;exact#[q,y,Option.some.inj hr]
  have hin:=zyb hpp;have hinn:pp.1∈S.ppl.map (·.1):=zya.mpr ⟨pp,hin,rfl⟩;have s16:=s15.trans s6;refine⟨t',_,rfl,SqT.of (s16 _ _ ht'),rfl,_,_,rfl,_,_,rfl,_,_,rfl,rfl,?_⟩;walk_at "if";refine⟨_,rfl,lg,_,rfl,#[x,s16 _ _ hg],?_⟩;refine⟨_,rfl,by omega,by omega,?_⟩;rw[zyh];refine Lh (fun i=>#[i,sh.gv[i]?=#[l,pp.1]]) (fun i=>.int (i:Nat)) ⋯ (fun j R hj k'=>?_) (fun j R hj _ k'=>?_) fun l7 fl7=>?_
  ·rw[zy7];have hgj:sh.gv[j]?=some (sh.gv[j]'hj):=zx2 hj;refine⟨_,rfl,_,rfl,lg,_,_,_,rfl,rfl,#[K,s16,hg],Z4 hgj,_,rfl,?_,_,rfl,?_⟩
   ·rcases g3.one _ (zyx hj) with z|⟨_,z⟩<;>rw[z]<;>rfl
   ·rw[hgj] at k';have e2:#[i,some (sh.gv[j]'hj)=#[b,V.int,pp.1]]=#[i,(sh.gv[j]'hj)=V.int pp.1]:=decide_eq_decide.mpr ⟨fun z=>Option.some.inj z,fun z=>by rw[z]⟩;rw[e2] at k';exact k'
  ·rw[zy7];exact#[q,_,k']
  rw[zb0 g3];obtain⟨op,hop⟩:∃ op,op=Wa sh.gv pp.1:=#[y,_];rw[<- hop];refine #[F,l7,fl7,fun H7 q7 s7=>?_];have hol:(op.toList.map fun i=>V.int (i:Nat)).length<=1:=by cases op<;>simp
  refine⟨(by show 1<=sizeLine;rw[sizeLine_eq];decide),fun le fe=>?_⟩;refine #[F,le,fe,fun H8 q8 SH8=>?_];have s8:=s7.trans SH8;have q78:=SH8 _ _ q7;refine⟨l7,le,_,_,rfl,rfl,q78,q8,szN (by show _+1<=1000;omega),fun lc fc=>?_⟩;refine #[F,lc,fc,fun H9 q9 SH9=>?_];have s9:=s8.trans SH9;have hz0:atI ((op.toList.map fun i=>V.int (i:Nat))++[.non]) 0=#[b,oN,op]:=by cases op<;>rfl
  have s19:=s16.trans s9;walk_at "if";refine⟨_,rfl,A'.p,dx,_,rfl,s19 _ _ ob,Z6 ⋯,_,rfl,_,rfl,A',S,i,pp.1,rfl,SA.same s19,po.small pp hin,R7 i1 i2 i34 hsh ⟨g3.one,by omega,?_⟩⟩;rw[if_pos hinn,<- hop];intro H10 s10;refine⟨_,rfl,lc,_,_,_,rfl,rfl,#[K,s10,q9],hz0,oN op,rfl,(by cases op with|none=>exact .inl rfl|some i=>exact .inr ⟨_,rfl⟩),true,rfl,#[S]⟩;exact⟨⟨_,_,_,_,rfl⟩,s6.trans (s9.trans s10)⟩
 ·rintro σ H6 ⟨⟨v9,v10,v11,v12,rfl⟩,s6⟩;have s16:=s15.trans s6;refine⟨_,rfl,A'.p,dx,_,rfl,s16 _ _ ob,Z6 ⋯,_,rfl,A',S,i,rfl,SA.same s16,R7 i1 i2 i34 hsh ⟨⟨_,g5⟩,g3,zbz g3 g4,fun tw lp9 lr9 ps rs H7 htw hp9 hr9 SP s7 _ _ _ _=>?_⟩⟩;have s17:=s16.trans s7;refine⟨_,rfl,_,rfl,lz,_,rfl,#[x,(s6.trans s7) _ _ q5],?_⟩;rw[zx1];exact⟨tw,lw,lp9,lr9,ls,sh.may,nu,sh.gv,ps,rs,rfl,htw,s17 _ _ hw,iw.same s17,g5,hp9,hr9,SP,fun H8 s8=>h H8 (s17.trans s8)⟩
abbrev Ti:Stmt:=top 92
theorem Xc:#[n,["_law_found","_law_page","_law_k","_law_listed","_law_goes","_law_moves","_law_may","_law_due"],["_law_found","_law_page"],Ti]:=fnS
theorem Jv(F:#[g,"_law_facts_are","_law_facts_are",Ti])(T:#[j])(zpk:Zz P w K mg base "_law_rows_are" 4 #[L] (O9 K)):FnOk P w K mg base #[f] 5 f fd ["_law_found","_law_page"] (Eh K):=by
 refine #[k,Xc];obtain⟨ok,l,d,ls,P0,rfl,hl,PA,PO,rl,h⟩:=h;have hu:=We hr;refine⟨_,(Zc (Z2 #[aq,0,_,Zb,Xh,Zp Pb #[ab,cL,Za,0,Zb] (Zm (cL K) (by rfl) T.zo5 PySem.boot_len (Za (pD hu (pv 1) Zr) Zb)) (Zt _)]
  (Zd (Zl Yn))
  Zo)
 (Zc (Yp PassesOwn.leaving rfl (Yw rfl T.zpl (Za (Zm (cL K) (by rfl) T.zo5 PySem.boot_len (Za (pv 0) Zb)) Zb)) (pN 2 Xc.nd)
  (Zc (Nz (pI (iL K) (pD hu (pv 1) Zr) (pv 2)) (Xu (K:=K) (n:=4) rfl rfl (Zv (pN 3 Xc.nd) (Zv (pN 4 Xc.nd) (Zv (pN 5 Xc.nd) (Zv (pN 6 Xc.nd) Xt))))))
  (Zc (V1 (i:=7) Xc.nd rfl rfl rfl (cT ["_law_goes","_law_listed"] [4,3]) (Yw rfl T.zpl (Za (Zm (cL K) (by rfl) T.zo5 PySem.boot_len (Za (pv 3) Zb)) Zb)) (fun _ _ _ _ _=>Wn) (fun _ _ _ _ _=>(Yc (Za (pI (iU K) (pI (iL K) (pv 2) (pv 0)) Zf) (Za (pI (iU K) (pI (iL K) (pv 2) (pv 0)) Zf) (Za (pI (iU K) (pI (iL K) (pv 2) (pv 0)) Zf) (Za (pI (iL K) (pv 1) (pv 0)) Zb)))))))
  (Zd (Z2 (Yg (Yb (pF zpk hr (Za (pI (iL K) (pv 0) (pv 2)) (Za (pv 7) Zb)))))
   (Zd (Zl Yn))
   Zo)))))
 (Zd (Zl Yn)))),?_⟩
 obtain⟨lp,lo,lv,dv,li,lg,lm,a1,PB,okd⟩:=id PA.split;obtain⟨vts,u1,u2,u3⟩:=PB.vv;have hvl:=u2.length;have hll:=rl.length;rw[zx1] at hll;have hz:=PO.1;refine⟨_,rfl,_,_,_,_,rfl,.of (.lst hl),.inl ⟨_,rfl⟩,N4 K,_,rfl,?_⟩;refine iteF ?_;refine⟨_,rfl,l,_,rfl,#[x,hl],_,rfl,d,_,rfl,DGet.k (k:=.inr "over") a1,lv,vts,rfl,#[x,u1],rfl,_,rfl,?_⟩;rw[show (ls.map V.ref).length=vts.length by rw[zx1];omega,zx9 rfl];refine #[S];dsimp only
 let jv8:Nat->L2.St->Hp->Prop:=fun i σ H'=>(∃ v2 v3 v4 v5 v6 v7,σ=[some (.ref l),some (.ref d),v2,v3,v4,v5,v6,v7])/\#[p]
 refine⟨_,rfl,l,_,rfl,#[x,hl],_,rfl,by omega,by rw[zx1];omega,Xa jv8 ⟨⟨_,_,_,_,_,_,rfl⟩,Same.refl _⟩ ?_ ?_⟩
 ·rintro i σ H1 hi ⟨⟨v2,v3,v4,v5,v6,v7,rfl⟩,s1⟩;rw[zyh,zx1] at hi;rw[zy7];have hiv:i<vts.length:=by omega
  obtain⟨t,l1,g1,m1,y1,ts,s,ex,hs,ht,hl1,tl1,hg1,_,_⟩:=u2.get (zx2 hiv);have hvt:vts[i]?=#[d,t]:=by rw[zx2 hiv,ex]
  obtain⟨lr,trs,w1,w2,w3⟩:=rl.getR (i:=i) (rs:=Ya s) (by rw[zx5,hs];rfl);obtain⟨p1,p2,p3⟩:=PO.2.2 s (zyb hs);have tln:ts.length=s.ms.length:=by rw[tl1.length,zx1]
  have rln:(Ya s).length=s.ms.length:=by unfold Ya;rw[z0c,p2,Nat.min_self]
  walk_at "if";refine⟨_,rfl,d,_,rfl,DGet.k (k:=.inr "over") (s1 _ _ a1),_,rfl,lv,_,_,_,rfl,rfl,#[K,s1,u1],Z4 hvt,t,_,rfl,SqT.of (s1 _ _ ht),rfl,_,_,rfl,_,_,rfl,_,_,rfl,_,_,rfl,rfl,?_⟩;walk_at "if";refine⟨_,rfl,l1,ts,rfl,#[x,s1 _ _ hl1],_,rfl,by omega,by omega,?_⟩;rw[zyh];refine Qj (fun j ys H'=>Same H1 H'/\Z8 H' ys (((Ya s).take j).map row4)/\ys.length=j) ⟨Same.refl _,.nil,rfl⟩ (szN ⋯) (fun j ys H' ⟨_,_,e⟩=>by omega) (fun j ys H' hj p=>?_) fun ys H' p l' hl'=>?_
  ·obtain⟨s2,tl2,hyl⟩:=p;have s02:=s1.trans s2;rw[zy7];have hj2:j<s.gv.length:=by omega
   have hgj:s.gv[j]?=some (s.gv[j]'hj2):=zx2 hj2;have hone:=p3 _ (zyx hj2);generalize s.gv[j]'hj2=xv at hgj hone;obtain⟨tj,mj,e1,hmj,htj⟩:=Ni tl1 (zx2 hj);have htj':ts[j]?=#[d,tj]:=by rw[zx2 hj,e1]
   have hr3:(Ya s)[j]?=some (Fp mj xv):=by unfold Ya;rw[List.getElem?_zipWith,hmj,hgj]
   unfold tYes;dsimp only;rw[if_pos rfl];refine⟨_,rfl,_,rfl,l1,_,_,_,rfl,rfl,#[K,s02,hl1],Z4 htj',tj,_,_,_,rfl,rfl,SqT.of (s02 _ _ htj),show atI (pV mj) 0=some _ from rfl,?_⟩;refine⟨_,rfl,_,rfl,l1,_,_,_,rfl,rfl,#[K,s02,hl1],Z4 htj',tj,_,_,_,rfl,rfl,SqT.of (s02 _ _ htj),show atI (pV mj) 1=some _ from rfl,?_⟩;refine⟨_,rfl,_,rfl,l1,_,_,_,rfl,rfl,#[K,s02,hl1],Z4 htj',tj,_,_,_,rfl,rfl,SqT.of (s02 _ _ htj),show atI (pV mj) 2=some _ from rfl,?_⟩;refine⟨_,rfl,_,rfl,g1,_,_,_,rfl,rfl,#[K,s02,hg1],Z4 hgj,(by show 4<=sizeLine;rw[sizeLine_eq];decide),fun t9 f9=>?_⟩;have s9:=Zk (o:=.tup [.int mj.1,.int mj.2.1,.int mj.2.2,xv]) f9;refine⟨s2.trans s9,?_,by rw[zx4,hyl];rfl⟩;rw[Xq hr3,zx7];refine(tl2.same s9).snoc ?_;have er:row4 (Fp mj xv)=[.int mj.1,.int mj.2.1,.int mj.2.2,xv]:=by
    rcases hone with rfl|⟨w,rfl⟩<;>rfl
   rw[er];exact Ze
  ·obtain⟨s2,tl2,hyl⟩:=p;rw[tln,<- rln,zyi] at tl2;have s3:=s2.trans (Zk (o:=.lst ys) hl');have q3:=Ze (H:=H') (a:=l') (o:=.lst ys);have tl3:=tl2.same (Zk (o:=.lst ys) hl');show Wu 7 (V.ref l') _ (upd H' l' (.lst ys)) _;generalize upd H' l' (.lst ys)=H3 at s3 q3 tl3 ⊢;have s03:=s1.trans s3;walk_at "if";refine⟨_,rfl,_,rfl,l,_,_,_,rfl,rfl,#[K,s03,hl],Z4 (by rw[zx5,w1];rfl),_,rfl,lr,l',trs,ys,(Ya s).map row4,rfl,s03 _ _ w2,SqL.of q3,w3.same s03,tl3,fun r hr=>?_,by rw[zx1];omega,true,rfl,iteF (Zx ⟨⟨_,_,_,_,_,_,rfl⟩,s03⟩)⟩;obtain⟨q,_,rfl⟩:=zya.mp hr;refine⟨by show 4<=1000;decide,fun x hx=>?_⟩;simp[row4] at hx;rcases hx with rfl|rfl|rfl|rfl
   ·exact .inr ⟨_,rfl⟩
   ·exact .inr ⟨_,rfl⟩
   ·exact .inr ⟨_,rfl⟩
   ·cases q.w with
    | none=>exact .inl rfl
    | some n=>exact .inr ⟨_,rfl⟩
 ·rintro σ H1 ⟨⟨v2,v3,v4,v5,v6,v7,rfl⟩,s1⟩;exact h H1 s1
abbrev Sw:Stmt:=top 73
theorem Gn:#[n,#[L],#[L],Sw]:=fnS
theorem Gp(F:#[g,"_law_truth_is","_law_truth_is",Sw])(T:#[j]):FnOk P w K mg base #[f] 1 f fd #[L] zef:=by
 refine #[k,Gn];obtain⟨x,rfl,h⟩:=h;refine⟨_,Zd (Zl (P5 (Zm (Y7 (K:=K) rfl) (by rfl) T.zo8 PyProof.Rows.boot_isinstance (Za (pv 0) (Za (Wf rfl T.zuv PyProof.Rows.boot_bool (show RelV (.ty "bool") _ from rfl)) Zb))) (P4 (Vn Wd (pv 0) (pv 1) (Zt _))))),?_⟩;refine⟨_,rfl,_,_,_,_,rfl,.of (.bl x),.inl ⟨_,rfl⟩,zly K,_,rfl,?_⟩;refine iteT ?_;refine⟨_,rfl,_,rfl,rfl,?_⟩;rw[zx9 rfl];exact h
abbrev Vy:Stmt:=top 89
theorem Y8:#[n,["_law_season","_law_page","_law_at_here","_law_number","_law_grade","_law_club","_law_day"],["_law_season","_law_page"],Vy]:=fnS
theorem Nr(F:#[g,"_law_shows_people","_law_shows_people",Vy])(T:#[j])(zpe:Zz P w K mg base "_law_list_is" 3 #[L] (Ob K))(zqw:Zq P w K mg base a.zov "referees" 2 ["self"] #[e,Fv])(zqc:Zz P w K mg base "_law_tuple_is" 3 #[L] (Kx K))(zra:Zq P w K mg base a.zov "referee" 3 #[Q] #[e,Bm])(zr6:Zz P w K mg base "_law_truth_is" 1 #[L] zef)(zpz:Zq P w K mg base a.zov "is_away" 2 ["self","at","number"] #[e,Fw]):FnOk P w K mg base #[f] 4 f fd ["_law_season","_law_page"] (Nt K (ca a)):=by
 refine #[k,Y8];obtain⟨ok,mb,A',S,d,P0,nu,n,rfl,SA,PA,RB,so,hn,h⟩:=h;have hu:=We hr;refine⟨_,(Zc (Z2 (Yg (Yb (pF zpe hr (Za (Ye (pv 0) T.zow zqw (hr.mono ⋯) Zi) (Za (Ww rfl (cT [] []) (Z9 (K:=K) rfl (pD hu (pv 1) Zr)) (fun _ _ _ _ _=>Wn) fun _ _ _ _ _=>(pI (iU K) (pv 0) Zf)) Zb)))))
  (Zd (Zl Yn))
  Zo)
 (Zc (pS 2 Y8.nd (Zu Yq (Zm (cL K) (by rfl) T.zo5 PySem.boot_len (Za (pD hu (pv 1) Zr) Zb)) Zf))
 (Zc (Yp PassesOwn.leaving rfl (Z9 (K:=K) rfl (pD hu (pv 1) Zr)) (Xu (K:=K) (n:=3) rfl rfl (Zv (pN 3 Y8.nd) (Zv (pN 4 Y8.nd) (Zv (pN 5 Y8.nd) Xt))))
  (Zc (Z2 (Yg (Yb (pF zqc hr (Za (Yj (pv 0) T.zow zra (hr.mono ⋯) Zi (Za (pv 3) Zb)) (Za (Yc (Za (pv 4) (Za (pv 5) Zb))) Zb)))))
   (Zd (Zl Yn))
   Zo)
  (Zd (Yp PassesOwn.leaving rfl (O6 rfl T.zpl (Za (Zm (O7 rfl) (by rfl) T.zuk PyProof.Rows.boot_max (Za Zf (Za (Zu Rf (pv 2) Zf) Zb))) (Za (Zu Yq (Zm (Ko rfl) (by rfl) T.zu1 PyProof.Rows.boot_min (Za (pD hu (pv 1) Zr) (Za (Zu Yq (pv 2) Zf) Zb))) Zf) Zb))) (pN 6 Y8.nd)
   (Zd (Z2 (Yg (Yb (pF zr6 hr (Za (Yj (pv 0) T.zow zpz (hr.mono ⋯) Zi (Za (pv 6) (Za (pv 3) Zb))) (Za (Vn (Lq (K:=K) rfl hr.units) (Yc (Za (pv 6) (Za (pv 3) Zb))) (pD hu (pv 1) Zr) (by with_unfolding_all rfl)) Zb)))))
    (Zd (Zl Yn))
    Zo))))))
 (Zd (Zl Yn))))),?_⟩
 show let y1:TS:=_;let y2:TS:=_;let y3:TS:=Z0 (ze8 _ _ (Z0 _ y1)) y2;let y4:TS:=Z0 _ y3;Z0 _ y4 _ _ _;intro y1 y2 y3 y4;obtain⟨lp,lo,lv,dv,li,lg,lm,a1,PB,okd⟩:=id PA.split;obtain⟨pts,p1,p2,p3⟩:=PB.pp;obtain⟨ots,o1,o2,o3⟩:=PB.oo;obtain⟨vts,v1,v2,v3⟩:=PB.vv;obtain⟨⟨dx,vv,ob,_⟩,_⟩:=id SA;rw[RB.ppl] at p2;have hpl:pts.length=S.ppl.length:=by rw[p2.length,zx1]
 have hfew:=so.few;have hlen:=so.len;have hvl:(vts.length:Int)+1=atV S:=by rw[v2.length];exact RB.at so
 have hat:atV S=(S.led.length:Int)+1:=rfl;refine Xl ?_;refine⟨_,rfl,A'.p,dx,_,rfl,ob,Z6 ⋯,A',S,rfl,SA,fun lr H1 hlr s1 _=>?_⟩;refine#[ap,_,d,_,s1,_,s1,p1,X0 (K:=K) (a:=lp) (xs:=pts) (fun i ys H'=>H'=H1/\ys=(S.ppl.take i).map fun x=>V.int x.1) #[y,rfl] (fun i ys H' _ z=>by rw[z.1];exact #[K,s1,p1]) (szN ⋯) (fun i ys H' z=>by rw[z.2,zx1];exact zzc _ _) ?_ ?_]
 ·rintro i x ys H' hx ⟨rfl,rfl⟩;obtain⟨tp,pp,rfl,hpp,htp⟩:=Ni p2 hx;unfold tYes;dsimp only;rw[if_pos rfl];exact⟨_,rfl,tp,_,_,_,rfl,rfl,SqT.of (s1 _ _ htp),show atI (pV pp) 0=some _ from rfl,rfl,by rw[Xq hpp,zx7];rfl⟩
 rintro ys H' ⟨rfl,rfl⟩ lq flq;rw[hpl,zyi];refine⟨lr,lq,_,rfl,Zk flq _ _ hlr,SqL.of Ze,fun x hx=>?_,by rw[zx1];omega,true,rfl,#[S]⟩
 ·obtain⟨y,_,rfl⟩:=zya.mp hx;exact .inr ⟨_,rfl⟩
 have s2:=s1.trans (Zk (o:=.lst (S.ppl.map fun x=>V.int x.1)) flq);dsimp only;generalize upd H' lq (.lst (S.ppl.map fun x=>V.int x.1))=H2 at s2 ⊢;refine⟨_,rfl,d,_,rfl,DGet.k (k:=.inr "over") (s2 _ _ a1),lv,vts,rfl,#[x,s2 _ _ v1],_,_,rfl,rfl,?_⟩;walk_at "if";rw[hvl]
 let jv1:Nat->L2.St->Hp->Prop:=fun j σ H'=>(∃ v3 v4 v5 v6,σ=[some (.ref A'.p),some (.ref d),some (.int (atV S)),v3,v4,v5,v6])/\Same H2 H'
 refine#[ap,_,d,_,s2,_,s2,p1,Xr (K:=K) (a:=lp) (xs:=pts) jv1 ⟨⟨_,_,_,_,rfl⟩,Same.refl _⟩ (fun j σ H' _ ⟨_,z⟩=>SqL.of (z _ _ (s2 _ _ p1))) ?_ ?_]
 rotate_left
 ·rintro σ H3 ⟨_,s3⟩;exact h H3 (s2.trans s3)
 rintro j x σ H3 hx ⟨⟨v3,v4,v5,v6,rfl⟩,s3⟩;obtain⟨tp,pp,rfl,hpp,htp⟩:=Ni p2 hx;have hin:=zyb hpp;have hinn:pp.1∈S.ppl.map (·.1):=zya.mpr ⟨pp,hin,rfl⟩;have s13:=s2.trans s3;refine⟨tp,_,rfl,SqT.of (s13 _ _ htp),rfl,_,_,rfl,_,_,rfl,_,_,rfl,rfl,?_⟩;walk_at "if";refine Xl ?_;refine⟨_,rfl,A'.p,dx,_,rfl,s13 _ _ ob,Z6 ⋯,_,rfl,A',S,pp.1,rfl,SA.same s13,so.pok.small pp hin,fun z=>absurd hinn z,fun g c tt hg htt=>?_⟩;have epp:(pp.1,g,c)=pp:=Ak so.nd hg hin rfl;have e1:g=pp.2.1:=by rw[<- epp]
 have e2:c=pp.2.2:=by rw[<- epp]
 subst e1 e2;refine⟨_,rfl,_,rfl,sz2,fun t2 ft2=>?_⟩;refine⟨tt,t2,[.int pp.2.1,.int pp.2.2],rfl,Zk ft2 _ _ htt,SqT.of Ze,fun x hx=>?_,(show 2<=1000 by decide),true,rfl,#[S]⟩
 ·simp only[zx8,zy4,or_false] at hx;rcases hx with rfl|rfl<;>exact .inr ⟨_,rfl⟩
 have s4:=s3.trans (Zk (o:=.tup [.int pp.2.1,.int pp.2.2]) ft2);dsimp only;generalize upd H3 t2 (.tup [.int pp.2.1,.int pp.2.2])=H4 at s4 ⊢;have s24:=s2.trans s4;refine⟨_,rfl,_,_,rfl,rfl,_,_,rfl,_,rfl,d,_,rfl,DGet.k (k:=.inr "rounds") (s24 _ _ a1),_,rfl,_,_,rfl,rfl,_,_,rfl,_,_,rfl,rfl,?_⟩;generalize hlo:(if atV S-1>1 then atV S-1 else 1)=l0;generalize hhh:(if atV S+3<(P0.len:Int) then atV S+3 else (P0.len:Int))=hh;have hlo1:1<=l0/\l0<=100:=by rw[<- hlo];split<;>omega
 have hh1:hh<=S.len/\0<=hh:=by rw[<- hhh];have:=RB.len;split<;>omega
 let jv2:Nat->L2.St->Hp->Prop:=fun q σ Hq=>(∃ v,σ=[some (.ref A'.p),some (.ref d),some (.int (atV S)),some (.int pp.1),some (.int pp.2.1),some (.int pp.2.2),v])/\Same H4 Hq
 refine⟨_,_,rfl,⟨by omega,by omega,by omega,by omega⟩,Xa jv2 ⟨#[y,_],.refl _⟩ ?_ ?_⟩
 rotate_left
 ·rintro σ Hq ⟨⟨v,rfl⟩,sq⟩;exact⟨⟨_,_,_,_,rfl⟩,s4.trans sq⟩
 rintro q σ Hq hq ⟨⟨v,rfl⟩,sq⟩;have hday:l0+(q:Int)<=S.len:=by omega
 have s2q:=s24.trans sq;walk_at "if";refine⟨_,rfl,A'.p,dx,_,rfl,s2q _ _ ob,Z6 ⋯,_,rfl,_,rfl,A',S,l0+(q:Int),pp.1,rfl,SA.same s2q,Yi ⋯ ⋯,so.pok.small pp hin,?_⟩;rw[if_neg ⋯,if_pos hinn];intro H5 s5;refine⟨_,rfl,_,rfl,sz2,fun t3 ft3=>?_⟩;refine #[F,t3,ft3,fun H6 q6 SH6=>?_];have s6:=s5.trans SH6;have s26:=s2q.trans s6;exact⟨_,rfl,d,_,rfl,DGet.k (k:=.inr "out") (s26 _ _ a1),t3,lo,ots,_,_,P0.out,rfl,rfl,SqT.of q6,#[K,s26,o1],o2.same s26,_,(by rw[RB.out];rfl),true,rfl,iteF (Zx ⟨#[y,_],sq.trans s6⟩)⟩
abbrev U2:Stmt:=top 91
theorem X8:#[n,["_law_season","_law_page","_law_may","_law_met_here","_law_k","_law_person","_law_due"],["_law_season","_law_page","_law_may"],U2]:=fnS
theorem Km(F:#[g,"_law_shows_hand","_law_shows_hand",U2])(T:#[j])(zrx:Zz P w K mg base "_law_met" 1 ["_law_page"] (An K))(zpe:Zz P w K mg base "_law_list_is" 3 #[L] (Ob K))(zs3:Zq P w K mg base a.zov "may" 3 ["self","place"] #[e,zko])(zre:Zz P w K mg base "_law_bars" 1 ["_law_page","_law_met_here","_law_person","_law_match"] (Ea K))(zrq:Zz P w K mg base "_law_words_are" 1 #[L] (zee K))(zq9:Zq P w K mg base a.zov "reasons" 4 ["self","number","place"] #[e,Ie]):FnOk P w K mg base #[f] 5 f fd ["_law_season","_law_page","_law_may"] (Io K (ca a)):=by
 refine #[k,X8];obtain⟨mb,A',S,d,lw,P0,ls,sh,nu,n,rfl,SA,PA,RB,so,hn,hcur,hw,iw,h⟩:=h;have hu:=We hr;refine⟨_,(Zc (pS 3 X8.nd (pF zrx hr (Za (pv 1) Zb)))
 (Zc (Yp PassesOwn.leaving rfl (Yw rfl T.zpl (Za (Zm (cL K) (by rfl) T.zo5 PySem.boot_len (Za (pv 2) Zb)) Zb)) (pN 4 X8.nd)
  (Zc (Z2 (Yg (Yb (pF zpe hr (Za (Yj (pv 0) T.zow zs3 (hr.mono ⋯) Zi (Za (pv 4) Zb)) (Za (pI (iL K) (pv 2) (pv 4)) Zb)))))
   (Zd (Zl Yn))
   Zo)
  (Zd (Yp PassesOwn.leaving rfl (Z9 (K:=K) rfl (pD hu (pv 1) Zr)) (pN 5 X8.nd)
   (Zc (pS 6 X8.nd (pF zre hr (Za (pv 1) (Za (pv 3) (Za (pv 5) (Za (pI (iL K) (pD hu (pv 1) Zr) (pv 4)) Zb))))))
   (Zd (Z2 (Yg (Yb (pF zrq hr (Za (Yj (pv 0) T.zow zq9 (hr.mono ⋯) Zi (Za (pI (iU K) (pv 5) Zf) (Za (pv 4) Zb))) (Za (pv 6) Zb)))))
    (Zd (Zl Yn))
    Zo)))))))
 (Zd (Zl Yn)))),?_⟩
 obtain⟨lp,lo,lv,dv,li,lg,lm,a1,PB,okd⟩:=id PA.split;obtain⟨k1,k2,k3,k4,k5⟩:=so.cur sh hcur;have hlis:P0.lis=some sh.ms:=by rw[RB.lis,hcur];rfl
 obtain⟨ll,ts,rfl,b1,b2,b3⟩:∃ l ts,li=.ref l/\H l=#[r,ts]/\Z8 H ts (sh.ms.map pV)/\l∉A'.fp:=by have:=PB.li;rw[hlis] at this;exact this
 obtain⟨pts,p1,p2,p3⟩:=PB.pp;have htl:ts.length=sh.ms.length:=by rw[b2.length,zx1]
 have hml:sh.may.length=sh.ms.length:=by rw[k4];unfold mayS;rw[zx1]
 have hlsl:ls.length=sh.may.length:=iw.length;have hlen:=so.len;obtain⟨⟨dx,vv,ob,_⟩,_⟩:=id SA;refine⟨_,rfl,(·∉A'.fp),d,P0,rfl,PA,RB.ovok so,fun m kvs H1 hm mo s1 fm=>?_⟩;walk_at "if"
 let jv3:Nat->L2.St->Hp->Prop:=fun i σ H'=>(∃ v4 v5 v6,σ=[some (.ref A'.p),some (.ref d),some (.ref lw),some (.ref m),v4,v5,v6])/\Same H1 H'
 refine⟨_,rfl,lw,_,rfl,#[x,s1 _ _ hw],_,rfl,by omega,by rw[zx1];omega,Xa jv3 ⟨⟨_,_,_,rfl⟩,Same.refl _⟩ ?_ ?_⟩
 rotate_left
 ·rintro σ H2 ⟨_,s2⟩;exact h H2 (s1.trans s2)
 rintro i σ H2 hi ⟨⟨v4,v5,v6,rfl⟩,s2⟩;rw[zx1,zyh] at hi;rw[zy7];have s02:=s1.trans s2;have him:i<sh.may.length:=by omega
 have hri:sh.may[i]?=some (sh.may[i]'him):=zx2 him;generalize sh.may[i]'him=r at hri;obtain⟨tm,mm,e3,hmm,htm⟩:=Ni b2 (zx2 (show i<ts.length by omega));have htm1:ts[i]?=#[d,tm]:=by rw[zx2 (show i<ts.length by omega),e3]
 obtain⟨lr,hlr,hrl⟩:∃ lr,ls[i]?=some lr/\H lr=#[R,r.map,V.int]:=by
  have hli:ls[i]?=some (ls[i]'⋯):=zx2 ⋯;obtain⟨r',h1,h2⟩:=iw.getL hli;rw[hri] at h1;cases h1;exact⟨_,hli,h2⟩
 have hr100:r.length<=100:=by
  have:=zyb hri;rw[k4] at this;unfold mayS at this;obtain⟨m',_,rfl⟩:=zya.mp this;unfold Fq;rw[zx1];exact zyg (zyw _ _) (by have:=so.few;omega)
 walk_at "if";refine Xl ?_;refine⟨_,rfl,A'.p,dx,_,rfl,s02 _ _ ob,Z6 ⋯,_,rfl,A',S,(i:Int),rfl,SA.same s02,Yi ⋯ ⋯,(fun z=>by rw[hcur] at z;cases z),fun s hs=>?_⟩;rw[hcur] at hs;cases hs;refine⟨hml,fun z=>by omega,fun k r' hk hr' lq H3 hlq s3 _=>?_⟩;have ek:k=i:=by omega
 subst ek;rw[hri] at hr';cases hr';have s03:=s02.trans s3;have hli2:atI (ls.map V.ref) (k:Int)=#[b,V.ref,lr]:=Z4 (by rw[zx5,hlr];rfl);refine⟨_,rfl,_,rfl,lw,_,_,_,rfl,rfl,#[K,s03,hw],hli2,lq,lr,_,rfl,hlq,#[K,s03,hrl],fun x hx=>?_,by rw[zx1];omega,true,rfl,#[S]⟩
 ·obtain⟨y,_,rfl⟩:=zya.mp hx;exact .inr ⟨_,rfl⟩
 dsimp only;have s23:=s2.trans s3
 let jv4:Nat->L2.St->Hp->Prop:=fun j σ H'=>(∃ v5 v6,σ=[some (.ref A'.p),some (.ref d),some (.ref lw),some (.ref m),some (.int (k:Nat)),v5,v6])/\Same H3 H'
 refine#[ap,_,d,_,s03,_,s03,p1,Xr (K:=K) (a:=lp) (xs:=pts) jv4 ⟨⟨_,_,rfl⟩,Same.refl _⟩ (fun j σ H' _ ⟨_,z⟩=>SqL.of (z _ _ (s03 _ _ p1))) ?_ ?_]
 rotate_left
 ·rintro σ H4 ⟨⟨v5,v6,rfl⟩,s4⟩;exact⟨⟨_,_,_,rfl⟩,s23.trans s4⟩
 rintro j x σ H4 hx ⟨⟨v5,v6,rfl⟩,s4⟩;obtain⟨tp,pp,rfl,hpp,htp⟩:=Ni p2 hx;have s04:=s03.trans s4;have hin:pp∈S.ppl:=by rw[<- RB.ppl];exact zyb hpp
 have hinn:pp.1∈S.ppl.map (·.1):=zya.mpr ⟨pp,hin,rfl⟩;have hwp:=RB.why so pp mm;walk_at "if";refine⟨_,rfl,_,rfl,_,rfl,_,rfl,d,_,rfl,DGet.k (k:=.inr "listed") (s04 _ _ a1),_,rfl,ll,_,_,_,rfl,rfl,#[K,s04,b1],Z4 htm1,(·∉A'.fp),d,m,tp,tm,P0,kvs,pp,mm,rfl,PA.same s04,(s23.trans s4) _ _ hm,mo,s04 _ _ htp,s04 _ _ htm,fun lw2 H5 hlw2 s5 fw=>?_⟩;have s05:=s04.trans s5;walk_at "if";refine⟨_,rfl,A'.p,dx,_,rfl,s05 _ _ ob,Z6 ⋯,_,rfl,tp,_,_,_,rfl,rfl,SqT.of (s05 _ _ htp),show atI (pV pp) 0=some _ from rfl,_,rfl,A',S,pp.1,(k:Int),rfl,SA.same s05,so.pok.small pp hin,Yi ⋯ ⋯,so.lt (by rw[hcur];exact nofun),⋯,(fun z=>by rw[hcur] at z;cases z),fun s hs=>?_⟩;rw[hcur] at hs;cases hs;refine⟨fun z=>absurd hinn z,fun _=>⟨fun z=>by omega,fun k' m' g c hk' hmk hgc lz H6 hlz s6 flz=>?_⟩⟩;have ek:k'=k:=by omega
 subst ek;rw[hmm] at hmk;cases hmk;have epp:(pp.1,g,c)=pp:=Ak so.nd hgc hin rfl;have g1:g=pp.2.1:=by rw[<- epp]
 have g2:c=pp.2.2:=by rw[<- epp]
 subst g1 g2;rw[show ((pp.1,pp.2.1,pp.2.2):P3)=pp from rfl,<- hwp] at hlz;exact⟨_,rfl,lz,lw2,whyP P0 pp mm,rfl,hlz,#[K,s6,hlw2],zyg (zh0 _ _ _ _ _ _ _ _ _) ⋯,true,rfl,iteF (Zx ⟨⟨_,_,rfl⟩,s4.trans (s5.trans s6)⟩)⟩
abbrev Rw:Stmt:=top 94
theorem Sx:#[n,["_law_season","_law_hits"],["_law_season"],Rw]:=fnS
theorem Dm(F:#[g,"_law_nothing","_law_nothing",Rw])(T:#[j])(zpd:Zq P w K mg base a.zov "take_back" 2 ["self"] #[e,Qt]):FnOk P w K mg base #[f] 3 f fd ["_law_season"] (Bt K (ca a)):=by
 refine #[k,Sx];obtain⟨A',S,rfl,SA,hst,h⟩:=h;refine⟨_,(Zc (pS 1 Sx.nd Zf)
 (Zc (zlq (as:=[]) zfq T.zs7 rfl T.ztb
  (fun E1 lk1 pn1 EX1 hl1 hO hP =>
  (Zd (Z7 (Ye (pv 0) T.zow zpd (hr.mono ⋯) hP))))
  (fun a1 =>
  (Zd (pS 1 Sx.nd (Zu Yq (pv 1) Zf)))))
 (Zd (Zl (Vn Wd (pv 1) Zf (Zt _)))))),?_⟩
 obtain⟨⟨dx,vv,ob,_⟩,_⟩:=id SA;refine⟨_,rfl,A'.p,dx,_,rfl,ob,Z6 ⋯,A',S,rfl,SA,fun _=>⟨_,rfl,T.zpi,?_⟩,fun std d s e=>absurd (hst.symm.trans e) (by simp)⟩;refine⟨_,rfl,_,_,rfl,rfl,?_⟩;walk_at "if";exact⟨_,rfl,rfl,h⟩
theorem zmc{DD:Pq}{EE:XK}{σ:L2.St}{H:Hp}{A3:SAd}{S3:Sea}{q s p:Nat}{A1p d:Addr}{at_:Int}{sh:Z3}{mb:Bool}{nu:#[o]}{n:Nat}{ds:#[t]}{P:Pg}(hs:σ[s]?=some #[d,A1p])(hq:σ[q]?=some #[l,at_])(hp:σ[p]?=some #[d,d])(SA:Zy (ca a) H A3 S3)(eAp:A3.p=A1p)(hat:at_=atV S3)(hc:S3.cur=some sh)(F:Ml mb (·∉A3.fp) H nu n ds d P S3)(hn:n<=500)
  (k:∀ H1 kvs lx,Same H H1->H1 d=#[b,.dK,kvs]->Ml mb (·∉A3.fp) (upd H1 d (.dK (putK kvs (.inr "moves") (.ref lx)))) nu n ds d { P with mv:=sh.gaps } S3->DD.nx σ (upd H1 d (.dK (putK kvs (.inr "moves") (.ref lx))))) :
  zhd (Nh p) (tC (V.str "moves"))
   (zib (zdr K (Cw a.zov "chains" (Lo (ca a)) [] EE (Nh s) (Jy (Nh q) Iu)))
    ["_law_number","_law_steps"] [] (zk0 K 2 (zgy (Wu 0) (zgy (Wu 1) zmo)))
    tYes
    (zmy
     (Jy (Nh 0)
      (Jy
       (tCB
        (fun xs H Q =>
         ∃ p ys,
           xs=[V.ref p] /\
            (SqL K H p ys\/SqT K H p ys)/\∀ (l:Addr),H l=none->Q (V.ref l) (upd H l (HO.lst ys)))
        (Jy (Nh 1) Iu))
       Iu)))) DD σ H:=by
 subst hat;obtain⟨⟨dx,vv,ob,_⟩,_⟩:=id SA;rw[eAp] at ob;obtain⟨g1,g2⟩:=F.so.gp sh (.inl hc);refine⟨_,hs,A1p,dx,_,rfl,ob,Z6 ⋯,_,hq,A3,S3,atV S3,(by rw[eAp];rfl),SA,zi2 F.so hc ⟨by omega,fun lq ts H1 hlq gl s1 flq=>?_⟩⟩;have hln:=gl.length;refine⟨lq,rfl,⟨_,SqL.of hlq⟩,Me (K:=K) (a:=lq) (xs:=ts) (fun i ys H'=>Same H1 H'/\X5 (·∉A3.fp) H' ys (sh.gaps.take i)/\ys.length=i) ⟨.refl _,.nil,rfl⟩ (fun i ys H' _ z=>#[K,z.1,hlq]) (szN ⋯) (fun i ys H' z=>by rw[z.2.2];exact zyc _) ?_ ?_⟩
 ·rintro i x ys H' hx ⟨s',gl',hyl⟩;obtain⟨t,l,m,us,st,rfl,hgi,ht,hl,tl,_⟩:=gl.get hx;refine⟨t,_,rfl,SqT.of (s' _ _ ht),rfl,_,_,rfl,_,_,rfl,rfl,#[q,[#[l,m],#[d,l]],rfl],?_⟩;unfold tYes;dsimp only;rw[if_pos rfl];refine⟨_,rfl,_,rfl,l,_,rfl,#[x,s' _ _ hl],fun l' fl'=>⟨sz2,fun t' ft'=>?_⟩⟩;have s2:=(Zk (o:=.lst us) fl').trans (Zk (o:=.tup [.int m,.ref l']) ft');refine⟨s'.trans s2,?_,by rw[zx4,hyl];rfl⟩;rw[zzd,hgi];have q1:upd (upd H' l' (.lst us)) t' (.tup [.int m,.ref l']) l'=#[b,.lst,us]:=Zk (o:=.tup [.int m,.ref l']) ft' _ _ Ze;exact(gl'.keepL (.of s2)).snoc Ze q1 ((tl.same s').same s2) ((SA.same (s1.trans s')).newOk _ fl')
 ·rintro ys H' ⟨s',gl',hyl⟩ lx flx;rw[hln,zyi] at gl';have s2:=s1.trans (s'.trans (Zk (o:=.lst ys) flx));have q2:upd H' lx (.lst ys) lx=#[b,.lst,ys]:=Ze;obtain⟨kvs,b1,b2,Pz⟩:=(F.same s2).setMoves q2 (gl'.keepL (.of (Zk (o:=.lst ys) flx))) ((SA.same (s1.trans s')).newOk _ flx);exact⟨_,hp,d,_,rfl,DPut.k (k:=.inr "moves") b1 b2,k _ kvs lx s2 b1 Pz⟩
theorem zmd{EE:XK}{σ:L2.St}{H:Hp}{A:SAd}{S:Sea}{s p:Nat}{A1p l d:Addr}{ds:#[t]}{P0:Pg}{mb:Bool}{ok:Addr->Prop}{nu:#[o]}{n:Nat}{R:Bool->Hp->Prop}(hs:σ[s]?=some #[d,A1p])(hp:σ[p]?=some #[d,l])(SA:Zy (ca a) H A S)(eAp:A.p=A1p)(hl:H l=some (.lst ((ds++[d]).map V.ref)))(F:Full mb ok H nu n ds d P0 S)(hn:n<=500)(k:∀ H',Same H H'->R true H') :
  tB (zdw (Mm K) [] EE (Jy (Cw a.zov "deeds" (Am (ca a)) [] EE (Nh s) Iu) (Jy (zhr (zdr K (tSl (zlj K) (Nh p) (zkh (tC (V.int 1))) zd0)) [] tYes (zhb (Nh 0) (tC (V.str "deed")))) Iu))) σ H R:=by
 obtain⟨⟨dx,vv,ob,_⟩,_⟩:=id SA;rw[eAp] at ob;obtain⟨hbk1,hbk2⟩:=F.bk.deeds;rw[zx4] at hbk1;simp only[zyk,zz4] at hbk1;have hsn:=F.so.num.2;refine⟨_,hs,A1p,dx,_,rfl,ob,Z6 ⋯,A,S,(by rw[eAp];rfl),SA,by omega,fun lq tq H1 hlq tlq s1 _=>?_⟩;refine⟨_,hp,_,rfl,l,_,rfl,#[K,s1,hl],fun lc flc=>?_⟩;rw[zgl];have s2:=s1.trans (Zk (o:=.lst (((ds++[d]).map V.ref).drop 1)) flc);have q2:upd H1 lc (.lst (((ds++[d]).map V.ref).drop 1)) lc=some (.lst (((ds++[d]).map V.ref).drop 1)):=Ze;have t2:=Zk (o:=.lst (((ds++[d]).map V.ref).drop 1)) flc _ _ hlq
 replace tlq:=tlq.same (Zk (o:=.lst (((ds++[d]).map V.ref).drop 1)) flc)
 generalize upd H1 lc (.lst (((ds++[d]).map V.ref).drop 1))=H2 at s2 q2 t2 tlq ⊢;have hdl:(((ds++[d]).map V.ref).drop 1).length=S.std.length:=by
  rw[z0b,zx1,zx4];simp only[zyk,zz4];omega
 refine⟨lc,rfl,⟨_,SqL.of q2⟩,X0 (K:=K) (a:=lc) (xs:=((ds++[d]).map V.ref).drop 1) (fun i ys H'=>H'=H2/\Z8 H2 ys (((S.std.map (·.1)).take i).map W2)) ⟨rfl,.nil⟩ (fun i ys H' _ z=>by rw[z.1];exact SqL.of q2) (szN ⋯) (fun i ys H' z=>by rw[z.2.length,zx1];exact zzc _ _) ?_ ?_⟩
 ·rintro i x ys H' hx ⟨rfl,tl⟩;have hi:i<S.std.length:=by rw[<- hdl];exact(zx3.mp hx).1
  obtain⟨e,Pe,xd,e1,e2,e3,e4⟩:=hbk2 i hi;have ex:x=.ref e:=by
   rw[List.getElem?_drop,Nat.add_comm 1 i,zx5,e1] at hx;exact(Option.some.inj hx).symm
  subst ex;obtain⟨lpe,loe,lve,dve,lie,lge,lme,ae1,PBe,_⟩:=(e2.same s2).split;have dd:=PBe.dd;rw[e3] at dd;obtain⟨t,rfl,ht⟩:=dd;unfold tYes;dsimp only;rw[if_pos rfl];refine⟨_,rfl,e,_,rfl,DGet.k (k:=.inr "deed") ae1,rfl,?_⟩;rw[Xq e4,zx7];exact tl.snoc ht
 rintro ys H' ⟨rfl,tl⟩ lz flz;rw[hdl,show (S.std.map (·.1)).take S.std.length=S.std.map (·.1) from List.take_of_length_le (by rw[zx1];exact zyc _)] at tl;refine⟨lq,lz,tq,ys,S.std.map (·.1),rfl,Zk flz _ _ t2,Ze,?_,tl.same (Zk flz),by rw[zx1];omega,true,rfl,k _ (s2.trans (Zk flz))⟩;rw[zzi];exact tlq.same (Zk flz)
abbrev O4:Stmt:=top 93
theorem Vf:#[n,["_law_season","_law_pages","_law_back","_law_page","_law_over","_law_k","_law_may","_law_kept"],["_law_season","_law_pages","_law_back"],O4]:=fnS
theorem A9(F:#[g,"_law_shows","_law_shows",O4])(T:#[j])(zo7:Zz P w K mg base "_law_one_is" 2 #[L] Qk)(zox:Zq P w K mg base a.zov "at_hand" 2 ["self"] #[e,Vm])(zrp:Zz P w K mg base "_law_deeds_are" 4 #[L] (Mm K))(zr1:Zq P w K mg base a.zov "deeds" 1 ["self"] #[e,Am])(zqt:Zz P w K mg base "_law_shows_people" 4 ["_law_season","_law_page"] (Nt K (ca a)))(zrr:Zz P w K mg base "_law_facts_are" 5 ["_law_found","_law_page"] (Eh K))(zsb:Zq P w K mg base a.zov "facts" 3 ["self"] #[e,Bs])(zqj:Zz P w K mg base "_law_shows_round" 6 ["_law_season","_law_at_here","_law_kept","_law_people_here"] (Lu K (ca a)))(zq4:Zz P w K mg base "_law_open" 2 ["_law_page"] (zdd K))(zrg:Zz P w K mg base "_law_shows_hand" 5 ["_law_season","_law_page","_law_may"] (Io K (ca a))):FnOk P w K mg base #[f] 7 f fd ["_law_season","_law_pages","_law_back"] (Ej K (ca a)):=by
 refine #[k,Vf];obtain⟨A',S,l,d,ds,P0,nu,n,back,rfl,SA,hl,F,OO,hn,hb,h⟩:=h;have hu:=We hr;refine⟨_,(Zc (pS 3 Vf.nd (pI (iL K) (pv 1) (Pa U8 Zf)))
 (Zc (pS 4 Vf.nd (pD hu (pv 3) Zr))
 (Zc (Z2 (Yg (Yb (pF zo7 hr (Za (Ye (pv 0) T.zow zox (hr.mono ⋯) Zi) (Za (Zu Yq (Zm (cL K) (by rfl) T.zo5 PySem.boot_len (Za (pv 4) Zb)) Zf) Zb)))))
  (Zd (Zl Yn))
  Zo)
 (Zc (Z2 (Yg (Yb (pF zrp hr (Za (Ye (pv 0) T.zow zr1 (hr.mono ⋯) Zi) (Za (Ww rfl (cT [] []) (Z9 (K:=K) rfl (M9 (Le (K:=K) rfl) (pv 1) (Gv Zf) Gu)) (fun _ _ _ _ _=>Wn) (fun _ _ _ _ _=>(pD hu (pv 0) Zr))) Zb)))))
  (Zd (Zl Yn))
  Zo)
 (Zc (Z2 (PW.pt (X3 (Yg (Yb (pF zqt hr (Za (pv 0) (Za (pv 3) Zb))))) (Xh (Yg (Yb (pF zrr hr (Za (Ye (pv 0) T.zow zsb (hr.mono ⋯) Zi) (Za (pv 3) Zb))))))))
  (Zd (Zl Yn))
  Zo)
 (Zc (Yp PassesOwn.leaving rfl (O6 rfl T.zpl (Za (Zm (O7 rfl) (by rfl) T.zuk PyProof.Rows.boot_max (Za Zf (Za (Zu Rf (Zm (cL K) (by rfl) T.zo5 PySem.boot_len (Za (pv 4) Zb)) (pv 2)) Zb))) (Za (Zm (cL K) (by rfl) T.zo5 PySem.boot_len (Za (pv 4) Zb)) Zb))) (pN 5 Vf.nd)
  (Zd (Z2 (Yg (Yb (pF zqj hr (Za (pv 0) (Za (Zu Yq (pv 5) Zf) (Za (pI (iL K) (pv 4) (pv 5)) (Za (pD hu (pv 3) Zr) Zb)))))))
   (Zd (Zl Yn))
   Zo)))
 (Zc (Z2 (Zp P8 (pD hu (pv 3) Zr) Y3 (Zt _))
  (Zd (Zl Yn))
  Zo)
 (Zc (pS 6 Vf.nd (pF zq4 hr (Za (pv 3) Zb)))
 (Zc (pS 7 Vf.nd (Yc (Za (pD hu (pv 3) Zr) (Za (pD hu (pv 3) Zr) (Za (pD hu (pv 3) Zr) (Za (pv 6) Zb))))))
 (Zd (Zl (P5 (pF zrg hr (Za (pv 0) (Za (pv 3) (Za (pv 6) Zb)))) (P4 (pF zqj hr (Za (pv 0) (Za (Zu Yq (Zm (cL K) (by rfl) T.zo5 PySem.boot_len (Za (pv 4) Zb)) Zf) (Za (pv 7) (Za (pD hu (pv 3) Zr) Zb)))))))))))))))))),?_⟩
 show let y1:TS:=_;let y2:TS:=Z0 _ y1;let y3:TS:=Z0 _ y2;let y4:TS:=Z0 _ y3;let y5:TS:=Z0 _ y4;let y6:TS:=Z0 _ y5;let y7:TS:=Z0 _ y6;let y8:TS:=Z0 _ y7;let y9:TS:=Z0 _ y8;Z0 _ y9 _ _ _;intro y1 y2 y3 y4 y5 y6 y7 y8 y9;obtain⟨lp,lo,lv,dv,li,lg,lm,a1,PB,okd⟩:=id F.pg.split;obtain⟨vts,u1,u2,u3⟩:=PB.vv;obtain⟨pts,p1,p2,p3⟩:=PB.pp;obtain⟨gg1,gg2⟩:=PB.gg;obtain⟨mts,mm1,mm2,mm3⟩:=PB.mm;have hls:=PB.li.some;have hat:atI ((ds++[d]).map V.ref) (-1)=#[b,V.ref,d]:=by rw[zx7];exact L2.atI_last _ _
 have RB:=F.re.b;have so:=F.so;have eov:=RB.overT;have hol:=so.olen;have hlen:=so.len;have hvl:(vts.length:Int)+1=atV S:=by rw[u2.length];exact RB.at so
 have hvn:vts.length=S.old.length:=by rw[u2.length,eov]
 obtain⟨⟨dx,vv,ob,_⟩,_⟩:=id SA;rw[RB.ppl] at p2;refine⟨_,rfl,_,rfl,l,_,_,_,rfl,rfl,SqL.of hl,hat,?_⟩;walk_at "if";refine⟨_,rfl,d,_,rfl,DGet.k (k:=.inr "over") a1,?_⟩;walk_at "if";refine Xl ?_;refine⟨_,rfl,A'.p,dx,_,rfl,ob,Z6 ⋯,A',S,rfl,SA,?_⟩;refine⟨_,rfl,lv,vts,rfl,#[x,u1],_,_,rfl,rfl,?_⟩;dsimp only;rw[hvl];refine⟨_,rfl,.inr ⟨_,rfl⟩,true,rfl,#[S]⟩;dsimp only;refine Xl ?_;refine zmd rfl rfl SA rfl hl F hn fun H3 s3=>#[S];dsimp only;refine Xl ?_;refine⟨_,rfl,_,rfl,(·∉A'.fp),true,A',S,d,P0,nu,n,rfl,SA.same s3,F.pg.same s3,RB,so,hn,fun H4 s4=>#[q,true,iteF ?_]⟩;have s04:=s3.trans s4;refine⟨_,rfl,A'.p,dx,_,rfl,s04 _ _ ob,Z6 ⋯,A',S,rfl,SA.same s04,by omega,fun lf lfs H5 hlf rlf s5 _ _=>?_⟩;have s05:=s04.trans s5;refine⟨_,rfl,(·∉A'.fp),lf,d,lfs,P0,rfl,hlf,F.pg.same s05,RB.ovok so,(by rw[RB.rows,<- so.led];exact rlf),fun H6 s6=>#[q,true,#[S]]⟩;have s06:=s05.trans s6;dsimp only;clear s3 s4 s5 s6 s04 s05 hlf rlf;refine⟨_,rfl,lv,vts,rfl,#[x,s06 _ _ u1],_,rfl,_,_,rfl,rfl,_,_,rfl,_,rfl,lv,vts,rfl,#[x,s06 _ _ u1],?_⟩;generalize hlo:(if (vts.length:Int)-(back:Int)>0 then (vts.length:Int)-(back:Int) else 0)=l0;obtain⟨ln,rfl⟩:∃ k:Nat,l0=k:=⟨l0.toNat,by rw[<- hlo];split<;>omega⟩;have hl1:(ln:Int)<=vts.length:=by rw[<- hlo];split<;>omega
 let jv1:Nat->L2.St->Hp->Prop:=fun q σ Hq=>(∃ v,σ=[some (.ref A'.p),some (.ref l),some (.int (back:Nat)),some (.ref d),some (.ref lv),v,none,none])/\Same H6 Hq
 refine⟨_,_,rfl,⟨by omega,by omega,by omega,by omega⟩,Xa jv1 ⟨#[y,_],.refl _⟩ ?_ ?_⟩
 ·rintro q σ Hq hq ⟨⟨v,rfl⟩,sq⟩;have hj:ln+q<S.old.length:=by omega
  have eq1:(ln:Int)+(q:Int)=((ln+q:Nat):Int):=(Int.natCast_add ..).symm;rw[eq1];generalize ln+q=j at hj;have hsj:S.old[j]?=some (S.old[j]'hj):=zx2 hj;generalize S.old[j]'hj=sh at hsj;obtain⟨tj,lj,gj,mj,yj,tsj,mtsj,lsj,c1,c2,c3,c4,c5,c6,c7,c8,c9⟩:=u2.all (by rw[eov];exact hsj);have sy:=s06.trans sq;walk_at "if";refine⟨_,rfl,_,rfl,_,_,rfl,rfl,_,rfl,_,rfl,lv,_,_,_,rfl,rfl,#[K,sy,u1],Z4 c1,_,rfl,d,_,rfl,DGet.k (k:=.inr "people") (sy _ _ a1),?_⟩;exact⟨(·∉A'.fp),A',S,(j:Int)+1,tj,lp,lj,gj,mj,yj,tsj,mtsj,pts,lsj,sh,rfl,SA.same sy,⟨Yi ⋯ ⋯,hol,by omega,by omega⟩,zgk hol hsj,sy _ _ c2,sy _ _ c3,c4.same sy,sy _ _ c5,sy _ _ c6,c7.keepL (.of sy),sy _ _ c8,c9.same sy,sy _ _ p1,p2.same sy,so.pok,(OO sh (zyb hsj)).mono ⋯,fun Hw sw=>#[q,true,iteF (Zx ⟨#[y,_],sq.trans sw⟩)]⟩
 rintro σ H7 ⟨⟨v,rfl⟩,s7⟩;have s07:=s06.trans s7;clear s06 s7;refine Xl ?_;refine⟨_,rfl,d,_,rfl,DGet.k (k:=.inr "listed") (s07 _ _ a1),rfl,_,rfl,?_⟩;have hli:#[i,li=V.non]=!P0.lis.isSome:=by rw[<- hls,Bool.not_not]
 rw[hli];cases hc:S.cur with
 | none =>
   have hno:P0.lis.isSome=false:=by rw[RB.lis,hc];rfl
   rw[hno];exact iteT (h H7 s07)
 | some sh =>
 have hyes:P0.lis.isSome=true:=by rw[RB.lis,hc];rfl
 have hlis:P0.lis=some sh.ms:=by rw[RB.lis,hc];rfl
 obtain⟨ll,ts,rfl,b1,b2,b3⟩:∃ l ts,li=.ref l/\H l=#[r,ts]/\Z8 H ts (sh.ms.map pV)/\l∉A'.fp:=by have:=PB.li;rw[hlis] at this;exact this
 rw[hyes];refine #[S];dsimp only;obtain⟨k1,k2,k3,k4,k5⟩:=so.cur sh hc;have hml:sh.may.length=sh.ms.length:=by rw[k4];unfold mayS;rw[zx1]
 have hgv:=F.re.gv sh hc;have hmv:=F.re.mv rfl;rw[Mj hc] at hmv;have hlt3:=so.lt (by rw[hc];exact nofun);refine⟨_,rfl,(·∉A'.fp),d,P0,sh.ms,rfl,F.pg.same s07,RB.ovok so,hlis,by omega,(by rw[RB.ppl];have:=so.few;omega),fun lw ls H8 hlw ilw s8 flw _=>?_⟩;rw[RB.may so,<- k4] at ilw;have s08:=s07.trans s8;walk_at "if";refine⟨_,rfl,d,_,rfl,DGet.k (k:=.inr "listed") (s08 _ _ a1),_,rfl,d,_,rfl,DGet.k (k:=.inr "goes") (s08 _ _ a1),_,rfl,d,_,rfl,DGet.k (k:=.inr "moves") (s08 _ _ a1),_,rfl,(by show 4<=sizeLine;rw[sizeLine_eq];decide),fun tk ftk=>?_⟩;have s9':=Zk (o:=.tup [.ref ll,.ref lg,.ref lm,.ref lw]) ftk;have s9:=s08.trans s9';have q9:upd H8 tk (.tup [.ref ll,.ref lg,.ref lm,.ref lw]) tk=#[b,.tup,[.ref ll,.ref lg,.ref lm,.ref lw]]:=Ze;have w9:=s9' _ _ hlw
 replace ilw:=ilw.same s9'
 walk_at "if";generalize upd H8 tk (.tup [.ref ll,.ref lg,.ref lm,.ref lw])=H9 at s9 q9 w9 ilw ⊢;clear s9';refine⟨_,rfl,_,rfl,_,rfl,true,A',S,d,lw,P0,ls,sh,nu,n,rfl,SA.same s9,F.pg.same s9,RB,so,hn,hc,w9,ilw,fun H10 s10=>#[q,true,iteT ?_]⟩;have s0:=s9.trans s10;refine⟨_,rfl,_,rfl,lv,vts,rfl,#[x,s0 _ _ u1],_,_,rfl,rfl,_,rfl,_,rfl,d,_,rfl,DGet.k (k:=.inr "people") (s0 _ _ a1),?_⟩;exact⟨(·∉A'.fp),A',S,atV S,tk,lp,ll,lg,lm,lw,ts,mts,pts,ls,sh,(by rw[<- hvl];rfl),SA.same s0,⟨Yi (by unfold atV;omega) (by unfold atV;omega),hol,by unfold atV;omega,by unfold atV;omega⟩,(by rw[Br];exact hc),s10 _ _ q9,s0 _ _ b1,b2.same s0,(by rw[<- hgv];exact s0 _ _ gg1),s0 _ _ mm1,(by rw[<- hmv];exact mm2.keepL (.of s0)),s10 _ _ w9,ilw.same s10,s0 _ _ p1,p2.same s0,so.pok,(so.shOk hc).mono ⋯,fun H11 s11=>h H11 (s0.trans s11)⟩
abbrev Bu:Stmt:=top 95
theorem Uj:#[n,["_law_script","_law_mixed","_law_season","_law_pool_here","_law_pages","_law_k","_law_deed_here","_law_due","_law_told","_law_page","_law_at_here"],["_law_script"],Bu]:=fnS
theorem zme(F:#[g,"law","law",Bu])(T:#[j])(zpf:Zz P w K mg base "_law_at" 1 ["_law_script","_law_k"] (zcx K))(zui:Tz P w K mg base "Season" a.zov 3 ["self","rounds","rest"] #[e,zet])(zsz:Zz P w K mg base "_law_rest" 2 ["_law_script"] (zbl K))(zrt:Zz P w K mg base "_law_rounds" 2 ["_law_script"] (Fx K))(ztu:Zz P w K mg base "_law_pool" 2 ["_law_script","_law_crowd"] (zbn K))(zs8:Zz P w K mg base "_law_first" 1 ["_law_rounds_here","_law_rest_here"] zez)(zr9:Zz P w K mg base "_law_enrolled" 9 ["_law_season","_law_pages","_law_deeds"] (Ed K (ca a)))(zs4:Zz P w K mg base "_law_people" 2 ["_law_script","_law_pool_here"] (Ec K))(ztt:Zz P w K mg base "_law_deed" 3 ["_law_pages","_law_cell_here","_law_pool_here","_law_most","_law_mixed"] (zby K))(zts:Zz P w K mg base "_law_cell" 2 ["_law_script","_law_k"] (zbm K))(zss:Zz P w K mg base "_law_do" 8 ["_law_season","_law_deed_here"] (zl7 K (ca a)))(zqv:Zz P w K mg base "_law_paged" 3 ["_law_pages","_law_deed_here"] (Ap K))(zp6:Zz P w K mg base "_law_deed_is" 3 #[L] Ei)(zqh:Zq P w K mg base a.zov "goes" 4 ["self","at"] #[e,zc7])(zp2:Zq P w K mg base a.zov "chains" 4 ["self","at"] #[e,Lo])(zri:Zz P w K mg base "_law_shows" 7 ["_law_season","_law_pages","_law_back"] (Ej K (ca a)))(zpd:Zq P w K mg base a.zov "take_back" 2 ["self"] #[e,Qt])(zsg:Zz P w K mg base "_law_nothing" 3 ["_law_season"] (Bt K (ca a))):FnOk P w K mg base #[f] 10 f fd ["_law_script"] (zeb K):=by
 refine #[k,Uj];obtain⟨b,ns,rfl,hS,hlen,h⟩:=h;have hu:=We hr;refine⟨_,(Zc (pS 1 Uj.nd (Zu Yy (pF zpf hr (Za (pv 0) (Za Zf Zb))) Zf))
 (Zc (pS 2 Uj.nd (B3 zui (hr.mono ⋯) Zi rfl (Za (pF zrt hr (Za (pv 0) Zb)) (Za (pF zsz hr (Za (pv 0) Zb)) Zb))))
 (Zc (pS 3 Uj.nd (pF ztu hr (Za (pv 0) (Za Zf Zb))))
 (Zc (pS 4 Uj.nd (Yd (Za (pF zs8 hr (Za (pF zrt hr (Za (pv 0) Zb)) (Za (pF zsz hr (Za (pv 0) Zb)) Zb))) Zb)))
 (Zc (pS 4 Uj.nd (pF zr9 hr (Za (pv 2) (Za (pv 4) (Za (pF zs4 hr (Za (pv 0) (Za (pv 3) Zb))) Zb)))))
 (Zc (Yp PassesOwn.leaving rfl (O6 rfl T.zpl (Za Zf (Za (Zm (Ko rfl) (by rfl) T.zu1 PyProof.Rows.boot_min (Za Zf (Za (Zm (cL K) (by rfl) T.zo5 PySem.boot_len (Za (pv 0) Zb)) Zb))) Zb))) (pN 5 Uj.nd)
  (Zc (Z2 (Zp Wd (Zm (cL K) (by rfl) T.zo5 PySem.boot_len (Za (pD hu (pI (iL K) (pv 4) (Pa U8 Zf)) Zr) Zb)) (pD hu (pI (iL K) (pv 4) (Pa U8 Zf)) Zr) (Zt _))
   (Zd zgx)
   Zo)
  (Zc (pS 6 Uj.nd (pF ztt hr (Za (pv 4) (Za (pF zts hr (Za (pv 0) (Za (pv 5) Zb))) (Za (pv 3) (Za Zf (Za (pv 1) Zb)))))))
  (Zc (pS 7 Uj.nd (pD hu (pI (iL K) (pv 4) (Pa U8 Zf)) Zr))
  (Zc (pS 8 Uj.nd (pF zss hr (Za (pv 2) (Za (pv 6) Zb))))
  (Zc (pS 4 Uj.nd (pF zqv hr (Za (pv 4) (Za (pv 6) Zb))))
  (Zc (pS 9 Uj.nd (pI (iL K) (pv 4) (Pa U8 Zf)))
  (Zc (pS 10 Uj.nd (Zu Yq (Zm (cL K) (by rfl) T.zo5 PySem.boot_len (Za (pD hu (pv 9) Zr) Zb)) Zf))
  (Zc (Z2 (PW.pt (Ny (Zp Wd (pI (iU K) (pv 6) Zf) Zr (Zt _)) (Qg (Yg (Yb (pF zp6 hr (Za (pv 8) (Za (pv 7) Zb))))))))
   (Zd (Zl Yn))
   Zo)
  (Zc (Z2 (PW.pt (Ny (Zp Pb (pI (iU K) (pv 6) Zf) Zr (Zt _)) (Qg (Zp Tj (pD hu (pv 9) Zr) Y3 (Zt _)))))
   (Zc (Yu hu (pv 9) Zr (Xp (Y0 (K:=K) rfl) (by rfl) T.zp9 PyProof.Rows.boot_list (Za (Yj (pv 2) T.zow zqh (hr.mono ⋯) Zi (Za (pv 10) Zb)) Zb)) rfl)
   (Zd (Yu hu (pv 9) Zr (Of rfl (Oe.mk (xo:=["_law_number","_law_steps"]) (ys:=[]) (js:=[]) rfl rfl ⋯ ⋯ rfl (by repeat' (first|exact True.intro|apply And.intro|rfl)) (by repeat' (first|exact True.intro|apply And.intro|rfl)) ⋯) (Z9 (K:=K) rfl (Yj (pv 2) T.zow zp2 (hr.mono ⋯) Zi (Za (pv 10) Zb))) (fun _ _ _ _ _=>Wn) (fun _ _ _ _ _=>(Xu (K:=K) (n:=2) rfl rfl #[ar,Zv,Vc,(show List.Nodup [("_law_number":Str),("_law_steps":Str)] by decide +kernel),Zv,Vc,(show List.Nodup [("_law_number":Str),("_law_steps":Str)] by decide +kernel),Xt])) (fun _ _ _ _ _=>(Yc (Za (pv 0) (Za (Xp (Y0 (K:=K) rfl) (by rfl) T.zp9 PyProof.Rows.boot_list (Za (pv 1) Zb)) Zb))))) rfl)))
   Zo)
  (Zd (Z2 (Yg (Yb (pF zri hr (Za (pv 2) (Za (pv 4) (Za Zf Zb))))))
   (Zd (Zl Yn))
   Zo))))))))))))
 (Zc (G2 PassesOwn.leaving (Zp Tu (Zm (cL K) (by rfl) T.zo5 PySem.boot_len (Za (pv 4) Zb)) Zf (Zt _))
  (Zc (Z2 (Yg (Yb (pF zp6 hr (Za (Ye (pv 2) T.zow zpd (hr.mono ⋯) Zi) (Za (pD hu (pI (iL K) (pv 4) (Pa U8 Zf)) Zr) Zb)))))
   (Zd (Zl Yn))
   Zo)
  (Zc (pS 4 Uj.nd (M9 (Le (K:=K) rfl) (pv 4) Gu (Gv (Pa U8 Zf))))
  (Zd (Z2 (Yg (Yb (pF zri hr (Za (pv 2) (Za (pv 4) (Za Zf Zb))))))
   (Zd (Zl Yn))
   Zo)))))
 (Zd (Zl (P5 (pF zsg hr (Za (pv 2) Zb)) (P4 (pF zri hr (Za (pv 2) (Za (pv 4) (Za Zf Zb))))))))))))))),?_⟩
 show let y1:TS:=_;let y2:TS:=Z0 _ y1;let y3:TS:=Z0 _ y2;let y4:TS:=Z0 _ y3;let y5:TS:=Z0 _ y4;let y6:TS:=Z0 _ y5;let y7:TS:=Z0 _ y6;let y8:TS:=Z0 _ y7;let y9:TS:=Z0 _ y8;let y10:TS:=_;let y11:TS:=Z0 _ y10;let y12:TS:=_;let y13:TS:=Z0 (zcd _ (Z0 _ y11)) y12;let y14:TS:=Z0 (ze8 _ _ (Z0 _ y9)) y13;let y15:TS:=Z0 _ y14;let y16:TS:=Z0 _ y15;let y17:TS:=Z0 _ y16;let y18:TS:=Z0 _ y17;Z0 _ y18 _ _ _;intro y1 y2 y3 y4 y5 y6 y7 y8 y9 y10 y11 y12 y13 y14 y15 y16 y17 y18;refine⟨_,rfl,b,ns,0,rfl,hS,_,_,rfl,rfl,(show (0:Int)<2 by decide),?_⟩;obtain⟨mx,hmx,hmx1⟩:∃ mx:Nat,Xm ns 0%2=(mx:Int)/\mx<=1:=⟨(Xm ns 0%2).toNat,by omega,by omega⟩;walk_at "if";rw[hmx];refine⟨_,rfl,b,ns,rfl,hS,fun rr H1 hrr hr1 hr60 s1=>?_⟩;refine⟨_,rfl,b,ns,rfl,s1.seq hS,fun rq H2 hrq hq10 s2=>?_⟩;have s12:=s1.trans s2;have hS2:=s12.seq hS;intro p0 dx0 hp0 hdx0 ne0;refine⟨p0,dx0,rr,rq,rfl,Ze,Yi ⋯ ⋯,Yi ⋯ ⋯,?_⟩;rw[if_neg ⋯,if_neg ⋯];intro A1 H4 hAp SA4 k4 f4;rw[zyh,zyh] at SA4;have s4:Same H2 H4:=fun x o e=>k4 x o (by rw[Zj (Zh e hp0),Zj (Zh e hdx0)];exact e) (Zh e hp0);have ff:∀ x∈A1.fp,H2 x=none:=fun x hx=>by
  by_cases z:x=p0
  ·rw[z];exact hp0
  ·have:=f4 x hx z;rw[Zj z] at this;by_cases w:x=dx0
   ·rw[w];exact hdx0
   ·rw[Zj w] at this;exact this
 have SC4:S9 K A1 H4 b (ns.map V.int):=.make hS2 A1 H4 s4 ff;clear f4 k4;subst hAp;refine⟨rfl,?_⟩;walk_at "if";refine⟨_,rfl,b,ns,7,rfl,SC4.sq,by decide,by decide,fun t lc ln cs nu H6 PL hnu s6 ft flc fln=>?_⟩;have SA6:=SA4.same s6;have SC6:=SC4.fr (.of s6);have no5:=SA4.newOk;have PO6:Ls A1 H6 t lc ln cs nu:=⟨PL,no5 _ ft,no5 _ flc,no5 _ fln⟩;walk_at "if";refine⟨_,rfl,b,ns,rfl,SC6.sq,fun rr' H7 hrr' _ _ s7=>?_⟩;have SC7:=SC6.fr (.of s7);refine⟨_,rfl,b,ns,rfl,SC7.sq,fun rq' H8 hrq' _ s8=>?_⟩;cases (hrr'.trans hrr.symm);cases (hrq'.trans hrq.symm);refine⟨rr,rq,rfl,fun d9 H9 pg9 s9 fd9=>⟨(by show 1<=sizeLine;rw[sizeLine_eq];decide),fun l10 fl10=>?_⟩⟩;have SC9:=((SC7.fr (.of s8)).fr (.of s9));have SA9:=((SA6.same s7).same s8).same s9;have PO9:=((PO6.fr (.of s7)).fr (.of s8)).fr (.of s9);have no8:=((SA6.same s7).same s8).newOk;have F9:=zdi (mb:=true) (nu:=nu) (n:=0) (pg9.imp (ok':=(·∉A1.fp)) fun x _ hx=>no8 x hx) hr60 hq10;have s10:=Zk (o:=.lst [.ref d9]) fl10;have q10:=Ze (H:=H9) (a:=l10) (o:=.lst [.ref d9]);have o10:=SA9.newOk _ fl10;walk_at "if";generalize upd H9 l10 (.lst [.ref d9])=H10 at s10 q10 ⊢;have SA10:=SA9.same s10;have SC10:=SC9.fr (.of s10);have PO10:=PO9.fr (.of s10);have F10:=F9.same s10;show Z0 _ _ _ [#[d,b],#[l,mx],#[d,A1.p],#[d,t],#[d,l10],none,none,none,none,none,none] H10;clear SA9 SC9 PO9 F9 SA6 SC6 PO6 PL SC7 SC4 SA4 no5 no8 pg9 hS hS2 s12;have nfew:=PO10.at_.nfew;refine⟨_,rfl,_,rfl,_,rfl,_,rfl,b,t,lc,ln,ns,cs,nu,rfl,SC10.sq,PO10.at_,fun le ts es H11 hle tl en el eok s11 fle=>?_⟩;have SA11:=SA10.same s11;have nd11:(es.map (·.1)).Nodup:=by rw[en];exact PO10.at_.nnd.sublist (List.take_sublist _ _)
 refine⟨true,A1,l10,le,ts,es,[],d9,_,_,nu,0,rfl,SA11,s11 _ _ q10,o10,F10.same s11,hle,SA10.newOk _ fle,tl,nd11,fun x hx=>?_,(by show 0+es.length<=30;omega),by omega,rfl,(by show 0<rr;omega),fun A2 l2 ds2 d2 P2 S2 H12 SA12 hl12 ho12 F12 f12 hc12 he12 hn12=>?_⟩
 ·obtain⟨x1,x2,x3⟩:=eok x hx;have hxn:x.1∈nu:=by
   have:x.1∈es.map (·.1):=zya.mpr ⟨x,hx,rfl⟩;rw[en] at this;exact zzx this
  refine⟨hxn,?_,nofun⟩;have:=PO10.at_.nrng _ hxn;have:=PO10.at_.crng _ x3;unfold badI;omega
 have SC12:=(SC10.fr (.of s11)).fr f12;have PO12:=(PO10.fr (.of s11)).fr f12;have hAp:=f12.p;have OO12:Oj 30 S2:=fun s hs=>by
  have h1:=F12.so.olen;rw[he12] at h1;have:S2.old=[]:=zze.mp h1;rw[this] at hs;cases hs
 walk_at "if";refine⟨_,rfl,b,_,rfl,.inl SC12.sq,?_⟩;rw[zx1];refine⟨_,_,rfl,6,_,rfl,⟨by omega,by omega,by split<;>omega,by split<;>omega⟩,?_⟩;obtain⟨N0,hN0,hN1⟩:∃ N0:Nat,((if (ns.length:Int)<63 then (ns.length:Int) else 63)-6).toNat=N0/\∀ i:Nat,i<N0->6+i<ns.length:=#[q,_,fun i hi=>by split at hi<;>omega];have hN57:N0<=57:=by rw[<- hN0];split<;>omega
 rw[hN0]
 let jv1:Nat->L2.St->Hp->Prop:=fun i σ H'=>∃ A2 l2 ds2 d2 P2 S2 v6 v7 v8 v9 v10 v11,σ=[#[d,b],#[l,mx],#[d,A1.p],#[d,t],#[d,l2],v6,v7,v8,v9,v10,v11]/\Zy (ca a) H' A2 S2/\H' l2=#[R,(ds2++[d2]).map,V.ref]/\l2∉A2.fp/\Full true (·∉A2.fp) H' nu (30+i) ds2 d2 P2 S2/\S9 K A2 H' b (ns.map V.int)/\Ls A2 H' t lc ln cs nu/\A2.p=A1.p/\Oj (30+i) S2/\i<=N0
 refine Av jv1
  ⟨A2,l2,ds2,d2,P2,S2,_,_,_,_,_,_,rfl,SA12,hl12,ho12,⟨F12.pg,F12.re,F12.so.mono ⋯,?_⟩,SC12,PO12,hAp,OO12,zyv _⟩ ?_ ?_
 ·obtain⟨nd,e|⟨S0,bb,rr'⟩⟩:=F12.tl
  ·exact⟨nd,.inl e⟩
  ·exact⟨nd,.inr ⟨S0,bb.mono ⋯,rr'⟩⟩
 ·rintro N hN i σ H1 hi ⟨A2,l2,ds2,d2,P2,S2,v6,v7,v8,v9,v10,v11,rfl,SA,hl2,ho2,F,SC,PO,eAp,OO,hiN⟩;have hki:=hN1 i hi;have e6:(6:Int)+(i:Int)=((6+i:Nat):Int):=by omega
  rw[e6];walk_at "if";obtain⟨lp,lo,lv,dv,li,lg,lm,a1,PB,okd⟩:=id F.pg.split;have hat:atI ((ds2++[d2]).map V.ref) (-1)=#[b,V.ref,d2]:=by rw[zx7];exact L2.atI_last _ _
  obtain⟨vts,u1,u2,u3⟩:=PB.vv;have hvl:(vts.length:Int)=(P2.over.length:Int):=by rw[u2.length]
  refine Xl (W0 (b:=decide (V.int (P2.over.length:Int)=V.int (P2.len:Int))) (fun Q q=>⟨_,rfl,_,rfl,l2,_,_,_,rfl,rfl,SqL.of hl2,hat,d2,_,rfl,DGet.k (k:=.inr "over") a1,lv,vts,rfl,#[x,u1],_,rfl,_,rfl,l2,_,_,_,rfl,rfl,SqL.of hl2,hat,d2,_,rfl,DGet.k (k:=.inr "rounds") a1,rfl,_,rfl,by rw[hvl];exact q⟩) (itB (fun _=>hN i _ _ ⟨A2,l2,ds2,d2,P2,S2,_,_,_,_,_,_,rfl,SA,hl2,ho2,F,SC,PO,eAp,OO,hiN⟩) fun hb=>Zx ?_));have hlt:P2.over.length<P2.len:=by
   have h1:=F.re.b.olen;have h2:=F.so.olen;have h3:=F.so.len;have h4:=F.re.b.len;have h5:=of_decide_eq_false hb;have h6:P2.over.length≠P2.len:=fun z=>h5 (by rw[z]);omega
  dsimp only;refine⟨_,rfl,_,rfl,_,rfl,b,ns,6+i,rfl,SC.sq,hki,fun cell H2 s2=>?_⟩;have s3:=s2;refine⟨_,rfl,_,rfl,(·∉A2.fp),l2,t,lc,ln,ds2,d2,P2,cell,cs,nu,5,mx,rfl,s3 _ _ hl2,F.pg.same s3,PO.at_.same s3,by decide,hmx1,hlt,(by rw[F.re.b.ppl];have:=F.so.few;omega),fun t' D H4 hD gD s4 ft'=>?_⟩;have s34:=s3.trans s4;have SA4:=SA.same s34;have F4:=F.same s34;have SC4:=SC.fr (.of s34);have PO4:=PO.fr (.of s34);have hD4:=zj9 (SA.same s3) hD;have g:=zj8 F.re.b F.so gD hlt ⋯ ⟨nfew.2,PO.at_.nrng⟩ PO.at_.crng F.back;have hkn:∀ k gr c,D=.enrol k gr c->k∈nu:=fun k gr c z=>by rw[z] at gD;exact gD.2.1
  walk_at "if";have dd1:=PB.dd;have a14:=s34 _ _ a1;refine⟨_,rfl,_,rfl,l2,_,_,_,rfl,rfl,#[K,s34,hl2],hat,d2,_,rfl,DGet.k (k:=.inr "deed") a14,?_⟩;walk_at "if";obtain⟨w1,w2,w3,w4,w5,w6,w7,w8,w9,w10⟩:=F4.pre g ⋯;refine⟨_,rfl,_,rfl,A2,S2,t',D,(by rw[<- eAp];rfl),SA4,hD4,g,w1,w2,w3,w4,w5,w6,w7,w8,w9,w10,fun v' A3 S3 H5 af SA5 nx fr told=>?_⟩;have f5:=FrN.next SA4 nx fr;obtain⟨c1,c2,c3,c4,c5⟩:=F4.pre2 g ⋯
  walk_at "if";refine⟨_,rfl,_,rfl,(·∉A3.fp),l2,t',ds2,d2,P2,D,rfl,(f5.k _ _ (s34 _ _ hl2) ho2).1,F4.pg.fr f5,hD4.fr f5,c1,c2,c3,c4,c5,fun l6 d6 H6 hl6 pg6 s6 fl6 fd6=>?_⟩;obtain⟨ds7,d7,P7,ek,Pe,eP,eR⟩:=turn F4 SA4 af SA5 nx fr g hkn pg6 s6 fd6;have OO3:Oj (30+(i+1)) S3:=(zgj F.so OO af).mono ⋯;have SA6:=SA5.same s6;have o6:=SA5.newOk _ fl6;have SC6:=(SC4.fr f5).fr (.of s6);have PO6:=(PO4.fr f5).fr (.of s6);have eAp6:=f5.p.trans eAp;rw[ek] at hl6;have hat7:atI ((ds7++[d7]).map V.ref) (-1)=#[b,V.ref,d7]:=by rw[zx7];exact L2.atI_last _ _
  have hD6:=(hD4.fr f5).same s6;obtain⟨rw6,hw6⟩:=hD6.word;have hw0:atI (V.str (Im D) :: rw6) 0=some (V.str (Im D)):=Z4 (j:=0) rfl;have hbk:D=.back->∃ t1 t2 x,v'=.ref t1/\dv=.ref t2/\H6 t1=some (.tup (W2 x))/\H6 t2=some (.tup (W2 x)):=fun z=>by
   subst z;cases af with
   | @back S0 x t h0 ht hs =>
     rcases F.tl.ex with ⟨_,e⟩|⟨S0',_,_,x',hx',hs'⟩
     ·rw[h0] at e;exact absurd e (by simp)
     ·have e:=h0.symm.trans hs';obtain⟨_,e2⟩:=zzt e rfl;have e3:=(Prod.mk.inj (List.cons.inj e2).1).1;subst e3;rw[hx'] at dd1;obtain⟨t2,e4,h2⟩:=dd1;exact⟨t,t2,x,rfl,e4,s6 _ _ ht,s6 _ _ (f5.kt _ _ (s34 _ _ h2))⟩
  have eN:30+i+1=30+(i+1):=by omega
  rw[eN] at Pe;walk_at "if";refine⟨_,rfl,_,rfl,l6,_,_,_,rfl,rfl,SqL.of hl6,hat7,?_⟩;walk_at "if";obtain⟨lp7,lo7,lv7,dv7,li7,lg7,lm7,y1',y2',y3'⟩:=id Pe.pg.split;have hls:=y2'.li.some;obtain⟨vts7,z1,z2,z3⟩:=y2'.vv;have hvl7:(vts7.length:Int)+1=atV S3:=by rw[z2.length];exact Pe.rb.at Pe.so
  refine⟨_,rfl,d7,_,rfl,DGet.k (k:=.inr "over") y1',lv7,vts7,rfl,#[x,z1],_,_,rfl,rfl,?_⟩;walk_at "if";rw[hvl7];have re2:=F4.re;clear SA F SA4 F4 SC4 PO4 SC PO hD4 hD SA5 af
  let jv2:L2.St->Hp->Prop:=fun σ' Hy=>σ'=[#[d,b],#[l,mx],#[d,A1.p],#[d,t],#[d,l6],#[l,((6+i:Nat):Int)],#[d,t'],some dv,some v',#[d,d7],some (.int (atV S3))]/\Same H6 Hy
  refine Ab (b:=false) jv2 (fun Q q=>?_) (fun z=>nomatch z) (fun _ H1 s1 N hN=>Zx (hN _ _ ⟨rfl,s1⟩)) ?_
  ·refine⟨_,rfl,t',_,_,_,rfl,rfl,SqT.of hw6,hw0,rfl,_,rfl,?_⟩;by_cases hcl:D=.back
   ·rw[hcl,show #[i,V.str (Im Wj.back)=V.str "take back"]=true from zc9];obtain⟨t1,t2,x,rfl,rfl,h1,h2⟩:=hbk hcl;exact iteT ⟨_,rfl,_,rfl,t1,t2,x,rfl,h1,h2,true,rfl,q _ (.refl _)⟩
   ·rw[ze0 hcl];exact iteF (q _ (.refl _))
  rintro σ2 Hy ⟨rfl,sy⟩;have Pey:=Pe.same sy;have SAy:=SA6.same sy;have SCy:=SC6.fr (.of sy);have POy:=PO6.fr (.of sy)
  let jv3:L2.St->Hp->Prop:=fun σ' Hz=>σ'=[#[d,b],#[l,mx],#[d,A1.p],#[d,t],#[d,l6],#[l,((6+i:Nat):Int)],#[d,t'],some dv,some v',#[d,d7],some (.int (atV S3))]/\∃ Pz,Zy (ca a) Hz A3 S3/\Full true (·∉A3.fp) Hz nu (30+(i+1)) ds7 d7 Pz S3/\Hz l6=#[R,(ds7++[d7]).map,V.ref]/\S9 K A3 Hz b (ns.map V.int)/\Ls A3 Hz t lc ln cs nu
  refine J2 (b:=(!#[i,V.str (Im D)=V.str "take back"])&&P7.lis.isSome) jv3
   (fun Q k=>K0 (b:=!decide (V.str (Im D)=V.str "take back")) (c:=P7.lis.isSome) (fun Q k=>⟨_,rfl,t',_,_,_,rfl,rfl,SqT.of (sy _ _ hw6),hw0,rfl,_,rfl,k⟩) (fun Q k=>⟨_,rfl,d7,_,rfl,DGet.k (k:=.inr "listed") (sy _ _ y1'),rfl,_,rfl,by rw[hls];exact k⟩) Q k) (fun hb' N' hN'=>?_) (fun hb' N' hN'=>Zx (hN' _ _ ⟨rfl,P7,SAy,?_,sy _ _ hl6,SCy,POy⟩)) ?_
  ·obtain⟨ms,hms⟩:=zzh.mp (Bool.and_eq_true_iff.mp hb').2;obtain⟨sh,hcur,hshm⟩:=Pe.rb.drawn hms;subst hshm;obtain⟨⟨dx7,vv7,ob7,_⟩,_⟩:=id SAy;rw[eAp6] at ob7;refine⟨_,rfl,A1.p,dx7,_,rfl,ob7,Z6 ⋯,_,rfl,A3,S3,atV S3,(by rw[eAp6];rfl),SAy,zi2 Pe.so hcur fun lg2 H10 hlg2 s10 flg2=>?_⟩;refine⟨lg2,_,rfl,#[x,hlg2],fun lg' flg=>?_⟩;refine #[F,lg',flg,fun H13 q13 SH13=>?_];have s13:=s10.trans SH13;have o13:=(SAy.same s10).newOk _ flg;obtain⟨kvs,b1,b2,Pe14⟩:=(Pey.same s13).setGoes q13 o13;refine⟨_,rfl,d7,_,rfl,DPut.k (k:=.inr "goes") b1 b2,?_⟩;have SA14:=(SAy.same s13).dictW (kvs':=putK kvs (.inr "goes") (.ref lg')) b1 y3';have l14:=(W7.dict b1 (kvs':=putK kvs (.inr "goes") (.ref lg'))).1 _ _ (s13 _ _ (sy _ _ hl6));have SC14:=(SCy.fr (.of s13)).dictW (kvs':=putK kvs (.inr "goes") (.ref lg')) b1;have PO14:=(POy.fr (.of s13)).dictW (kvs':=putK kvs (.inr "goes") (.ref lg')) b1;generalize upd H13 d7 (.dK (putK kvs (.inr "goes") (.ref lg')))=H14 at Pe14 SA14 l14 SC14 PO14 ⊢;refine zmc rfl rfl rfl SA14 eAp6 rfl hcur Pe14 ⋯ fun H15 kvs2 lx s15 b3 Pe16=>?_;have SA16:=(SA14.same s15).dictW (kvs':=putK kvs2 (.inr "moves") (.ref lx)) b3 y3';have l16:=(W7.dict b3 (kvs':=putK kvs2 (.inr "moves") (.ref lx))).1 _ _ (s15 _ _ l14);have SC16:=(SC14.fr (.of s15)).dictW (kvs':=putK kvs2 (.inr "moves") (.ref lx)) b3;have PO16:=(PO14.fr (.of s15)).dictW (kvs':=putK kvs2 (.inr "moves") (.ref lx)) b3;exact hN' _ _ ⟨rfl,_,SA16,Pe16.full (fun s hs=>by rw[hcur] at hs;cases hs;rfl) fun _=>(Mj hcur).symm,l16,SC16,PO16⟩
  ·by_cases hcl:D=.back
   ·exact Pey.full (eR (.inl hcl)).1 (eR (.inl hcl)).2
   ·rw[ze0 hcl] at hb';have hno:P7.lis=none:=by
     cases hq:P7.lis with
     | none=>rfl
     | some ms=>rw[hq] at hb';cases hb'
    have hcn:=Pe.rb.undrawn hno;exact Pey.full (fun s hs=>by rw[hcn] at hs;cases hs) fun _=>zka re2 eP eR hno hcn rfl
  rintro σ' Hz ⟨rfl,Pz,SAz,Fz,lz,SCz,POz⟩;exact⟨_,rfl,_,rfl,A3,S3,l6,d7,ds7,Pz,nu,30+(i+1),1,(by rw[eAp6];rfl),SAz,lz,Fz,OO3,by omega,by decide,fun Hw sw=>#[q,true,iteF (Zx ⟨A3,l6,ds7,d7,Pz,S3,_,_,_,_,_,_,rfl,SAz.same sw,sw _ _ lz,o6,Fz.same sw,SCz.fr (.of sw),POz.fr (.of sw),eAp6,OO3,hi⟩)]⟩
 ·rintro i σ H1 ⟨A2,l2,ds2,d2,P2,S2,v6,v7,v8,v9,v10,v11,rfl,SA,hl2,ho2,F,SC,PO,eAp,OO,hiN⟩;dsimp only;have F0:Full true (·∉A2.fp) H1 nu 100 ds2 d2 P2 S2:=⟨F.pg,F.re,F.so.mono ⋯,by
   obtain⟨nd,e|⟨S0,bb,rr'⟩⟩:=F.tl
   ·exact⟨nd,.inl e⟩
   ·exact⟨nd,.inr ⟨S0,bb.mono ⋯,rr'⟩⟩⟩
  let W:Nat->L2.St->Hp->Prop:=fun m σ Hw=>∃ A2 l2 ds2 d2 P2 S2 v5 v6 v7 v8 v9 v10,σ=[#[d,b],#[l,mx],#[d,A1.p],#[d,t],#[d,l2],v5,v6,v7,v8,v9,v10]/\Zy (ca a) Hw A2 S2/\Hw l2=#[R,(ds2++[d2]).map,V.ref]/\l2∉A2.fp/\Full true (·∉A2.fp) Hw nu 100 ds2 d2 P2 S2/\A2.p=A1.p/\Oj 100 S2/\ds2.length=m
  refine⟨W,⟨ds2.length,A2,l2,ds2,d2,P2,S2,_,_,_,_,_,_,rfl,SA,hl2,ho2,F0,eAp,OO.mono ⋯,rfl⟩,?_⟩;clear F0 SA hl2 ho2 F SC PO eAp OO;rintro m σ Hw ⟨A2,l2,ds2,d2,P2,S2,v5,v6,v7,v8,v9,v10,rfl,SA,hl2,ho2,F,eAp,OO,hm⟩;obtain⟨lp,lo,lv,dv,li,lg,lm,a1,PB,okd⟩:=id F.pg.split;have hat:atI ((ds2++[d2]).map V.ref) (-1)=#[b,V.ref,d2]:=by rw[zx7];exact L2.atI_last _ _
  obtain⟨⟨dx2,vv2,ob2,_⟩,_⟩:=id SA;rw[eAp] at ob2;refine⟨_,rfl,l2,_,rfl,#[x,hl2],_,_,rfl,rfl,_,rfl,?_⟩;refine itD (fun hlt=>?_) fun hge=>?_
  ·refine⟨fun σ' H'=>∃ m',m' < m/\W m' σ' H',fun σ' H' z=>z,?_⟩;have hne:ds2≠[]:=fun z=>by
    rw[z] at hlt;exact absurd hlt (by simp)
   obtain⟨S0,x,st,hx,hs,hF⟩:=zgn F hne;obtain⟨hbo,eS⟩:=zgo st hs;have dd1:=PB.dd;rw[hx] at dd1;obtain⟨t2,rfl,h2⟩:=dd1;refine Xl ?_;refine⟨_,rfl,A1.p,dx2,_,rfl,ob2,Z6 ⋯,A2,S2,(by rw[eAp];rfl),SA,(fun z=>by rw[hs] at z;exact absurd z (by simp)),fun std dd0 s0 e=>?_⟩;obtain⟨e1,e2⟩:=zzt (e.symm.trans hs) rfl;obtain⟨e3,e4⟩:=Prod.mk.inj (List.cons.inj e2).1;subst e1 e3 e4;refine⟨S0.ppl,S0.out,hbo,fun tt H2 htt SA2 fr=>?_⟩;rw[eS] at SA2;have kt:=SA.tups fr;obtain⟨ds',d',P',e',F'⟩:=hF H2 fr kt;have hl2':=fr _ _ hl2 ho2;refine⟨_,rfl,_,rfl,l2,_,_,_,rfl,rfl,SqL.of hl2',hat,d2,_,rfl,DGet.k (k:=.inr "deed") (fr _ _ a1 okd),tt,t2,_,rfl,htt,kt _ _ h2,true,rfl,#[S]⟩;dsimp only;refine⟨_,rfl,_,rfl,_,rfl,l2,_,rfl,SqL.of hl2',fun l3 f3=>?_⟩;rw[zx7,show Ks (ds2.map V.ref++[d2].map V.ref) none (some (-1))=ds2.map V.ref from zbx _ _];have s3:=Zk (o:=.lst (ds2.map V.ref)) f3;have q3:upd H2 l3 (.lst (ds2.map V.ref)) l3=some (.lst (ds2.map V.ref)):=Ze;have o3:=SA2.newOk _ f3;walk_at "if";generalize upd H2 l3 (.lst (ds2.map V.ref))=H3 at s3 q3 ⊢;rw[e'] at q3;have OO0:Oj 100 S0:=fun s hs'=>by
    obtain⟨_,_,_,_,_,_,a6⟩:=st;exact OO s (by rw[a6];exact hs')
   have hlen:ds'.length+1=m:=by rw[<- hm,e',zx4];rfl
   exact⟨_,rfl,_,rfl,A2,S0,l3,d',ds',P',nu,100,1,(by rw[eAp];rfl),SA2.same s3,q3,F'.same s3,OO0,by decide,by decide,fun Hx sx=>#[q,true,iteF (Zx ⟨ds'.length,by omega,A2,l3,ds',d',P',S0,_,_,_,_,_,_,rfl,(SA2.same s3).same sx,sx _ _ q3,o3,(F'.same s3).same sx,eAp,OO0,rfl⟩)]⟩
  ·have hnil:ds2=[]:=by
    rw[zx1,zx4] at hge;simp only[zyk,zz4] at hge;exact zze.mp ⋯
   have hstd:S2.std=[]:=by
    rcases F.tl.ex with ⟨_,e⟩|⟨S0',bb,_⟩
    ·exact e
    ·have:=bb.deeds.1;rw[hnil] at this;exact absurd this (by simp)
   exact⟨_,rfl,A2,S2,(by rw[eAp];rfl),SA,hstd,true,rfl,iteT ⟨_,rfl,_,rfl,A2,S2,l2,d2,ds2,P2,nu,100,1,(by rw[eAp];rfl),SA,hl2,F,OO,by decide,by decide,fun Hx _=>h Hx⟩⟩
end
end K37
namespace K37
open PySem PySem.Spec PyProof.Rows L2 G PySem.W
theorem zmf{l:OpenLaw}{w:World}{K:Frag}{h:Heap}{mg:#[M]}{fa zs1 zpn zp4 zpq zpv zpw zq3 zqg zpy zqs zqk zqf zry zq2 zo3 zp5 zoz zo2 zoy zov f1 f109:Addr}{tk0 tk1 tk2 tk3 tk4 tk5 tk6 tk7:Tok}{u1 n1 u109 n109:Option Addr}{z1 z109:Array (Option Value)}{o1 v1 d1 m1 c1 t1 o109 v109 d109 m109 c109 t109:Value}(X:K.In h)(G:h.Ns mainGlobals mg)(hfa:mg "law"=#[b,.ref,fa])
  (zt9:NsB K "BookError" zs1)
  (zs0:NsB K "OutOfRange" zpn)
  (zr8:NsB K "KnownReferee" zp4)
  (zqy:NsB K "TooManyReferees" zpq)
  (zrc:NsB K "UnknownReferee" zpv)
  (zq5:NsB K "TooManyMatches" zpw)
  (ztx:NsB K "SameClub" zq3)
  (zsr:NsB K "NoSuchMatch" zqg)
  (zsj:NsB K "NoSuchRound" zpy)
  (zs9:NsB K "RoundOver" zqs)
  (zs6:NsB K "SeasonOver" zqk)
  (zsl:NsB K "AwayAlready" zqf)
  (zt6:NsB K "DrawnUp" zry)
  (ztr:NsB K "NotDrawn" zq2)
  (zqp:NsB K "NothingToTakeBack" zo3)
  (zsa:NsB K "TooManyDeeds" zp5)
  (zul:NsB K "Ledger" zoz)
  (zun:NsB K "Roster" zo2)
  (zux:NsB K "Sheet" zoy)
  (zue:NsB K "Season" zov)
  (zut:zi3 K zoz)
  (zrm:#[ac,K,zoz,"rounds"])
  (zq6:#[ac,K,zoz,"meetings"])
  (zus:zi3 K zo2)
  (zqi:#[ac,K,zo2,"entries"])
  (zu0:zi3 K zoy)
  (zqx:#[ac,K,zoy,"listed"])
  (ztz:#[ac,K,zoy,"lists"])
  (zrh:#[ac,K,zoy,"given"])
  (zt7:#[ac,K,zoy,"gaps"])
  (zuu:zi3 K zov)
  (ztg:#[ac,K,zov,"length"])
  (zum:#[ac,K,zov,"rest"])
  (zp0:#[ac,K,zov,"roster"])
  (zql:#[ac,K,zov,"ledger"])
  (zrk:#[ac,K,zov,"absent"])
  (zta:#[ac,K,zov,"sheets"])
  (zpx:#[ac,K,zov,"sheet"])
  (zqe:#[ac,K,zov,"standing"])
  (ztp:XcB K zpy)
  (zt0:XcB K zpn)
  (zsu:XcB K zpw)
  (zub:XcB K zq3)
  (zth:XcB K zp4)
  (zse:XcB K zpq)
  (zst:XcB K zpv)
  (ztn:XcB K zqg)
  (zt1:XcB K zqk)
  (zur:XcB K zry)
  (ztf:XcB K zp5)
  (zuc:XcB K zq2)
  (zt8:XcB K zqs)
  (zto:XcB K zqf)
  (zrs:XcB K zo3)
  (zuk:NzB K "max")
  (zo5:NzB K "len")
  (zsy:NzB K "tuple")
  (zp9:NzB K "list")
  (zsd:NzB K "enumerate")
  (zpl:NzB K "range")
  (ztk:NzB K "sorted")
  (zu8:NzB K "zip")
  (zo8:NzB K "isinstance")
  (zu6:NzB K "int")
  (zuv:NzB K "bool")
  (zu5:NzB K "str")
  (zu4:NzB K "dict")
  (zu1:NzB K "min")
  (zte:typeIn K (.ref zo3)=#[b,.type,"type"])
  (zrl:mroIn K zo3 (.type "BaseException")=some true)
  (zpi:mroIn K zo3 (.ref zo3)=some true)
  (zso:nsIn K mainGlobals "MOST_NUMBER"=#[b,some,.int 999 tk0])
  (zru:nsIn K mainGlobals "MOST_GRADE"=#[b,some,.int 9 tk1])
  (zrj:nsIn K mainGlobals "MOST_CLUB"=#[b,some,.int 99 tk2])
  (zqq:nsIn K mainGlobals "MOST_REFEREES"=#[b,some,.int 30 tk3])
  (zq1:nsIn K mainGlobals "MOST_MATCHES"=#[b,some,.int 20 tk4])
  (zsh:nsIn K mainGlobals "MOST_ROUNDS"=#[b,some,.int 60 tk5])
  (ztj:nsIn K mainGlobals "MOST_REST"=#[b,some,.int 10 tk6])
  (zrv:nsIn K mainGlobals "MOST_DEEDS"=#[b,some,.int 100 tk7])
  (l0:LNe K "met_lately" Qu)
  (l1:LN K "reasons" "reasons" Jb f1 o1 v1 d1 m1 c1 t1 u1 n1 z1)
  (zua:nsIn K mainGlobals "reasons_bars"=some #[d,f1])
  (l2:LNe K "takers" Et)
  (l3:LMe K zoz "__init__" "Ledger.__init__" V7)
  (l4:LMe K zoz "write" "Ledger.write" Sa)
  (l5:LMe K zoz "over" "Ledger.over" Rh)
  (l6:LMe K zoz "facts" "Ledger.facts" Sb)
  (l7:LMe K zoz "met" "Ledger.met" Qv)
  (l8:LNe K "check_range" Ri)
  (l9:LNe K "check_count" Rj)
  (l10:LNe K "check_ranges" Sd)
  (l11:LNe K "check_clubs" Rk)
  (l12:LNe K "checked" Jc)
  (l13:LMe K zo2 "__init__" "Roster.__init__" V9)
  (l14:LMe K zo2 "check_new" "Roster.check_new" Vt)
  (l15:LMe K zo2 "check_known" "Roster.check_known" W9)
  (l16:LMe K zo2 "add" "Roster.add" Qw)
  (l17:LMe K zo2 "strike" "Roster.strike" Ta)
  (l18:LMe K zo2 "numbers" "Roster.numbers" Us)
  (l19:LMe K zo2 "entry" "Roster.entry" Se)
  (l20:LMe K zo2 "person" "Roster.person" Tb)
  (l21:LNe K "places_taken" Sf)
  (l22:LNe K "steps_into" Qx)
  (l23:LNe K "free_referee" Sg)
  (l24:LNe K "traced" Eu)
  (l25:LNe K "chain" Aw)
  (l26:LNe K "stepped" Jh)
  (l27:LNe K "fill" zdn)
  (l28:LNe K "left_without" Sh)
  (l29:LNe K "place_of" Mt)
  (l30:LNe K "shortage" Mu)
  (l31:LMe K zoy "__init__" "Sheet.__init__" Ut)
  (l32:LMe K zoy "barred" "Sheet.barred" Si)
  (l33:LMe K zoy "fallen_out" "Sheet.fallen_out" Vu)
  (l34:LMe K zoy "matches" "Sheet.matches" Tc)
  (l35:LMe K zoy "match_at" "Sheet.match_at" Uu)
  (l36:LMe K zoy "may" "Sheet.may" Oo)
  (l37:LMe K zoy "check_place" "Sheet.check_place" Vi)
  (l38:LMe K zoy "goes" "Sheet.goes" Qz)
  (l39:LMe K zoy "where" "Sheet.where" Rl)
  (l40:LMe K zoy "left" "Sheet.left" Q0)
  (l41:LMe K zoy "why" "Sheet.why" Ou)
  (l42:LMe K zoy "chains" "Sheet.chains" Sj)
  (l43:LMe K zoy "rows" "Sheet.rows" Q4)
  (l44:LNe K "drawn_sheet" Rm)
  (l45:LMe K zov "__init__" "Season.__init__" Ua)
  (l46:LMe K zov "check_not_over" "Season.check_not_over" Wk)
  (l47:LMe K zov "check_undrawn" "Season.check_undrawn" Wr)
  (l48:LMe K zov "check_round" "Season.check_round" Vb)
  (l49:LMe K zov "check_room" "Season.check_room" Vj)
  (l50:LMe K zov "note" "Season.note" Rp)
  (l51:LMe K zov "sheet_at_hand" "Season.sheet_at_hand" Ws)
  (l52:LMe K zov "sheet_of" "Season.sheet_of" Ub)
  (l53:LMe K zov "takers_of" "Season.takers_of" Vv)
  (l54:LMe K zov "enrol" "Season.enrol" Sk)
  (l55:LMe K zov "draw_up" "Season.draw_up" Uv)
  (l56:LMe K zov "away" "Season.away" Rq)
  (l57:LMe K zov "step_in" "Season.step_in" Uw)
  (l58:LMe K zov "close" "Season.close" Sl)
  (l59:LMe K zov "take_back" "Season.take_back" Vw)
  (l60:LMe K zov "at_hand" "Season.at_hand" Ux)
  (l61:LMe K zov "deeds" "Season.deeds" Sn)
  (l62:LMe K zov "referees" "Season.referees" Ud)
  (l63:LMe K zov "referee" "Season.referee" Uy)
  (l64:LMe K zov "is_away" "Season.is_away" Uz)
  (l65:LMe K zov "matches" "Season.matches" U0)
  (l66:LMe K zov "goes" "Season.goes" Rr)
  (l67:LMe K zov "where" "Season.where" So)
  (l68:LMe K zov "left" "Season.left" Rt)
  (l69:LMe K zov "why" "Season.why" Q5)
  (l70:LMe K zov "chains" "Season.chains" Td)
  (l71:LMe K zov "may" "Season.may" Q6)
  (l72:LMe K zov "reasons" "Season.reasons" U1)
  (l73:LMe K zov "facts" "Season.facts" Sr)
  (l74:LNe K "_law_whole" Ox)
  (l75:LNe K "_law_at" Dc)
  (l76:LNe K "_law_mix" Jm)
  (l77:LNe K "_law_numbers" Yt)
  (l78:LNe K "_law_clubs" Xn)
  (l79:LNe K "_law_one_is" Q8)
  (l80:LNe K "_law_list_is" Ru)
  (l81:LNe K "_law_tuple_is" Ss)
  (l82:LNe K "_law_rows_are" Su)
  (l83:LNe K "_law_is_shortage" Ug)
  (l84:LNe K "_law_words_are" Te)
  (l85:LNe K "_law_deed_is" Rv)
  (l86:LNe K "_law_deeds_are" Tf)
  (l87:LNe K "_law_truth_is" Sw)
  (l88:LNe K "_law_moves_are" Tg)
  (l89:LNe K "_law_first" O1)
  (l90:LNe K "_law_met" Js)
  (l91:LNe K "_law_bars" M4)
  (l92:LNe K "_law_open" M5)
  (l93:LNe K "_law_paged" O2)
  (l94:LNe K "_law_matches" Ym)
  (l95:LNe K "_law_do" Dl)
  (l96:LNe K "_law_deed" M6)
  (l97:LNe K "_law_pool" Xx)
  (l98:LNe K "_law_people" Yk)
  (l99:LNe K "_law_enrolled" Sv)
  (zvi:LNe K "_law_rest" Wt)
  (zvk:LNe K "_law_rounds" Q9)
  (zvd:LNe K "_law_cell" M7)
  (zvf:LNe K "_law_shows_people" Vy)
  (zvj:LNe K "_law_shows_round" Ui)
  (zvh:LNe K "_law_shows_hand" U2)
  (zvm:LNe K "_law_facts_are" Ti)
  (zve:LNe K "_law_shows" O4)
  (zvl:LNe K "_law_nothing" Rw)
  (zu9:LN K "law" "law" Bu f109 o109 v109 d109 m109 c109 t109 u109 n109 z109)
  : ∃ fd:FuncData,(∀ (s:Shared) (v:Value),BindsTo s fd ⟨[v],[]⟩ [("_law_script",v)])/\∀ base:Heap,K.In base->base.Ns mainGlobals mg->FnOk l.prog w K mg base (CX1 l.prog w) 10 fa fd ["_law_script"] (zeb K):=by
 have e:=hfa.symm.trans (mg_of X G zu9.b);cases e
 let a:Ad:=⟨zs1,zpn,zp4,zpq,zpv,zpw,zq3,zqg,zpy,zqs,zqk,zqf,zry,zq2,zo3,zp5,zoz,zo2,zoy,zov⟩
 obtain⟨pg_Ledger,hd_Ledger,po_Ledger,sa_Ledger,_,_⟩:=id zut;obtain⟨pg_Roster,hd_Roster,po_Roster,sa_Roster,_,_⟩:=id zus;obtain⟨pg_Sheet,hd_Sheet,po_Sheet,sa_Sheet,_,_⟩:=id zu0;obtain⟨pg_Season,hd_Season,po_Season,sa_Season,_,_⟩:=id zuu;have T:#[j]:=⟨⟨pg_Ledger,hd_Ledger,po_Ledger,sa_Ledger⟩,
  zrm,
  zq6,
  ⟨pg_Roster,hd_Roster,po_Roster,sa_Roster⟩,
  zqi,
  ⟨pg_Sheet,hd_Sheet,po_Sheet,sa_Sheet⟩,
  zqx,
  ztz,
  zrh,
  zt7,
  ⟨pg_Season,hd_Season,po_Season,sa_Season⟩,
  ztg,
  zum,
  zp0,
  zql,
  zrk,
  zta,
  zpx,
  zqe,
  ⟨mg_of X G zsj,ztp⟩,
  ⟨mg_of X G zs0,zt0⟩,
  ⟨mg_of X G zq5,zsu⟩,
  ⟨mg_of X G ztx,zub⟩,
  ⟨mg_of X G zr8,zth⟩,
  ⟨mg_of X G zqy,zse⟩,
  ⟨mg_of X G zrc,zst⟩,
  ⟨mg_of X G zsr,ztn⟩,
  ⟨mg_of X G zs6,zt1⟩,
  ⟨mg_of X G zt6,zur⟩,
  ⟨mg_of X G zsa,ztf⟩,
  ⟨mg_of X G ztr,zuc⟩,
  ⟨mg_of X G zs9,zt8⟩,
  ⟨mg_of X G zsl,zto⟩,
  ⟨mg_of X G zqp,zrs⟩,
  mg_none_of X G zuk,
  mg_none_of X G zo5,
  mg_none_of X G zsy,
  mg_none_of X G zp9,
  mg_none_of X G zsd,
  mg_none_of X G zpl,
  mg_none_of X G ztk,
  mg_none_of X G zu8,
  mg_none_of X G zo8,
  mg_none_of X G zu6,
  mg_none_of X G zuv,
  mg_none_of X G zu5,
  mg_none_of X G zu4,
  mg_none_of X G zu1,
  mg_of X G zt9,
  mg_of X G zs0,
  mg_of X G zr8,
  mg_of X G zqy,
  mg_of X G zrc,
  mg_of X G zq5,
  mg_of X G ztx,
  mg_of X G zsr,
  mg_of X G zsj,
  mg_of X G zs9,
  mg_of X G zs6,
  mg_of X G zsl,
  mg_of X G zt6,
  mg_of X G ztr,
  mg_of X G zqp,
  mg_of X G zsa,
  mg_of X G zul,
  mg_of X G zun,
  mg_of X G zux,
  mg_of X G zue,
  ⟨zte,zcw zrl,zrl⟩,
  zpi,
  ⟨_,mg_of X G zso⟩,
  ⟨_,mg_of X G zru⟩,
  ⟨_,mg_of X G zrj⟩,
  ⟨_,mg_of X G zqq⟩,
  ⟨_,mg_of X G zq1⟩,
  ⟨_,mg_of X G zsh⟩,
  ⟨_,mg_of X G ztj⟩,
  ⟨_,mg_of X G zrv⟩⟩
 refine⟨fnOf "law" "law" (Sy Bu) (Zw Bu) (Zg Bu) .none v109 d109 m109 n109 c109 t109,fun s v=>.of_eq rfl,fun base KX NX=>?_⟩;have Z:XG l.prog w base K mg h:=⟨X,G⟩;have zuf:=nE Z l3 zut zul fun F=>Mp F T;have zr7:=mE Z l4 fun F=>Iz F T;have zpa:=mE Z l5 fun F=>Em F T;have zsc:=mE Z l6 fun F=>He F T;have zs2:=mE Z l7 fun F=>D5 F T;have zpc:=dE Z l8 fun F=>Eo F T;have zsq:=dE Z l9 fun F=>Ep F T;have zsm:=dE Z l11 fun F=>Er F T;have zuo:=nE Z l13 zus zun fun F=>Mr F T;have zo4:=mE Z l15 fun F=>Pw F T;have zro:=mE Z l17 fun F=>Je F T;have zps:=mE Z l18 fun F=>Lw F T;have zp7:=dE Z l21 fun F=>Hi F T;have zqn:=dE Z l22 fun F=>D8 F T;have zr0:=dE Z l23 fun F=>Hj F T;have zt2:=dE Z l24 fun F=>zgr F T;have zrd:=dE Z l26 fun F=>zdm F T;have zp8:=dE Z l28 fun F=>Hl F T;have ztv:=dE Z l29 fun F=>zb2 F T;have zrw:=nE Z l31 zu0 zux fun F=>Lz F T;have zp1:=mE Z l34 fun F=>Jj F T;have zpm:=mE Z l37 fun F=>Ot F T;have zqo:=mE Z l38 fun F=>Ca F T;have zqb:=mE Z l42 fun F=>Hr F T;have zs5:=mE Z l43 fun F=>Ce F T;have zo9:=mE Z l48 fun F=>Py F T;have zpb:=mE Z l49 fun F=>Ow F T;have zpu:=mE Z l50 fun F=>E3 F T;have zo1:=mE Z l51 fun F=>Qb F T;have zr1:=mE Z l61 fun F=>Gd F T;have zqu:=dE Z l74 fun F=>A5 F T;have zpf:=dE Z l75 fun F=>zgt F T;have zqm:=dE Z l76 fun F=>zdo F T;have zsf:=dE Z l77 fun F=>Dd F T;have ztc:=dE Z l78 fun F=>A6 F T;have zrq:=dE Z l84 fun F=>Jp F T;have zr6:=dE Z l87 fun F=>Gp F T;have zs8:=dE Z l89 fun F=>A7 F T;have zrx:=dE Z l90 fun F=>zdp F T;have zre:=dE Z l91 fun F=>zb4 F T;have zqz:=dE Z l0 fun F=>D3 F T zpa zs2;have zr3:=dE Z l10 fun F=>Hf F T zpc;have zpp:=mE Z l14 fun F=>Nm F T zpc;have zqd:=mE Z l19 fun F=>Hh F T zo4;have ztl:=dE Z l25 fun F=>zi4 F T zp7 zqn zr0 zt2;have ztw:=dE Z l30 fun F=>zb3 F T zp7 zp8 zqn;have zq7:=mE Z l35 fun F=>L7 F T zpm;have zti:=mE Z l36 fun F=>Ay F T zpm;have zpt:=mE Z l39 fun F=>Ex F T ztv;have zsw:=mE Z l40 fun F=>Cc F T zp8;have zpd:=mE Z l59 fun F=>Nq F T zro;have zox:=mE Z l60 fun F=>Kb F T zpa;have zqw:=mE Z l62 fun F=>M0 F T zps;have zpz:=mE Z l64 fun F=>Kf F T zo9 zo4;have zo7:=dE Z l79 fun F=>Cm F T zqu;have zq4:=dE Z l92 fun F=>zb5 F T zrx zre;have zsk:=dE Z l94 fun F=>Dk F T zqm;have ztu:=dE Z l97 fun F=>zb7 F T zpf ztc zsf;have zs4:=dE Z l98 fun F=>Cp F T zpf zqm;have zsz:=dE Z zvi fun F=>zb9 F T zpf;have zrt:=dE Z zvk fun F=>Ct F T zpf;have zts:=dE Z zvd fun F=>zcb F T zpf zqm;have D_reasons:=dN Z l1 fun F=>Ek F T zqz;have zqa:=dA Z l1 zua fun F=>Ek F T zqz;have zt5:=dE Z l12 fun F=>zdl F T zsq zr3 zsm;have zsv:=mE Z l16 fun F=>D7 F T zpp;have zp3:=mE Z l20 fun F=>Jg F T zqd;have zu2:=dE Z l27 fun F=>zke F T zrd ztl;have zr4:=mE Z l32 fun F=>Hn F T zrw;have zqr:=mE Z l33 fun F=>Nn F T zpt zrd ztl zrw;have ztd:=mE Z l41 fun F=>A0 F T ztw;have zui:=nE Z l45 zuu zue fun F=>Mw F T zpc zuo zuf;have zpg:=mE Z l46 fun F=>Ro F T zox;have zo0:=mE Z l52 fun F=>My F T zo9 zpa zox zo1;have zra:=mE Z l63 fun F=>Kd F T zqd;have zs3:=mE Z l71 fun F=>Cj F T zo1 zti;have zsb:=mE Z l73 fun F=>Gg F T zox zsc;have zpe:=dE Z l80 fun F=>Dg F T zo7;have zqc:=dE Z l81 fun F=>Gh F T zo7;have zp6:=dE Z l85 fun F=>Dj F T zo7;have zqv:=dE Z l93 fun F=>A8 F T zq4;have ztt:=dE Z l96 fun F=>zb6 F T zsk;have zsg:=dE Z zvl fun F=>Dm F T zpd;have zud:=dE Z l2 fun F=>zgq F T zqa;have zsn:=dE Z l44 fun F=>Ez F T zrw zu2;have zpj:=mE Z l47 fun F=>R9 F T zpg;have zr2:=mE Z l58 fun F=>Ga F T zpg zo1 zr7 zs5 zpa;have zrf:=mE Z l65 fun F=>Kh F T zo0 zp1;have zqh:=mE Z l66 fun F=>E7 F T zo0 zqo;have zrz:=mE Z l67 fun F=>Ge F T zo0 zo4 zpt;have zsp:=mE Z l68 fun F=>E9 F T zo0 zsw;have zsx:=mE Z l69 fun F=>Cg F T zo0 ztd;have zp2:=mE Z l70 fun F=>Jl F T zo0 zqb;have zq9:=mE Z l72 fun F=>Ki F T zo1 zp3 zq7 zpz zox zqa;have zpk:=dE Z l82 fun F=>Gi F T zqc;have zq0:=dE Z l83 fun F=>M3 F T zqu zpe;have zrp:=dE Z l86 fun F=>Jq F T zp6;have zqt:=dE Z zvf fun F=>Nr F T zpe zqw zqc zra zr6 zpz;have zpr:=mE Z l53 fun F=>Np F T zps zp3 zox zud;have zr5:=mE Z l54 fun F=>Hv F T zpj zpp zpb zpu zox zsv;have zrn:=dE Z l88 fun F=>Jr F T zo7 zpk;have zrg:=dE Z zvh fun F=>Km F T zrx zpe zs3 zre zrq zq9;have zrr:=dE Z zvm fun F=>Jv F T zpk;have zrb:=mE Z l55 fun F=>L8 F T zpj zt5 zpb zpu zox zsn zpr zqo;have zq8:=mE Z l57 fun F=>L9 F T zpr zp1 zpt zr4 zqr zqb;have zqj:=dE Z zvj fun F=>M8 F T zpk zrf zpe zqh zsp zrn zp2 zo7 zrz zq0 zsx;have zsi:=mE Z l56 fun F=>E5 F T zo9 zpa zo4 zpb zpu zox zq8;have zri:=dE Z zve fun F=>A9 F T zo7 zox zrp zr1 zqt zrr zsb zqj zq4 zrg;have zss:=dE Z l95 fun F=>zgv F T zr5 zsi zrb zr2 zpd;have zr9:=dE Z l99 fun F=>Gm F T zss zqv;exact zme (Qi zu9.l zu9.c zu9.k) T zpf zui zsz zrt ztu zs8 zr9 zs4 ztt zts zss zqv zp6 zqh zp2 zri zpd zsg
theorem walk{l:OpenLaw}{q:Program}{loose:List Str}{XP:#[M]->Heap->Prop}{YP:World->Heap->Prop}{d:DefRec}{K:Params->Frag}(hn:l.most=some 63)(hdf:d.params.defaults=[])
  (hY:∀ (w:World) (h:Heap),YP w h->(K w.params).In h)
  (F:∀ (w:World) (mg:#[M]) (fa:Addr) (h:Heap),(K w.params).In h->h.Ns mainGlobals mg->mg d.name=#[d,fa] ->
   ∃ fd:FuncData,(∀ (s:Shared) (u:Value),BindsTo s fd ⟨[u],[]⟩ [("_law_script",u)])/\∀ base:Heap,(K w.params).In base->base.Ns mainGlobals mg->FnOk l.prog w (K w.params) mg base (CX1 l.prog w) 10 fa fd ["_law_script"] (zeb (K w.params))) :
  WalkO q loose XP YP l.row.toRowW d [] (fun f vs=>PySem.call f vs) :=
 L2.zjp (n:=63) (k:=10) (x:="_law_script") (CX:=fun w=>CX1 l.prog w) (sp:=fun w=>zeb (K w.params)) hn ⋯ hdf ⟨rfl,by decide,by decide⟩ hY F (fun _ _ a ns hl _ hS=>⟨a,ns,rfl,hS,hl,fun _=>rfl⟩) fun _ _ _ _ _ z=>by obtain⟨_,_,_,_,_,_,_,_,_,_,z⟩:=z;exact z
end K37
open PySem PySem.W PyProof.Rows
local macro_rules|`(command|universe $x*)=>do
 let t:="0123456789ABCDEFGHIJKLMNOPQRSTUVWXYZabcdefghijklmnopqrstuvwxyz!$%&*+,.:;<=>?^_|~".toList;let mut a:=0;let mut r:=#[];let mut s:=x[0]!.getId.getString!.toList
 while !s.isEmpty do
  a:=a+(s.take 9).foldl (fun n c=>n*80+t.idxOf c) 0;s:=s.drop 9;let i:=Lean.mkIdent (.mkSimple s!"tw{a}");r:=r.push (<-`(command|def $i:ident:=Nat))
 return Lean.mkNullNode r
namespace PySem.W.Fast
universe «A1D5K2VkI37<<sJDk05e!Yr6.MPZQfLZA+SFQQe^1wqfNAjJ0WIh?11nXH2j?CY0$sz^.O!u0YURLzCjRNCHa%FOfAELa,ocZn|0LMIS<zm605VpNPd!M8B2g<30M21j0tSI?z79qU,YFOdGXiADgKlyU5bXX*oqp_I!+=pt4zA9z.vSqFBb7^_M^x,474AHa62S1OEUe?p?_lu0?~fEX?J<1gp77dUp57^OUGZ_nQBP4HwIh4!K0Q$B2GbF0pK>sE0%pQn87X6x2xK5+3BP>;s233pf%O,2D4qTSgl=^5y84n=2%hH%,,UO!vdG8?^ZV>pdBcgVEDNV:1o2s~rnbiH8^g2sX,D7T!=>?InC2L%BGeE9$7aZ$5u%gCO!lRrE5c%1uxI^uCcw2F^_$>>f*I%<4n7;;=67tIJ|ySxRmZ_cQ!8|2uXzn1f_YFiyZ^2uqdKFzYU$fZf5Y8:_CjA;16M3NV3*j4tQ2g%=DA0kK~DJ_:45e%wR|XdE7Bv*Piv|+4pgSaOXSE4e1j;3nbA69%WcqX4qEy^Vh<dki8N6*fmBEM1vI!U.<J*8J:,;^38_2B=cFa6=>E.%*JxY57QKtXM&g>k2erqS.3DA0t&mqYQ<$2Pe|JyZHhGP7>Odxo476Jzb110N0jlIidr<.1e9XGBtqDSeK?%tk020;ri9td9NK15>z<4MC2gZ5.Cei35HqV9M5P.3IfR4wg9m7BRr!Ig$ba<wfA1e+vMUi?aT_c*K4BClOyh=1^_t0efFc0AjsoNEeB1=y>&QZzLAihMb1jiiAtZwVTqyk3~yURJGf~9^HqDqdM,3h!o9&axN1Ddzm%s.VP&nOc6U0Q6Avox5Oe1Uo*FDr.k07%$>*zGR:0$QDS5ZsD3&Mzj!Qp+8KGKuTziI4C*xes1A!1AesC2suS1c>z|Cge_0?Ue_vgTq0?6jrq12hKH<DRs26L3fvLQ<?Rt5CBhZCRpVGs9IU<pye0nrdtz_1x1srMuH^241=QlvS5H$HY478=!se0wEKx.=*2C6p7:yKY69l_2*~5vK8,*sG=+^*1h+!5V!uZ3:$*73FG+1ADOv4KsA2AxOh5W$z2NG9TDC;01SO:;m;mo5?DF7zjmJCmJ0n5QGr6B7Kk,o540bwsDpj9=50;W=Ry1!CM1SjcUilEK0pSPIi*4!k0+e4*56v8VQ.2H~L%,m$T4BB0+$|SAm$rU4=H=SSBjCo2*u~5Vi1%~x6B5&I2OAM0N0JV08NwEF+b05&3v~HdaCDw?qmpQqY20zXzqAyE7fGh,!jNW6rM46Kcv27S0LPWaDwI<5P>=DO+A7,EsvBju3a:xCtP3.W1u,d4HuNBntbAwh*58^=E<iLz^AB4RN7EO*4n1q=%wyF1a7Ba.kQoYjNpT9!C&9>cSOE19W7>F8Lg<1A1l$Z+wfq>LIHGmKRunB!2+N;oyM9!39SV.?>13F4gGd7M2MgtU!NP6BiOtmh&A^5In:gCBL08xN3I$$lu0Sf8rHm*j9ioRGKBB|2:q7&!XQL5*?5ErCJ|4ColUB;rN5!p2,yph:2JbZzO*ul0S!wVP%kB6%|dJ3i<Z8~O+QWPjEL+SdDL,kqAAZ:9BiDF6;eV;CbYZJpeyxxawsKo%uBr*kp8H3F<Uc*K7JTg<<$4W4kX<i~,nY1IosolWOm3ghK,CO|33!;*G6?wI5vajzIdkxB~AP0sS9d8y~eIGRBP6sx0775:|4~3ysF!lO1bHBFMnmZ96kI0~bWk8B9v=O;<<5AdZyi2<b7Qgmf3Ik3BHx;Igq0e23063vNpdIaZOD,FbDCCq:x,Prp4=e%i4QR4Lez7kCP%~3b>6X9i$wOYo.;=Rm43yKc*2UKW5BinB9L9R2!YDz=WC*5KKUFkj?!37i3>CK_62?UZ8arhy8^fIa!p,%4JmFpc*_e2,MEOVCbV5fU?<>vqmS23%l^.pz5*oI,q.4d0sW39VP?44pRE43~9=0NQ!yAXF%MOQMO3rKzBQ.%niLu<1peI_?~Hv6wb^H6UCOBEusB|z*fM&ShfiBj^3_*Y_CaA5IQ,m^pOiNDuLH*XTTQ8Z*?Ag6j~IVzU3Ynyr056INsg,F2VxLbF?8J2P!mw&59$5MEspr!NH2YjegxKR47CDgW4CJ4Gy2;zvX%r5d<lkjL:m7uF_<eg0u5Uuf0jtWM3f+yxt7sP7JEh>GSx,0>UE|qrto1^oc:rez:G0i!1UCX|MSTA&.7yDB.v2P*1AZ2.R4Ta0Ug0E,xM!?VkAUAzXLe8+N?qW0&X8^1oIvoKA^&5eBPxNd^Z8_<=hCk?M0yz:~yxGz3gl+*Z>ygB:32f6kG7PBLD&kUu~8s?dQDCga1ujBeV|dl9NZx;>k$>9k^DR,:>>cOUldmfmf4pc5i3ErvAj0XCBTG+LF&lzy6hP16&NUTsyGEli7~&~cjMSldg!pF!Dq1,ATevtK=G4DNoJM22BxhIZu>4h4&D0Bf;2JcvcuZ~E8KBZd*GMt6=:^fAzx*7f^|CRiRX5.K%=:oZaE9OG+o2v.T657NW1aj1lgGUF?x&4k:RD.$lfDo^aqTPD&0^|1uhPLzSI_xxJA3d0gf6;UNp_FbHmc^t&u1T$zoI+E>P,UC<pa:R2MC~!!;*t3A8==+fcN5BVo4TF+oCL7CGAl*v6QqwXABZq2iN|WwSv31nCc,S&B|6y,sX96.J7B4VzPGyv3M~v.tZb,P=!R2NK?cHrveZDaeD9jft>OkDi5.5tz2EVgDg9t&YGkVM<aZ>3~41E$u?fg2<nEo3k=34&n2&Pl8~OFA1?uRiAREp56sw>g>:5C^G8?$M9n3VNk^.FDU5%Zr6xTg97xu:P8nM71o.~eP9YK5V+^6i$h&1f1d*D3lt5bh0LDM!vQb8t::Fxo0ojNpjczv2~NoDb9NO4fQ4pVA9Q18rpVDmu98qhuZAO^p1Eusjb|F~KyjOf:lFUCUeO9qVYzLVgDBRDUh5,Z8u&g+wPSbBTfP.05J=P&_JVk3q&gLZp7q0.5uar|H4Mre2GBss%9d01n29wPI+BCi;QOj1FaQL11:U4R,1~RPNl2Jdw;!H:t1<KPS&3|n5Y6I3>hgn0p+fGsp>;VBHeJvoMY2~KU*eFli0xu$sZYG=6yDRIe9!29Eua~S|2i0gPl8~Ky10K;S<8qYTL6|%qkHW.O1?U.RY0d20zrZY9f546s%VUqZE2=,gi.vZ=0G2oE|7!t8Uj|atPkC9bmtHRi~+7ffnz>55dNQ*mkrP0s828:*Ld|f4AaK8uqoD1MjuByNWc6XJ?Q83JeL_.SPOCfA0!&BH26D?1n>oA:cIY5seJWciqA9ts98NL%t287NnUA;y4kJO*|81UY6m7a,:Z78Wm=t6D>vDBLUyk|4ULYD%5FzcZ3!?Kx0d;,0C910e,710=0AQW:<G0p!mO&~S<DP1gGSpzc2Ui8o1RB:4FbrmRL^Z1tBmPAeoeAT=DKgR4a0mOkG2;XsJ0+7VYk&%58mmjHTp|FTPx.o=fU1w~ycPYZDAT6CNn>dC6A2hmZ,+Q06~MHR?3U6YDqSra5Z0+yq0vfhh5ehI8Uk&M1Kh2cvGFN7;^C&^QIY6mSv*VoKN4Dkf=qJZ6D6z?y<LFTGYY,YMJwa4lVekR9dD4hL9_9qT0I~D!=X$BP83pDvZ+>m4OnO;x?uJOAc75.RPQCe|9,bB.D5ywq.7kbONT7v^h=3cSw.g7;1IMI2K=I;&?g1oW8Fp^v!5<q!&D0?^4OU,=hKNF4Aopiiq$c6JVe<!5O558T?D6hHH3n;N&C?6*B8AmA9MQ?0f+>VqM8T0<Cpym_BB0WFbXDe860*_j:>XA9Ty>7itYKT3WAVcEA$I2XrDD$I%1BRaYW:tby4Yv<$!Vwp0!nh>+^n.nGZ*X_$^|H%P4BJ=xM4&XRlV4V34,Z%^0:?R5Mf;e_8BQ3BUm?vSnz3fMRhh:<S1KRwXzYvNSd^6+6dmA5u_V%e6^H1&Xdzov?.5Qg|q|$,n4XkNn.HAVF.WrvLkCbDu_8U+3Z+5de5!c^5Qb7&V!efdeb=x2B>k,m5EsgV$UfN8;:d<LwMu0YbA?Gnyf3poupj15wCWxe3&sX!JL_k1;~,9W^%L%QMTU8^Pc.XRiqEgg&OMwN!81Hg7c8!^9O_r.5?bHBCmHLde!ReUMEC$e513IFJA7L0YA=Nsa5V_20h:k;I,ph7^*enpNzV7Q60:OIPXLw,If6gq?2jN=+jTL;XPQ9:%y&z8psVxt^f&9BCwi97SpBJlnycB4:BVlw$avoD2__.26zO2QT>U~V6,s1cfr<if7g1=2Woc^Ho3Zl6cLas_D!X_IYPMg2:Qvpl~FT1JX%r9^oD6xGWH41if28.1vaRKX00p%P8x_tIen:fs|Z05pyK9LK>$O&~t<T!Sl3^9n<L+sJ65=MG:j^|2cpVl3$CR1k|xmiYNQ0rp!WP|N19LlpK|NYn6s7bAUxg_JXUn?|M,lPgGtVir1v0X>2~,~1<Xi+Mr|Pi9DgpfW=SUjDO.C%*hLkCP4&j?Nuf01^CI>JP*e6g.k^W!nKeH%SxVQD6AU;JRZcu4:.OL!:Dv2<ikYY30eBlQd9Th~v7jIBRgpAb6e,~|Q9&;0lsHqTPmE1g!knOybe0^WcK4e3C6lH8VindQ7d^~8bAD83hI*V:NR03,gBDQEvM2G?Ehw6Th5uTqgYmzr6^Cc?ETlj4MVCao~J.8%2;8fJ>FL!9<+$JPr54jl0npz20F;+t7MFm2qfRo8Exb4sFsEPT5t4UKKCnv1d4ab^<>LP;0uzFxZz|+2u4cynls39h%fl_6Gw5U<Jw?O>$3xc>NBUbMCxEi>ED1V6P%3y.rl%C|;P%6rT,B5~^$!8kw9VGhuf9U;9J5Oz^kUs2>w!M%pQ<2rP=B^|yUa;fy.v,=|6;nxp!fCL159aOV^AI08djIiP558Tcv,tB4t5D0>?mZy;GKFvQDqxR2mcft<2a>5N^X0&SbKGi&4GF3d<W<|f~P=!8BMw+$_:iL1+nHjESlEA:uIsxVB3A0BuTObvs73u~6m3eM5T7!KWgNN3D.:G_J12C$MJvYzXFG1jSmypg!JRaZVQpZ:ICpkjvxhIJv91>ib.KKau%UF4?$M9iZULje+2fjx^zj!Q3Jll2:ShUFD~FAuRxu6DwsrBf!KH>WITt3Ru9fD6iSfctHAe2Vz.QEAff*W0R$M5FNiHMk?31tUx_y,2Y0OcP,<P.209t3.FYDE1j07VdC!|7,%p*k$:>42OW*+,596+Q1Wb6w%16?bRR&d=LxUqdc2poAWXsi>%NP1:$2,G82&6kjwHv9ff1tBhUlCz16dhMxYLs30~|b1hDDB3b&bnculqHL.Q19kdM3ZD*m3_z40*VxECCq&0TYTwGGh&Cfr,c|Vk86sI%d+<PN3x|>ZO5fZiOBzi%L|D80rgSLyjCCDAS&3P,cC,^*CPxG^a.?E$A;uTHZs3AS&u,btqETv&Te5%.Fe5?6%1E|;$I$Aa1PW<WN9K24H+WB=X$bJ1|!N7Rxs2Ju_ZC!GDLv3yDWy2$2=OBc__Y4CRP*oV=0%71hp7v~s$29l$4snjc3_K=AEDTt6G~A=Gc!C58SxNVIkkS%^1wrv>CERCe?om>N6Hz,H<igxIZp.sLmupeF1zNM_3kB%~^ha3tD9l~%:x_J!62?VR3Acd7Ii$J&dxP90*MnKX$%AQ4o8Zbx74qiJYdLkI0GW1WV37naO.YEzClH0fBjNeA.6F!E7rqEqeVBWf:DnZV2vU:W=HoS9J5sFh~To3wH0!Pa2D1^JynSq~b38;VhZUZP50wU;eAt69W|xVaSnP3pE%PXUfa1i:66LgC7Ef9o7ixQ_3mkfFY;YX6X|Fn3wqz9;v~Mz8O9A%oTpTs6NAD<zuVd,uA$$FWJ=D3NY.Ib$Dn30,DFeQAQUX2Mxxa23a1_6A~l%c80^b6U8vU!19+XE!=;q1um8,A3Of2i=peCVc;JcrG^1pj5GB=Q|Gy:v27d^M%Djj3Fs.r!!c,HaKgEw?X^Joeun$uqx0%?NUj3p%1IF<B<cVcBN|cXjdYOH;Uh?8jAV4nnv1T0;y7ygE%wR!R5A+K|Zyq1FB2*qJRaS4P.hPPk8=A|L5n%u*M6GS|%~nov2.~tv_rbE4Jl|WYIeP0!:%.9!G!Gt_*0PTfM2LEcvVwVOGo&j%Ug70OAp:JHi%GA3|>Huij65wUO|T+wfCtNGHmOK,2JO$T.SxaTCdJ_?wp6DE,?my8ku6zoYEmsXI4Cgd7SYE438ps4>OLp0F87r55dd0Gk%Qb0M*D.bdSFjkL8Ygq;scDt4+|&5;s<rMy%:L$|^L0.pL&1a*q5i,LUr<PW9n=k<0d<N6?m,qiMTa7o3QnQXSaGS:Ttx46b4IN00f5pV0*vZ,UlPdMI;$jjwhXCrmT|dEj:3PMV.Q3;v7JlAg6u2Z2iHwaX<5r3GgS|l>uGBi5,ft3ff1Fp&Xzl.YBb~&d.pLjNT|bOp%;;J.PpQt1=vD_FdiM8Rp1n4|<Wo*bf|kmMrVv03X;_gDaA!MtvYSDG9e3WmZ?ynd10M+^RcRX2EXnJM??F<59dQL90C.apdvYpAT^2vj4>;N>B3=Cpm0C?e4oqGw4woK3iGaah4OW34IY1rjU&57>u:tf;!6sh:LtYv^41RZmTBQs4||%=P!bwF8rc0WWso0UBs;!yGsG_Ld.$Dx=GU=I0g8Sn3vIQN94k^1F.G>cn&c35y8U?lZIC+riYjFudEu.kfTrt4JTDz&pS,+I>&bRU>VqBOErk6LbHHog1>7f5*F2%ihr<qk2QhR>q9~0JV_*!,giS60ySk~gf<8S8$~KoO0k5;%uAkl>Cv7iNiVZ48,iI!hIW?0R557F*~H0LjNIkYGU0>0IWQa~m1^Gd~oqhO1Telb~%p04wftPQ:9F3ftiEufJ8F&^>xwn>95t&c%aOnnH&X0iTku>7U0WMj*JuLJd|ICVcLc0ZsTlmBr2Yl77cGl17OKg5dzqO8ETt*Y5*u2dhk8,>=|ew3r.y0Hb5eSm_OejD3kU=+57z6CQAjp1HZP7x1M,M:sEG&MIT<J6+C8f00>P&D3J~Cg,=QO1CwD32Ypz0$~OD?r,h2q2kzV!r*CESFxs$j85W0ac7UX+70!taZS.%0+pw8x9y7EL9RuLw*&2m9D%?4.:7McW~8u|NBbXWqe&3>41t1$E;uh5INqg:9G.0wu1>PXUV3A&,vLVan3S<q5hWjfLE2$dBvZ&85qZi5TjhDCnNu4Cz55rWO0?AEp80n;XzvOg6S;*a$ivI9ZPKh*U$i26HXBDHUp3BWuV.9+i9:FdWR,f6DFA&c*mZ_E?_^+ns!R0kNULl;r*DZkR>~Ra.1A.dH%,<IPW<Iq%Y>m3eewFM;f0AO3|nj|iR2>z4Sm<YuQTmwv~O6b8o=krv~5357oF8SGam6x^Oje!bv7y32^cw%4OW7PJCP6;9tm95XvQ$2B;Y:X5mY5Ce999OfF1k3=|U8^S6MK6TtSC$7i1qh,5jN0ey&9;;e^JuQj+cHvS85Y850s<uVaSC1m^R+3m9|qU0hXGat_?^Ft.0h.9YAN3U1S?SDmdBBHnCr1lO7V8qxIR7&C,8.vi.~c8p9BCCyGnvw1_!RqPBC2BFyS7i^R,aa59;%g0AB,,pWpbp<PGm<M0faT1g5sWn!0m5K~D64>6%1pQo30e7V6B=6du+E<1WqdK=u.S90sgp&Msm6xUey9~l78fo2WH!kLFZNjx8U_l2|K4jgHFi6|Y=$EX~<3A<ZhesUcDAu5bMBjo8lehLXajh7D%Ur,K&d4zFv&gV,dDvwg$a;o45^Qhgv2Od6OEJQ^yL|KRRu0;pm,0.cZE338~8P*GW0bH43<_3wYw%cLcZhX*sV,8=srt6cKVTW>!EZlSR0;A%HYXZ?5wo~iqhzqAraE1K%ZA1PtoE!iu72+v<ph2<$4M3Y+*Mw6Ce7<hPz$bHP2fLjQ^+09y$|<^c!04sYCO|FZ1H=<T%^Ww4Ou;R?ozzBF8lxe|3%6v,HZgHps9?!+M9:Ni0TVdNn|QM1hsdX=7=^6?Vu7|4+%1H&sb3:oe57j_%15342^;.F?p3|50k.<clEZ8xlpVpqN$9?.<<F0bzK3l,v%nai0YE9~N5|SLyid5Ar;&7~:D8%7Gj6VLVpevWz1D!SRnHIof1LWcAUVx5KwDw?ZXf0m;p5DL;sCK^w$H3zH0~>VSmVCORC>tzmA?A9wDG+7bmiKIgA8mB|u2O+b4G0~ygWG=n1Cnq6I%oATQv78sW>=d|*N0Nzz=HbOf6=PsK2AMg8Z.D;>spUAUBHo4r:e59W43sH=W4VM;d?Y7yB*MVqumVV6F<PqbMfFG3fg~>s|;1WyhRfPTv2<XBH.Dl<5$7burCde1k7GJo2Zk9x5d8QlU82lvMnfS+.3sx;fczIS4=19P~=7o5?0lhJNnq8j4zr.F_AAq=49.Dq+D^^y4DiJo0kM>0WpFr2NuAA$zB~55c0nS4iaO7JGGw>1C1jPZ*eu%pEF,*3;0!~F5tChPxZREDrGnClp?6ka1MWB!?1OabSBah02u8HK>7v.9iFPEX:*x2fr:GHu01J&0x6h!j30rSKOwn8*6!!b!X*GoZJTRXe$B,4z$Oqp%iA0r_mS4!p$B!oZf3z+gE6fSj^Fr971HVBi&0=0;~S<Dyp63wX9vNPzA5Zoz8YVlk5q4w7Epfc4W|<ruFJ;KF7*;9$mb3Ka0T$_d$F2Te0ojqM8Fsnc^ko!46YWjp8cc2k!4p*33RjQiBQQp+&1N9e~Q_|N9&+9v|ZH*7<~5TWVq%3,m8D;iLyKi;6!%ZE~0JcVfBK_d6IyNCaUzg0?rq|Xe=Y0_X,p0.S>6782^?hzqClvEs>gdeAtbY8Eyj=ZLr*t%Akm0l&nm;OVe7IwZW|hG31!0hwN8d82L.GKxZmJMB0~hep;z14TGJqyJ&4A_XVDOZ04%PL3878dD<hAn;Nh+1Hl7W|p2L8ffu|GpKn5ANAL535Y0A$uiFAZ:KEjK<S2bOPZ&kxmmYsApX0j!%ud0y:vEvIIxEM3gTrL??50UACGfr586zLrEBs22iED.%oSQ3n0PfXLg63jL;gVfz07FOF&*SJR7d!=s<,dK0|ROUNZ044&gLWI8El2V4$6%TpH1~hsl.sTl9PYMq_:dGM,QeQOnxdCg!8B8q%h56~tjDJXy7<exPu8Um8h~X~?*78EQ%On,T%W48fMLT,MC5WT$Ai+xoTSt&!o7,|Gd5Nti6vILyMSIg,l~0DO>S2r2mNyXko<hqG2p%9HtcwOEFhK0Ljnd13<Ha;~S1B7&Brw5n>6l5h*zy%mAW<A:gj~5F5uA>04Q|IiXMfgTIkCXvCZHsjRDzSSnXS&U0Ia6!qtys80tC?Q__19+GpRHyCkAEO;o?Dr0B+:pZ8UpAAlg9^b1ZxIlB_>5Klg3z=%Nyn5!D0^4+6^0.0Q5m36ZU+8v$!g7g2a29OM.IG%56DnIGosLh0_?=AOzMp8HUMXeMh7I%GA?v*4RAahd^_a~N7|w5T^lH87%RY>Eoi!1e0gG33,W9Th059AN|0;=aIld^F0v4zE2fOd6p|rt5DR3E?Kw7o;NB3OROG0j0v5DZaQs?As9Ku0M:~t90gD&AfJB14>3N~Q*O.1?lH!p8G!2rX2dOx:XGL$x;58TrSo%;pBgsz5&tzKkgiq3GU;pkYRf1>gi$4HHuKbuD88o;jTwA4:tnA|P*E_dJFO&8GSs!dcH~7Z%+kHSi;Fo*Ksgv5^03cn*Y3Jj1>fm?XIUz6fG0H8l;EE~&VInWB3G?6xIfMy32W.knXO943N:A83HJUZ5YgKAp+_FY+d8YbV,9Lv>g.?NE2Z2BOw;bQKgtNamIviBSdEK63k,7$xID2~CZ2+<*<NOwD0_1RffFD48Q_h.63&P6FpbERd5x1W;rHtX+I2dFqa41p,3O|8LCZ<y0z6drar!QB+Ungkfb;5l^Z6GfxDD*h;wL0L.29ucey>GxEP96L8mAdB6SErWl145l1Dh6<BC1oiHcq~79JsYiL$cl7Ie;X4SxW62Yp758Gk93Y.zzUFyX8lo*0R$+F1Iz2Zp?_34K3Dn_Ok|3mPYNDxMk4:wb|?V|i0Uz^mvhL^5;uv&4Q_YE3m5X<AnPA;EFCh~n77_~$AHd.iKwsd~cjbX6**o1e^XIM:cUGchDF28iY^c.Zf3~4Rg|Vza4C5tc0_mrEHnzyl>R_32szgPNlE04mNhyYo12p!~$ZRT~JbtA~4C7>007oNAR^>2>jm4FT7BQw7inT.^>1>5Dm*8sDM_7g977%>Co$%FI5b:G2K9~:yiPC6L;Xa<GwQ^lJgzQx51_yi9~OHlJcz?JRHdbK7TOV|b9gICXB8&kJMTV?Apy>J*Bg<DsN2$h8Q8htjQ_+DpPl69l|N09aCZW%E!1<3VyMe07B|naD<Xr>56.WuiP&v1O%PxSWK!4vMc<5OSR8kBBAg4!91S?E&JRu:4E|gHu11~J^c,%j7nuJPaHm8U$^0OQZqFM5rfI_8Q,&;>0kznRJEH+6B50;q*0n2A%RMCS$kY;WQtMGS*0J^v||26vFJRpvNLe20|;_YmLudLc7&I|oJf4fInfc3AlFWk%vuBl|DJcMouX9n6U7Y3+mOD4W;IZO!R$NBD|>STUd7kJePn$qa57Tf^mb.J8Elj+.Hq46koMrW1GB2x;XVkkIE2pQaBdz3a9w~y+F^Di42!^zVllLVnD,WJJi30XcRj,n_f3fMs4zNxw7c+,z_2a25R?9wslYQ1olFgcJ7v3^bY!75JVFXn041w114a3pzvT1M9PQ640+7a4,~EI6C0v2dvL*&Hx$»
end PySem.W.Fast
set_option maxRecDepth 100000 in
set_option maxHeartbeats 0 in
theorem PySem.Challenge.cw_whistlebook_k37_whole_taken_back_holds : PySem.Challenge.rw_whistlebook_k37_whole_taken_back.Holds := by
 w_on;o_law;k_head;(case hw=>w_witness2)
 k_fill
 refine K37.walk (l:=PySem.Challenge.rw_whistlebook_k37_whole_taken_back) rfl rfl (fun w h Y=>PySem.W.kIn_of Y) ?F
 case F =>
  intro w mg fa h KX G hmg;apply K37.zmf KX G hmg
  (case zt9|zs0|zr8|zqy|zrc|zq5|ztx|zsr|zsj|zs9|zs6|zsl|zt6|ztr|zqp|zsa|zul|zun|zux|zue=>(show _=_;k_is))
  (case ztp|zt0|zsu|zub|zth|zse|zst|ztn|zt1|zur|ztf|zuc|zt8|zto|zrs=>(show PySem.W.excIn _ _ _ _=true;k_exc))
  all_goals first|(show _=_;k_is)|(constructor<;>(show _=_;k_is))
#print axioms PySem.Challenge.cw_whistlebook_k37_whole_taken_back_holds
