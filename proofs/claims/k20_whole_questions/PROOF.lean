import PyProof.Rows.All
import Wide.All
import OpenK.AllK
import Wide.FinOn
import Lean
import PyProof.EqAt
import PyProof.EqKinds
import PyProof.TupleCall
import PyProof.AutoIntG2
import PyProof.ZipIter
import PyProof.Rows.ZipGen
import PyProof.NeKinds
import PyProof.Rows.SumAny
import KE.KRevIter
import KE.KRevSl
import PyProof.Rows.StrJoin2
import PyProof.Rows.Range3
import KE.KMinKey
import KE.KDictLaws
import KE.KDictList
import KE.KIntText
import PyProof.Rows.RegReprOcc
import PyProof.AutoSeq1
import PyProof.DictWalks
import PyProof.MeetsIn
import PyProof.CallType
import PyProof.Rows.SetFrom
import KE.KDictSum
import PyProof.Rows.SortWalk
import PyProof.FString5
import KE.KLam
import KE.KNestM
import PyProof.AttrMissHeap
import PyProof.FactsAll.zip_1
import PyProof.FactsAll.zip_0
import KE.KDictOf
import PyProof.WalksEnum
import PyProof.EnumMake
import PySem.Challenge.RW_tightrows_k20_whole_questions
set_option Elab.async false
set_option linter.all false
set_option maxRecDepth 100000
noncomputable section
namespace L2
open PySem PySem.Spec PyProof.Rows
theorem az(n:Nat):n<=n:=Nat.le_refl n
theorem aS{h:Heap}{a:Addr}{o:Obj}(e:h.get? a=some o):a < h.objs.size:=Heap.lt_size e
theorem aX{n m:Nat}(h:n < m):n<=m:=Nat.le_of_lt h
theorem be{a b:Nat}(h:a < b):a≠b:=Nat.ne_of_lt h
theorem bU{n m k:Nat}(h:n < m)(g:m<=k):n < k:=Nat.lt_of_lt_of_le h g
theorem bY{α:Type _}{a:α}{as:List α}:(a::as).length=as.length+1:=List.length_cons
theorem bE{α β:Type _}{f:α->β}{a:α}{l:List α}:(a::l).map f=f a::l.map f:=List.map_cons
theorem al_ae{α:Type _}{p:α->Bool}{l:List α}:l.all p=true↔∀ x,x∈l->p x=true:=List.all_eq_true
theorem cL{α:Type _}{l:List α}{i:Nat}:l.take (i+1)=l.take i++l[i]?.toList:=List.take_add_one
theorem d7{α:Type _}{n:Nat}{a:α}:(List.replicate n a).length=n:=List.length_replicate
theorem bL{α:Type _}{x y:α}(h:some x=some y):x=y:=Option.some.inj h
theorem ae{α β:Type _}{as:List α}(f:α->β):(as.map f).length=as.length:=List.length_map f
theorem aG{α:Type _}{l:List α}{i:Nat}(h:i < l.length):l[i]?=some l[i]:=List.getElem?_eq_getElem h
theorem ao{α β:Type}{M:Model}{A:Around}{E:Value->Shared->Prop}{s:Shared}{m:Sem α}{f:α->Sem β}{Q:β->Shared->Prop}(h:wpAny M A m (λ a s'=>wpAny M A (f a) Q E s') E s):wpAny M A (m >>= f) Q E s:=wpAny_bind h
theorem al_gs{α:Type _}{i:Nat}{a:α}{l:List α}:l[i]?=some a↔∃ h,l[i]=a:=List.getElem?_eq_some_iff
theorem aH{α β:Type _}{f:α->β}{l:List α}{i:Nat}:(l.map f)[i]?=l[i]?.map f:=List.getElem?_map
theorem aO{n m:Nat}(h:n.ble m=true):n<=m:=Nat.le_of_ble_eq_true h
theorem bn{α:Type _}{as bs:List α}:(as++bs).length=as.length+bs.length:=List.length_append
theorem aE{α β:Type _}{f:α->β}{a b:List α}:(a++b).map f=a.map f++b.map f:=List.map_append
theorem cR{α:Type _}{l:List α}{i:Nat}{a:α}(h:l[i]?=some a):a∈l:=List.mem_of_getElem? h
theorem bf{h:Heap}{a:Addr}{o':Obj}(o:Obj)(e:h.get? a=some o'):(h.push o).get? a=some o':=Heap.get?_push_of_some o e
theorem aU{p:Prop}[Decidable p](h:¬p):decide p=false:=decide_eq_false h
theorem aV{p:Prop}[Decidable p](h:p):decide p=true:=decide_eq_true h
theorem al_mc{α:Type _}{a b:α}{l:List α}:a∈b::l↔a=b\/a∈l:=List.mem_cons
theorem bV{α:Type _}(y:α){a:α}{l:List α}(h:a∈l):a∈y::l:=List.mem_cons_of_mem y h
theorem aT{α:Type _}{as:List α}:as.toArray.size=as.length:=List.size_toArray
theorem aZ{α:Type _}{l:List α}:l.take l.length=l:=List.take_length
theorem bc{α:Type _}{i:Nat}{l:List α}:(l.take i).length=min i l.length:=List.length_take
theorem aL{α:Type}{M:Model}{A:Around}{E:Value->Shared->Prop}{s:Shared}{a:α}{Q:α->Shared->Prop}(h:Q a s):wpAny M A (pure a) Q E s:=wpAny_pure h
theorem al_mp{α:Type _}{a:α}{s t:List α}:a∈s++t↔a∈s\/a∈t:=List.mem_append
theorem bC:false≠true:=Bool.false_ne_true
theorem cG{α:Type _}{a:α}{l:List α}:a∈a::l:=List.mem_cons_self
theorem al_mi{α:Type _}{a b:α}:a∈[b]↔a=b:=List.mem_singleton
theorem d5{α:Type _}{a:α}:[a].length=1:=List.length_singleton
variable {P prog q:Program} {w:World} {A:Around} {E Q:Value->Shared->Prop} {s s' s2:Shared} {its its' us vs:List Value} {name p0 p1 qual x y:Str} {cd cdv cls ct ctv doc oc pm u v vl vu:Value} {α κ:Type} {C I S a b c c' d dx i1 i2 it l1 l2 z:Addr} {base h h' h1 h2:Heap} {e elt iter tg value:Expr} {pins pins' pn:List (Addr × Obj)} {g':Array GenState} {i j n t' tk:Nat} {d':Drawn} {ch fp ts wr:List Addr} {N loose ps:List Str} {M:Model} {R:Result->Shared->Prop} {f:Value->Value->Sem Value} {apos cpos kpos np p p2 p3 p4 pos pos' py spos tpos:Pos} {op op':CmpOp} {K:W.Frag} {st:Stmt} {elts es ifs values:List Expr} {body:List Stmt} {l:List Nat} {lo:Int} {hi:Option Int} {pl:Sem Bool} {m mA mg:Str->Option Value} {ns:List Int} {kw:List (Str × Value)} {env:Env} {fd:FuncData} {outer:List Env} {ks:List (Option Expr)} {kindOf:Str->Option NameKind} {sc scope:Scope} {an od:Option Addr} {osl sl:Array (Option Value)} {items:Array Value} {XP:(Str->Option Value)->Heap->Prop} {YP:World->Heap->Prop} {B:Prop} {bt:Nat->Nat->Bool} {ar:Arguments} {cl:List (Str × Addr)} {kv:Nat->Value × Value}
abbrev Key:=Sum (Option Int) Str
def iY:Key->Value->Bool
 | .inl none,v=>v == Value.none
 | .inl (some k),v=>Value.isInt k v
 | .inr x,v=>Value.isStrOf x v
def zbX(w:World):Key->Int
 | .inl none=>0xFCA86420
 | .inl (some k)=>hashInt k
 | .inr x=>hashStr w x
theorem fb:∀ {k:Key} {v:Value},iY k v=true->(k=Sum.inl none/\v=Value.none)\/(∃ i t,k=Sum.inl (some i)/\v=Value.int i t)\/(∃ x t,k=Sum.inr x/\v=Value.str x t)
 | .inl none,v,h=>.inl ⟨rfl,eq_of_beq h⟩
 | .inl (some i),v,h=>by
  obtain ⟨t,e⟩:=Value.isInt_shape (k:=i) (v:=v) h;exact .inr (.inl ⟨i,t,rfl,e⟩)
 | .inr x,v,h=>by
  obtain ⟨t,e⟩:=Value.isStrOf_shape (x:=x) (v:=v) h;exact .inr (.inr ⟨x,t,rfl,e⟩)
theorem zbY(i:Int)(t:Tok):iY (.inl (some i)) (.int i t)=true:=by simp [iY,Value.isInt]
theorem zbZ(x:Str)(t:Tok):iY (.inr x) (.str x t)=true:=by simp [iY,Value.isStrOf]
theorem zb0(a b:Int):decide ((Sum.inl (some a):Key)=Sum.inl (some b))=(a == b):=by
 by_cases e:a=b
 ·subst e;simp
 ·have h:¬ (Sum.inl (some a):Key)=Sum.inl (some b):=λ q=>e (bL (Sum.inl.inj q));rw [aU h];exact (beq_eq_false_iff_ne.mpr e).symm
theorem zb7(a b:Str):decide ((Sum.inr a:Key)=Sum.inr b)=decide (a=b):=by
 by_cases e:a=b
 ·subst e;simp
 ·have h:¬ (Sum.inr a:Key)=Sum.inr b:=λ q=>e (Sum.inr.inj q);rw [aU h,aU e]
theorem zb3(b:Int):decide ((Sum.inl none:Key)=Sum.inl (some b))=false:=aU (by intro z;cases z)
theorem zb4(b:Str):decide ((Sum.inl none:Key)=Sum.inr b)=false:=aU (by intro z;cases z)
theorem zb1(a:Int):decide ((Sum.inl (some a):Key)=Sum.inl none)=false:=aU (by intro z;cases z)
theorem zb2(a:Int)(b:Str):decide ((Sum.inl (some a):Key)=Sum.inr b)=false:=aU (by intro z;cases z)
theorem zb6(a:Str):decide ((Sum.inr a:Key)=Sum.inl none)=false:=aU (by intro z;cases z)
theorem zb5(a:Str)(b:Int):decide ((Sum.inr a:Key)=Sum.inl (some b))=false:=aU (by intro z;cases z)
theorem zgt{Q:Int->Shared->Prop}(h:Q 0xFCA86420 { s with toks:=s.toks+1 }):
  wpAny (model prog w) A (PySem.pyHash .none) Q E s:=by
 have hT:s.TypeIs .none "NoneType" := rfl;unfold PySem.pyHash;have hv:[Value.none].any Value.onHeap=false:=rfl;refine ao ?_;rw [cRoomFor,if_neg (by rw [hv];exact bC)];refine aL ?_;refine ao (wpAny_specialOf hT F.slot_NoneType_hash.lookup ?_);show wpAny _ _ (if (some (Value.builtin "NoneType.__hash__") == some Value.none)=true then _ else _) Q E s;rw [if_neg (by rw [beq_builtin_none];exact bC)];refine ao (wpAny_specialOf hT F.slot_NoneType_hash.lookup ?_);show wpAny _ _ (callSpecialIfBoundUnlessNone? .none "__hash__" _ >>= _) Q E s;refine ao (wpAny_callSpecialIfBoundUnlessNone?_slot hT F.slot_NoneType_hash
  (wpAny_call_entry F.slot_NoneType_hash hT F.entry_NoneType_hash
   (show wpAny _ _ (do ret (← mkInt 0xFCA86420)) _ _ s from wpAny_ret_mkInt ?_) (F.args_NoneType_hash_1 _)))
 show wpAny _ _ (if (decide (-(2:Int) ^ 63<=0xFCA86420) && decide ((0xFCA86420:Int) < 2 ^ 63))=true then _ else _) Q E _;rw [if_pos (by decide)];exact aL h
def cO(prog:Program)(w:World):PySem.KeyKind prog w Key where
 is:=iY
 hash:=zbX w
 inj:=λ v a b ha hb=>by
  rcases fb ha with ⟨rfl,rfl⟩ | ⟨i,t,rfl,rfl⟩ | ⟨x,t,rfl,rfl⟩
  ·rcases fb hb with ⟨rfl,e⟩ | ⟨j,u,rfl,e⟩ | ⟨y,u,rfl,e⟩
   ·rfl
   ·exact nomatch e
   ·exact nomatch e
  ·rcases fb hb with ⟨rfl,e⟩ | ⟨j,u,rfl,e⟩ | ⟨y,u,rfl,e⟩
   ·exact nomatch e
   ·injection e with e1 _;rw [e1]
   ·exact nomatch e
  ·rcases fb hb with ⟨rfl,e⟩ | ⟨j,u,rfl,e⟩ | ⟨y,u,rfl,e⟩
   ·exact nomatch e
   ·exact nomatch e
   ·injection e with e1 _;rw [e1]
 byValue:=λ k v h=>by
  rcases fb h with ⟨rfl,rfl⟩ | ⟨i,t,rfl,rfl⟩ | ⟨x,t,rfl,rfl⟩ <;> rfl
 pyHash:=λ hv h=>by
  rcases fb hv with ⟨rfl,rfl⟩ | ⟨i,t,rfl,rfl⟩ | ⟨x,t,rfl,rfl⟩
  ·exact zgt h
  ·exact wpAny_pyHash_int h
  ·exact wpAny_pyHash_str h
 eqBool:=λ hu hv h=>by
  rcases fb hu with ⟨rfl,rfl⟩ | ⟨i,t,rfl,rfl⟩ | ⟨x,t,rfl,rfl⟩
  ·rcases fb hv with ⟨rfl,rfl⟩ | ⟨j,u,rfl,rfl⟩ | ⟨y,u,rfl,rfl⟩
   ·rw [aV rfl] at h;exact SeqAt.EqAt.same _ _ _ _ _ h
   ·rw [zb3] at h;exact SeqAt.EqAt.none_int j u _ _ _ _ h
   ·rw [zb4] at h;exact SeqAt.EqAt.none_str y u _ _ _ _ h
  ·rcases fb hv with ⟨rfl,rfl⟩ | ⟨j,u,rfl,rfl⟩ | ⟨y,u,rfl,rfl⟩
   ·rw [zb1] at h;exact SeqAt.EqAt.int_none i t _ _ _ _ h
   ·rw [zb0] at h;exact wpAny_eqBool_int h
   ·rw [zb2] at h;exact SeqAt.EqAt.int_str i t y u _ _ _ _ h
  ·rcases fb hv with ⟨rfl,rfl⟩ | ⟨j,u,rfl,rfl⟩ | ⟨y,u,rfl,rfl⟩
   ·rw [zb6] at h;exact SeqAt.EqAt.str_none x t _ _ _ _ h
   ·rw [zb5] at h;exact SeqAt.EqAt.str_int x t j u _ _ _ _ h
   ·rw [zb7] at h;exact wpAny_eqBool_str h
 «strs»:=λ k x t v h=>by
  rcases fb h with ⟨rfl,e⟩ | ⟨i,u,rfl,e⟩ | ⟨y,u,rfl,e⟩
  ·exact nomatch e
  ·exact nomatch e
  ·injection e with e1 _
   subst e1;cases v <;> rfl
theorem zc5(prog:Program)(w:World)(i:Int)(t:Tok):(cO prog w).is (.inl (some i)) (.int i t)=true:=zbY i t
theorem zc6(prog:Program)(w:World)(x:Str)(t:Tok):(cO prog w).is (.inr x) (.str x t)=true:=zbZ x t
inductive V where
 | non | bl (b:Bool) | int (i:Int) | str (x:Str) | byt (b:Array UInt8) | flt (b:UInt64) | ref (a:Addr) | ty (n:String)
 deriving DecidableEq
variable {acc xs ys:List V} {kvs:List (List Key × V)} {L:List (Str × V)}
def RelV:V->Value->Prop
 | .non,u=>u=Value.none
 | .bl b,u=>u=Value.bool b
 | .int i,u=>∃ t,u=Value.int i t
 | .str x,u=>∃ t,u=Value.str x t
 | .byt b,u=>∃ t,u=Value.bytes b t
 | .flt b,u=>∃ t,u=Value.float b t
 | .ref a,u=>u=Value.ref a
 | .ty n,u=>u=Value.type n
abbrev Vals:List V->List Value->Prop:=Paired RelV
theorem Vals.length{xs:List V}{us:List Value}(r:Vals xs us):xs.length=us.length:=Paired.length r
theorem Vals.get:∀ {xs:List V} {us:List Value} {i:Nat} {x:V},Vals xs us->xs[i]?=some x->∃ u,us[i]?=some u/\RelV x u
 | _,_,_,_,.nil,e=>by simp at e
 | _,_,0,_,.cons r _,e=>by simp at e;subst e;exact ⟨_,rfl,r⟩
 | _,_,i+1,x,.cons _ t,e=>by
  obtain ⟨u,h1,h2⟩:=Vals.get (i:=i) (x:=x) t (by simpa using e);exact ⟨u,by simpa using h1,h2⟩
theorem Vals.set{x:V}{u:Value}(r:RelV x u):∀ {xs:List V} {us:List Value} (i:Nat),Vals xs us->Vals (xs.set i x) (us.set i u)
 | _,_,_,.nil=>.nil
 | _,_,0,.cons _ t=>.cons r t
 | _,_,i+1,.cons q t=>.cons q (Vals.set r i t)
theorem Vals.append:∀ {xs ys:List V} {us ws:List Value},Vals xs us->Vals ys ws->Vals (xs++ys) (us++ws)
 | _,_,_,_,.nil,s=>s
 | _,_,_,_,.cons r t,s=>.cons r (Vals.append t s)
theorem Vals.take:∀ {xs:List V} {us:List Value} (n:Nat),Vals xs us->Vals (xs.take n) (us.take n)
 | _,_,0,_=>.nil
 | _,_,_+1,.nil=>.nil
 | _,_,n+1,.cons r t=>.cons r (Vals.take n t)
theorem Vals.drop:∀ {xs:List V} {us:List Value} (n:Nat),Vals xs us->Vals (xs.drop n) (us.drop n)
 | _,_,0,r=>r
 | _,_,_+1,.nil=>.nil
 | _,_,n+1,.cons _ t=>Vals.drop n t
theorem Vals.none_of:∀ {xs:List V} {us:List Value} {i:Nat},Vals xs us->xs[i]?=none->us[i]?=none:=λ {xs us i} r e=>by
 have h1:=r.length;have h2:xs.length<=i:=List.getElem?_eq_none_iff.mp e;exact List.getElem?_eq_none_iff.mpr (by omega)
def RelO:Option V->Option Value->Prop
 | some v,some u=>RelV v u
 | none,none=>True
 | _,_=>False
def KV  : List (κ × V)->List (κ × Value)->Prop:=Paired λ (p:κ × V) (q:κ × Value)=>p.1=q.1/\RelV p.2 q.2
def kV:Key->V
 | .inl none=>.non
 | .inl (some i)=>.int i
 | .inr x=>.str x
inductive HO where
 /-- a list -/
 | lst (xs:List V)
 /-- a tuple (never changes) -/
 | tup (xs:List V)
 /-- a dict whose keys are ints and texts;one whose keys are tuples of ints and texts (the empty one is both) -/
 | dK (kvs:List (Key × V)) | dT (kvs:List (List Key × V))
 /-- a set of ints: its members,its size -/
 | set (S:Int->Bool) (n:Nat)
 /-- an instance of the class at C,its dict at dx,its attributes -/
 | ins (C dx:Addr) (fs:List (Str × V))
 /-- the dict of the instance at x -/
 | own (x:Addr)
 /-- the dict of an exception -/
 | xd (fs:List (Str × V))
 /-- a bound method,f of x -/
 | met (f x:Addr)
 /-- a range object lo,lo+1,.. below hi -/
 | rng (lo hi:Int)
 /-- a thing that is known to the object (the script;a dict while a loop walks it): read,never written while it is so -/
 | frz (o:Obj) (u:HO)
 /-- a code object's table -/
 | tbl (ps:Array Value)
 /-- any other thing,by what is true of its one object (a def of one's own: SetO a S n:=HO.ext λ h=>..) -/
 | ext (φ:Heap->Prop)
variable {o:HO}
abbrev Hp:=Addr->Option HO
variable {H H' H1 H2:Hp} {Qe:List V->Hp->Prop}
def upd(H:Hp)(a:Addr)(o:HO):Hp:=λ b=>if b=a then some o else H b
theorem ag    : upd H a o a=some o:=by unfold upd;rw [if_pos rfl]
theorem aj(h:b≠a):upd H a o b=H b:=by unfold upd;rw [if_neg h]
theorem eC{u:HO}(h:H a=some o)(h':H b=some u)(d:o≠u):a≠b:=by
 intro e;subst e;rw [h] at h';exact d (bL h')
theorem aI(h:H a=some o)(h':H b=none):a≠b:=by
 intro e;subst e;rw [h] at h';cases h'
section
variable (P:Program) (w:World)
def ObjOk(H:Hp)(h:Heap)(a:Addr):HO->Prop
 | .lst xs=>xs.length<=sizeLine/\∃ (its:List Value) (n:Nat),Vals xs its/\h.get? a=some { cls:=.type "list", data:=.seq its.toArray n }
 | .tup xs=>xs.length<=sizeLine/\∃ its:List Value,Vals xs its/\IsTup h a its.toArray
 | .dK kvs=>kvs.length<=sizeLine/\(a == sysModules)=false/\∃ vs,KV kvs vs/\h.DictOf (cO P w) a vs
 | .dT kvs=>kvs.length<=sizeLine/\(a == sysModules)=false/\∃ xs:List (List Key × Addr × Value),
   Paired (λ (p:List Key × V) (q:List Key × Addr × Value)=>p.1=q.1/\H q.2.1=some (.tup (p.1.map kV))/\RelV p.2 q.2.2) kvs xs/\
   ∃ o es ep,h.get? a=some o/\o.ExactDict/\o.data = .dict es ep/\es.toList=xs.map (entryOfKey (tupleKind (cO P w)))/\(xs.map (·.1)).Nodup
 | .set S n=>h.SetOf (intKind P w) a S n
 | .ins C dx fs=>H dx=some (.own a)/\fs.length<=1000/\dx≠a/\h.get? a=some (W.instObj C dx)/\
   ∃ mA,h.Ns1 dx mA/\(∀ f,RelO (fs.lookup f) (mA f))/\PySem.Within mA (fs.map (·.1))
 | .own _=>∃ o,h.get? a=some o
 | .xd fs=>∃ mA,h.Ns1 a mA/\∀ f,RelO (fs.lookup f) (mA f)
 | .rng lo hi=>∃ t u v,h.get? a=some { cls:=.type "range", data:=.fields #[.int lo t,.int hi u,.int 1 v] }
 | .frz o u=>h.get? a=some o/\ObjOk H h a u
 | .tbl ps=>h.get? a=some { cls:=.none,data:=.fields ps }
 | .met f x=>h.get? a=some (W.methodObj (.ref f) (.ref x))
 | .ext φ=>φ h/\(∃ o,h.get? a=some o)/\∀ h1 h2:Heap,φ h1->(∀ o,h1.get? a=some o->h2.get? a=some o)->φ h2
def HOk(H:Hp)(h:Heap):Prop:=∀ a o,H a=some o->ObjOk P w H h a o
end
theorem ObjOk.lt(x:ObjOk P w H h a o):a < h.objs.size:=by
 cases o with
 | lst xs=>obtain ⟨_,_,_,_,e⟩:=x;exact aS e
 | tup xs=>obtain ⟨_,_,_,p⟩:=x;exact p.lt
 | dK kvs=>obtain ⟨_,_,_,_,o,_,_,e,_⟩:=x;exact aS e
 | dT kvs=>obtain ⟨_,_,_,_,o,_,_,e,_⟩:=x;exact aS e
 | set S n=>obtain ⟨o,_,_,_,e,_⟩:=x;exact aS e
 | ins C dx fs=>obtain ⟨_,_,_,e,_⟩:=x;exact aS e
 | own y=>obtain ⟨_,e⟩:=x;exact aS e
 | xd fs=>obtain ⟨_,⟨_,_,_,e,_⟩,_⟩:=x;exact aS e
 | rng lo hi=>obtain ⟨_,_,_,e⟩:=x;exact aS e
 | frz ob u=>obtain ⟨e,_⟩:=x;exact aS e
 | tbl ps=>exact aS (show h.get? a=some _ from x)
 | met f y=>exact aS (show h.get? a=some _ from x)
 | ext φ=>obtain ⟨_,⟨_,e⟩,_⟩:=x;exact aS e
theorem Paired.mapP{α β:Type}{F G:α->β->Prop}:∀ {l₁:List α} {l₂:List β},Paired F l₁ l₂->(∀ a b,F a b->G a b)->Paired G l₁ l₂
 | _,_,.nil,_=>.nil
 | _,_,.cons r t,f=>.cons (f _ _ r) (Paired.mapP t f)
theorem ObjOk.stay(x:ObjOk P w H h a o)(k:∀ b u,(b=a\/H b=some (.own a))->h.get? b=some u->h'.get? b=some u)(ho:∀ b,H b=some (.own a)->H' b=some (.own a))(ht:∀ b xs,H b=some (.tup xs)->H' b=some (.tup xs)):ObjOk P w H' h' a o:=by
 induction o with
 | lst xs=>obtain ⟨z,its,n,r,e⟩:=x;exact ⟨z,its,n,r,k _ _ (.inl rfl) e⟩
 | tup xs=>obtain ⟨z,its,r,ob,e,c⟩:=x;exact ⟨z,its,r,ob,k _ _ (.inl rfl) e,c⟩
 | dK kvs=>obtain ⟨z,y,vs,r,ob,es,ep,e,c⟩:=x;exact ⟨z,y,vs,r,ob,es,ep,k _ _ (.inl rfl) e,c⟩
 | dT kvs=>
  obtain ⟨z,y,xs,r,ob,es,ep,e,c⟩:=x;exact ⟨z,y,xs,Paired.mapP r λ p q z=>⟨z.1,ht _ _ z.2.1,z.2.2⟩,ob,es,ep,k _ _ (.inl rfl) e,c⟩
 | set S n=>obtain ⟨ob,es,ep,t,e,c⟩:=x;exact ⟨ob,es,ep,t,k _ _ (.inl rfl) e,c⟩
 | ins C dx fs=>
  obtain ⟨d,z,ne,e,mA,⟨od,es,ep,e2,c⟩,r⟩:=x;exact ⟨ho _ d,z,ne,k _ _ (.inl rfl) e,mA,⟨od,es,ep,k _ _ (.inr d) e2,c⟩,r⟩
 | own y=>obtain ⟨ob,e⟩:=x;exact ⟨ob,k _ _ (.inl rfl) e⟩
 | xd fs=>obtain ⟨mA,⟨od,es,ep,e,c⟩,r⟩:=x;exact ⟨mA,⟨od,es,ep,k _ _ (.inl rfl) e,c⟩,r⟩
 | rng lo hi=>obtain ⟨t,u,v,e⟩:=x;exact ⟨t,u,v,k _ _ (.inl rfl) e⟩
 | frz ob u ih=>obtain ⟨e,q⟩:=x;exact ⟨k _ _ (.inl rfl) e,ih q⟩
 | tbl ps=>
  have e:h.get? a=some { cls:=.none,data:=.fields ps }:=x;show h'.get? a=some { cls:=.none,data:=.fields ps };exact k a _ (.inl rfl) e
 | met f y=>
  have e:h.get? a=some (W.methodObj (.ref f) (.ref y)):=x;show h'.get? a=some (W.methodObj (.ref f) (.ref y));exact k a _ (.inl rfl) e
 | ext φ=>obtain ⟨p,⟨o,e⟩,st⟩:=x;exact ⟨st _ _ p λ o q=>k _ _ (.inl rfl) q,⟨o,k _ _ (.inl rfl) e⟩,st⟩
theorem HOk.lt(x:HOk P w H h)(e:H a=some o):a < h.objs.size:=(x a o e).lt
theorem HOk.fresh(x:HOk P w H h)(e:h.objs.size<=a):H a=none:=by
 cases q:H a with
 | none=>rfl
 | some u=>exact absurd (bU (x.lt q) e) (Nat.lt_irrefl _)
theorem HOk.kept(x:HOk P w H h)(k:∀ b u,h.get? b=some u->h'.get? b=some u):HOk P w H h':=λ a o e=>
 (x a o e).stay (λ b u _ q=>k b u q) (λ _ q=>q) λ _ _ q=>q
theorem HOk.laid(x:HOk P w H h)(k:∀ b u,h.get? b=some u->h'.get? b=some u)(hp:h.objs.size<=a)(new:ObjOk P w (upd H a o) h' a o):HOk P w (upd H a o) h':=λ b u e=>by
 have hn:=x.fresh hp;by_cases hb:b=a
 ·subst hb;rw [ag] at e;cases e;exact new
 ·rw [aj hb] at e;exact (x b u e).stay (λ c v _ q=>k c v q) (λ c q=>by rw [aj (aI q hn)];exact q) λ c xs q=>by rw [aj (aI q hn)];exact q
def Rd(H:Hp)(a:Addr)(u:HO):Prop:=H a=some u\/∃ o,H a=some (.frz o u)
theorem Rd.of{u:HO}(h:H a=some u):Rd H a u:=.inl h
theorem Rd.ok{u:HO}(r:Rd H a u)(x:HOk P w H h):ObjOk P w H h a u:=by
 rcases r with r | ⟨o,r⟩
 ·exact x a u r
 ·obtain ⟨_,q⟩:=x a _ r;exact q
def Mut:Option HO->Prop
 | some (.lst _)=>True
 | some (.dK _)=>True
 | some (.dT _)=>True
 | some (.set _ _)=>True
 | some (.ins _ _ _)=>True
 | some (.ext _)=>True
 | _=>False
section
variable {x e:Addr} {o':HO}
theorem HOk.write(ok:HOk P w H h)(mu:Mut (H x))(he:e=x\/H e=some (.own x))(k:∀ b u,b≠e->h.get? b=some u->h'.get? b=some u)(heo:∃ u,h'.get? e=some u)(new:ObjOk P w (upd H x o') h' x o'):HOk P w (upd H x o') h':=λ b u q=>by
 have nown:∀ c y,H c=some (.own y)->c≠x:=λ c y r z=>by subst z;rw [r] at mu;exact mu
 have ntup:∀ c xs,H c=some (.tup xs)->c≠x:=λ c xs r z=>by subst z;rw [r] at mu;exact mu
 by_cases hb:b=x
 ·subst hb;rw [ag] at q;cases q;exact new
 ·rw [aj hb] at q;by_cases hbe:b=e
  ·have q':H b=some (.own x):=by
    rcases he with z | z
    ·exact absurd (hbe.trans z) hb
    ·rw [hbe];exact z
   rw [q] at q';cases q';obtain ⟨v,hv⟩:=heo;exact ⟨v,by rw [hbe];exact hv⟩
  ·refine (ok b u q).stay (λ c v hc r=>k c v ?_ r) (λ c r=>by rw [aj (nown c b r)];exact r) λ c xs r=>by rw [aj (ntup c xs r)];exact r
   rcases hc with rfl | hc
   ·exact hbe
   ·rintro rfl;rcases he with z | z
    ·exact nown c b hc z
    ·rw [hc] at z;cases z;exact hb rfl
end
structure Un (fs ex:List Addr) (H H':Hp) (h h':Heap):Prop where
 keep:∀ b o,h.get? b=some o->H b=none->b∉fs->b∉ex->h'.get? b=some o
 slot:∀ b o,h.get? b=some o->H b=none->b∈fs->b∉ex->∃ sl,h'.get? b=some { o with slots:=sl }
 free:∀ b o,h.get? b=some o->H b=none->b∉ex->H' b=none
 there:∀ b o,h.get? b=some o->b∉ex->∃ o',h'.get? b=some o'
 tups:∀ b xs,H b=some (.tup xs)->H' b=some (.tup xs)
 frzs:∀ b o u,H b=some (.frz o u)->H' b=some (.frz o u)
 tbls:∀ b ps,H b=some (.tbl ps)->∃ more,H' b=some (.tbl (ps++more))
section
variable {fs fs' ex ex':List Addr} {x e:Addr}
theorem Un.any(u:Un fs ex H H1 h h1){ob:Obj}(q:h.get? b=some ob)(n:H b=none)(hx:b∉ex):∃ sl,h1.get? b=some { ob with slots:=sl }:=by
 by_cases hb:b∈fs
 ·exact u.slot b ob q n hb hx
 ·exact ⟨ob.slots,u.keep b ob q n hb hx⟩
theorem Un.trans(a:Un fs ex H H1 h h1)(b:Un fs ex H1 H2 h1 h2):Un fs ex H H2 h h2 where
 keep:=λ c ob q n hc hx=>b.keep c ob (a.keep c ob q n hc hx) (a.free c ob q n hx) hc hx
 slot:=λ c ob q n hc hx=>by
  obtain ⟨sl,e1⟩:=a.slot c ob q n hc hx;obtain ⟨sl',e2⟩:=b.slot c _ e1 (a.free c ob q n hx) hc hx;exact ⟨sl',e2⟩
 free:=λ c ob q n hx=>by
  obtain ⟨o',e1⟩:=a.there c ob q hx;exact b.free c o' e1 (a.free c ob q n hx) hx
 there:=λ c ob q hx=>by
  obtain ⟨o',e1⟩:=a.there c ob q hx;exact b.there c o' e1 hx
 tups:=λ c xs q=>b.tups c xs (a.tups c xs q)
 frzs:=λ c ob xs q=>b.frzs c ob xs (a.frzs c ob xs q)
 tbls:=λ c ps q=>by
  obtain ⟨m1,e1⟩:=a.tbls c ps q;obtain ⟨m2,e2⟩:=b.tbls c _ e1;exact ⟨m1++m2,by rw [e2,Array.append_assoc]⟩
theorem Un.kept(k:∀ b u,h.get? b=some u->h'.get? b=some u):Un fs ex H H h h':=
 ⟨λ b ob q _ _ _=>k b ob q,λ b ob q _ _ _=>⟨ob.slots,k b ob q⟩,λ _ _ _ n _=>n,λ b ob q _=>⟨ob,k b ob q⟩,λ _ _ q=>q,λ _ _ _ q=>q,λ _ ps q=>⟨#[],by rw [q];simp⟩⟩
theorem Un.refl:Un fs ex H H h h:=Un.kept λ _ _ q=>q
theorem Un.laid(k:∀ b u,h.get? b=some u->h'.get? b=some u)(hp:h.objs.size<=a)(hn:H a=none):Un fs ex H (upd H a o) h h' where
 keep:=λ b u q _ _ _=>k b u q
 slot:=λ b u q _ _ _=>⟨u.slots,k b u q⟩
 free:=λ b u q n _=>by rw [aj (be (bU (aS q) hp))];exact n
 there:=λ b u q _=>⟨u,k b u q⟩
 tups:=λ b xs q=>by rw [aj (aI q hn)];exact q
 frzs:=λ b u xs q=>by rw [aj (aI q hn)];exact q
 tbls:=λ b ps q=>⟨#[],by rw [aj (aI q hn),q];simp⟩
theorem Un.write(mu:Mut (H x))(he:e=x\/H e=some (.own x))(k:∀ b u,b≠e->h.get? b=some u->h'.get? b=some u)(heo:∃ u,h'.get? e=some u):Un fs ex H (upd H x o) h h':=by
 have hx:∀ b,H b=none->b≠x:=λ b n z=>by subst z;rw [n] at mu;exact mu
 have hb:∀ b,H b=none->b≠e:=λ b n z=>by
  subst z;rcases he with r | r
  ·exact hx b n r
  ·rw [n] at r;cases r
 have hm:∀ b u,H b=some u->¬ Mut (some u)->b≠x:=λ b u q nm z=>by subst z;rw [q] at mu;exact nm mu
 refine ⟨λ b u q n _ _=>k b u (hb b n) q,λ b u q n _ _=>⟨u.slots,k b u (hb b n) q⟩,λ b u q n _=>by rw [aj (hx b n)];exact n,λ b u q _=>?_,
  λ b xs q=>by rw [aj (hm b _ q λ z=>z)];exact q,λ b u xs q=>by rw [aj (hm b _ q λ z=>z)];exact q,λ b ps q=>⟨#[],by rw [aj (hm b _ q λ z=>z),q];simp⟩⟩
 by_cases hbe:b=e
 ·subst hbe;exact heo
 ·exact ⟨u,k b u hbe q⟩
theorem Un.mono(u:Un fs ex H H1 h h1)(hs:∀ b∈fs,b∈fs')(hx:∀ b∈ex,b∈ex'):Un fs' ex' H H1 h h1:=
 ⟨λ b ob q n hb he=>u.keep b ob q n (λ z=>hb (hs b z)) λ z=>he (hx b z),λ _ _ q n _ he=>u.any q n λ z=>he (hx _ z),λ b ob q n he=>u.free b ob q n λ z=>he (hx b z),λ b ob q he=>u.there b ob q λ z=>he (hx b z),u.tups,u.frzs,u.tbls⟩
end
def trk(h:Heap)(H:Hp):List Addr:=(List.range h.objs.size).filter λ a=>(H a).isSome
def gd(h:Heap)(H:Hp):Heap:=W.hideAll h (trk h H)
theorem zbl(h:Heap)(H:Hp):(gd h H).objs.size=h.objs.size:=W.hideAll_size _ _
theorem nX{o:Obj}(e:h.get? b=some o)(n:H b=none):(gd h H).get? b=some o:=
 W.hideAll_get _ e λ hm=>by
  have q:(H b).isSome=true:=(List.mem_filter.mp hm).2;rw [n] at q;simp at q
theorem zd8{o:Obj}(e:(gd h H).get? b=some o):h.get? b=some o/\H b=none:=by
 have e':h.get? b=some o:=W.of_hideAll (trk h H) e;refine ⟨e',?_⟩;cases q:H b with
 | none=>rfl
 | some x=>
  have hm:b∈trk h H:=List.mem_filter.mpr ⟨List.mem_range.mpr (aS e'),by simp [q]⟩;have z:(gd h H).get? b=none:=W.hideAll_none (trk h H) hm;rw [z] at e;cases e
def zH(g h:Heap)(L:Addr):List (Addr × Obj):=(List.range h.objs.size).filterMap λ a=>if a=L\/(g.get? a).isSome=true then none else (h.get? a).map λ o=>(a,o)
def rest(g h:Heap)(L d:Addr):List (Addr × Obj):=(zH g h L).filter λ p=>decide (p.1≠d)
structure Mod (K:W.Frag) (mg:Str->Option Value) (base:Heap):Prop where
 kin:K.In base
 glob:base.Ns mainGlobals mg
 blt:∃ mb,base.Ns builtinsNs mb/\∀ x:Str,x ≠ "__name__" -> mb x=bootBuiltins x
 nolimit:base.NoLimit
structure Cx where
 prog:Program
 w:World
 K:W.Frag
 mg:Str->Option Value
 base:Heap
 A:Around
 N:List Str
 s₀:Shared
 H₀:Hp
 env:Env
 outer:List Env
 stack:List Env
 ex:List Addr
 fn:Str->Bool
 calm:Bool
 pn:List (Addr × Obj)
 xe:Value->Shared->Prop
variable {X:Cx}
def frs(l:List Env):List Addr:=l.filterMap (·.frame)
abbrev Cx.fs(X:Cx):List Addr:=frs X.outer
def Vis(sc:Scope)(x:Str):Prop:=sc.names.lookup x=some .local\/sc.names.lookup x=some .cell\/sc.names.lookup x=some .free
def Loc(sc:Scope)(x:Str):Prop:=sc.names.lookup x=some .local\/sc.names.lookup x=some .cell
def sw(env:Env)(h:Heap)(m:Str->Option Value)(x:Str)(u:Value):Prop:=
 (env.kindOf x=some .local/\m x=some u)\/((env.kindOf x=some .cell\/env.kindOf x=some .free)/\∃ c,env.cells.lookup x=some c/\h.IsCell c (some u))
structure Cx.Ok (X:Cx):Prop where
 mod:Mod X.K X.mg X.base
 kind:X.env.scope.kind = .function
 glob:X.env.globals=mainGlobals
 blt:X.env.builtins=builtinsNs
 above:X.s₀.heap.objs.size<=X.env.locals
 inj:∀ x y c,X.env.cells.lookup x=some c->X.env.cells.lookup y=some c->x=y
 has:∀ x,(X.env.kindOf x=some .cell\/X.env.kindOf x=some .free)->∃ c,X.env.cells.lookup x=some c
 cab:∀ x c,X.fn x=true->X.env.cells.lookup x=some c->X.s₀.heap.objs.size<=c
 hd:X.calm=true->X.A.handled=none
 frames:X.A.frames=some X.stack
 stk:X.stack=X.outer\/(X.stack=X.env::X.outer/\X.env.frame=some X.env.locals)
 exf:∀ b∈X.ex,b≠X.env.locals/\∀ x c,X.env.cells.lookup x=some c->c≠b
 bs:∀ b o,X.base.get? b=some o->X.s₀.heap.get? b=some o/\X.H₀ b=none
 bsz:X.base.objs.size<=X.s₀.heap.objs.size
 noex:∀ b o,X.base.get? b=some o->b∉X.ex
 exfs:∀ b∈X.ex,b∉X.fs
 funs:X.s₀.heap.FunFrames X.base X.outer
 frf:∀ b∈X.fs,X.H₀ b=none
structure Inv (X:Cx) (pins:List (Addr × Obj)) (σ:List (Option V)) (H:Hp) (s:Shared):Prop where
 ok:X.Ok
 os:s.os=X.s₀.os
 bare:AllBare s.gens
 base:Un X.fs X.ex X.H₀ H X.s₀.heap s.heap
 loc:∃ m,s.heap.Ns X.env.locals m/\∀ (i:Nat) (x:Str) (v:V),X.N[i]?=some x->σ[i]?=some (some v)->Vis X.env.scope x->∃ u,RelV v u/\sw X.env s.heap m x u
 cell:∀ x c,X.env.cells.lookup x=some c->∃ v,s.heap.IsCell c v
 free:H X.env.locals=none
 freeC:∀ x c,X.env.cells.lookup x=some c->H c=none
 pin:∀ p∈X.pn++pins,s.heap.get? p.1=some p.2/\H p.1=none/\p.1≠X.env.locals/\p.1∉X.fs/\∀ v,p.2.data≠.cell v
 hok:HOk X.prog X.w H s.heap
 len:σ.length=X.N.length
section
variable {σ:List (Option V)}
theorem Cx.Ok.nofr(ok:X.Ok){o:Obj}(e:X.base.get? b=some o):b∉X.fs:=λ hb=>by
 have:=(ok.funs.mem hb).1;rw [e] at this;cases this
theorem Inv.bs(I:Inv X pins σ H s):∀ b o,X.base.get? b=some o->s.heap.get? b=some o/\H b=none:=λ b o e=>
 ⟨I.base.keep b o (I.ok.bs b o e).1 (I.ok.bs b o e).2 (I.ok.nofr e) (I.ok.noex b o e),I.base.free b o (I.ok.bs b o e).1 (I.ok.bs b o e).2 (I.ok.noex b o e)⟩
theorem Inv.bk(I:Inv X pins σ H s):∀ b o,X.base.get? b=some o->s.heap.get? b=some o:=λ b o e=>(I.bs b o e).1
theorem Inv.mod(I:Inv X pins σ H s):Mod X.K X.mg X.base:=I.ok.mod
theorem Inv.kIn(I:Inv X pins σ H s):X.K.In s.heap:=I.ok.mod.kin.keeps I.bk
theorem Inv.nolimit(I:Inv X pins σ H s):s.heap.NoLimit:=I.ok.mod.nolimit.keeps I.bk
theorem Inv.fr(I:Inv X pins σ H s):∃ m,Fr X.base X.env.locals s.heap m:=
 let ⟨m,hn,_⟩:=I.loc
 ⟨m,hn,I.bk,Nat.le_trans I.ok.bsz I.ok.above⟩
theorem Inv.lt(I:Inv X pins σ H s):X.env.locals < s.heap.objs.size:=let ⟨_,hn,_⟩:=I.loc;hn.lt
theorem Inv.sz(I:Inv X pins σ H s):X.s₀.heap.objs.size<=s.heap.objs.size:=Nat.le_trans I.ok.above (aX I.lt)
theorem Inv.nofs(I:Inv X pins σ H s)(h:s.heap.objs.size<=a):a∉X.fs:=λ hb=>by
 obtain ⟨_,o,ho,_⟩:=I.ok.funs.mem hb;exact absurd (bU (aS ho) (Nat.le_trans I.sz h)) (Nat.lt_irrefl _)
theorem Inv.cne(I:Inv X pins σ H s):∀ x c,X.env.cells.lookup x=some c->c≠X.env.locals:=λ x c e z=>by
 obtain ⟨v,o,ho,hd⟩:=I.cell x c e;obtain ⟨m,⟨o',es,ep,ho',hd',_⟩,_⟩:=I.loc;rw [z,ho'] at ho;cases ho;rw [hd'] at hd;cases hd
theorem Inv.funs(I:Inv X pins σ H s):s.heap.FunFrames X.base X.outer:=by
 have all:∀ (l:List Env),(∀ b∈frs l,b∈X.fs)->X.s₀.heap.FunFrames X.base l->s.heap.FunFrames X.base l:=by
  intro l;induction l with
  | nil=>intro _ _;trivial
  | cons env r ih=>
   intro hs hl;obtain ⟨hk,⟨L,o,hf,hn,ho,hd⟩,hr⟩:=hl;have hL:L∈X.fs:=hs L (by unfold frs;rw [List.filterMap_cons,hf];exact cG);obtain ⟨sl,e⟩:=I.base.slot L o ho (I.ok.frf L hL) hL λ z=>I.ok.exfs L z hL;exact ⟨hk,⟨L,_,hf,hn,e,hd⟩,ih (λ b hb=>hs b (by unfold frs;rw [List.filterMap_cons,hf];exact bV _ hb)) hr⟩
 exact all X.outer (λ _ hb=>hb) I.ok.funs
theorem Inv.stack(I:Inv X pins σ H s):s.heap.FunFrames X.base X.stack:=by
 rcases I.ok.stk with e | ⟨e,hf⟩
 ·rw [e];exact I.funs
 ·rw [e];obtain ⟨m,hn,_⟩:=I.loc;refine .cons (by rw [I.ok.kind];decide) hf hn ?_ I.funs;exact Heap.get?_none_of_le (Nat.le_trans I.ok.bsz I.ok.above)
theorem Inv.stkSub(I:Inv X pins σ H s):∀ b∈frs X.stack,b∈X.env.locals::X.fs:=λ b hb=>by
 rcases I.ok.stk with e | ⟨e,hf⟩
 ·rw [e] at hb;exact bV _ hb
 ·rw [e] at hb;unfold frs at hb;rw [List.filterMap_cons,hf] at hb;exact hb
theorem Inv.stkFree(I:Inv X pins σ H s):∀ b∈frs X.stack,H b=none:=λ b hb=>by
 rcases al_mc.mp (I.stkSub b hb) with e | hb
 ·rw [e];exact I.free
 ·obtain ⟨_,o,ho,_⟩:=I.ok.funs.mem hb;exact I.base.free b o ho (I.ok.frf b hb) λ z=>I.ok.exfs b z hb
theorem Inv.step(I:Inv X pins σ H s)(hch:∀ b∈ch,(b∈X.ex\/X.s₀.heap.objs.size<=b)/\b≠X.env.locals/\(∀ x c,X.env.cells.lookup x=some c->c≠b)/\∀ p∈X.pn++pins,p.1≠b)(keep:∀ b o,b≠X.env.locals->b∉X.fs->b∉ch->s.heap.get? b=some o->H b=none->h'.get? b=some o)(slot:∀ b o,b≠X.env.locals->b∈X.fs->b∉ch->s.heap.get? b=some o->H b=none->∃ sl,h'.get? b=some { o with slots:=sl })(free:∀ b o,b∉ch->s.heap.get? b=some o->H b=none->H' b=none)(there:∀ b o,b∉ch->s.heap.get? b=some o->∃ o',h'.get? b=some o')(tups:∀ b xs,H b=some (.tup xs)->H' b=some (.tup xs))(frzs:∀ b o u,H b=some (.frz o u)->H' b=some (.frz o u))(tbls:∀ b ps,H b=some (.tbl ps)->∃ more,H' b=some (.tbl (ps++more)))(ns:∀ m,s.heap.Ns X.env.locals m->h'.Ns X.env.locals m)(hok:HOk X.prog X.w H' h')(hg:AllBare g'):
  Inv X pins σ H' { s with heap:=h',gens:=g',drawn:=d',toks:=t' }:=by
 have neL:∀ b o,X.s₀.heap.get? b=some o->b≠X.env.locals:=λ b o e=>be (bU (aS e) I.ok.above);have neC:∀ b o,X.s₀.heap.get? b=some o->b∉X.ex->b∉ch:=λ b o e hx hb=>by
  rcases (hch b hb).1 with z | z
  ·exact hx z
  ·exact absurd (bU (aS e) z) (Nat.lt_irrefl _)
 have cellK:∀ x c,X.env.cells.lookup x=some c->∀ v,s.heap.IsCell c v->h'.IsCell c v:=λ x c e v ⟨o,ho,hd⟩=>by
  have nch:c∉ch:=λ z=>(hch c z).2.2.1 x c e rfl;by_cases hc:c∈X.fs
  ·obtain ⟨sl,q⟩:=slot c o (I.cne x c e) hc nch ho (I.freeC x c e);exact ⟨_,q,hd⟩
  ·exact ⟨o,keep c o (I.cne x c e) hc nch ho (I.freeC x c e),hd⟩
 refine ⟨I.ok,I.os,hg,⟨λ b o e n hb hx=>?_,λ b o e n hb hx=>?_,λ b o e n hx=>?_,λ b o e hx=>?_,λ b xs e=>tups b xs (I.base.tups b xs e),λ b o xs e=>frzs b o xs (I.base.frzs b o xs e),λ b ps e=>?_⟩,?_,λ x c e=>?_,?_,λ x c e=>?_,λ p hp=>?_,hok,I.len⟩
 ·exact keep b o (neL b o e) hb (neC b o e hx) (I.base.keep b o e n hb hx) (I.base.free b o e n hx)
 ·obtain ⟨sl,e1⟩:=I.base.slot b o e n hb hx;obtain ⟨sl',e2⟩:=slot b _ (neL b o e) hb (neC b o e hx) e1 (I.base.free b o e n hx);exact ⟨sl',e2⟩
 ·obtain ⟨o',e1⟩:=I.base.there b o e hx;exact free b o' (neC b o e hx) e1 (I.base.free b o e n hx)
 ·obtain ⟨o',e1⟩:=I.base.there b o e hx;exact there b o' (neC b o e hx) e1
 ·obtain ⟨m1,e1⟩:=I.base.tbls b ps e;obtain ⟨m2,e2⟩:=tbls b _ e1;exact ⟨m1++m2,by rw [e2,Array.append_assoc]⟩
 ·obtain ⟨m,hn,hl⟩:=I.loc;refine ⟨m,ns m hn,λ i x v e1 e2 e3=>?_⟩;obtain ⟨u,r,l⟩:=hl i x v e1 e2 e3;refine ⟨u,r,?_⟩;rcases l with l | ⟨k,c,e,z⟩
  ·exact .inl l
  ·exact .inr ⟨k,c,e,cellK x c e _ z⟩
 ·obtain ⟨v,z⟩:=I.cell x c e;exact ⟨v,cellK x c e v z⟩
 ·obtain ⟨m,⟨o,_,_,ho,_⟩,_⟩:=I.loc;exact free _ o (λ z=>(hch _ z).2.1 rfl) ho I.free
 ·obtain ⟨v,o,ho,hd⟩:=I.cell x c e;exact free c o (λ z=>(hch c z).2.2.1 x c e rfl) ho (I.freeC x c e)
 ·obtain ⟨e,n,ne,nf,d⟩:=I.pin p hp;have nch:p.1∉ch:=λ z=>(hch p.1 z).2.2.2 p hp rfl;exact ⟨keep p.1 p.2 ne nf nch e n,free p.1 p.2 nch e n,ne,nf,d⟩
theorem Inv.un(I:Inv X pins σ H s)(u:Un X.fs [] H H' s.heap h')(hok:HOk X.prog X.w H' h'):Inv X pins σ H' { s with heap:=h',toks:=t' }:=by
 obtain ⟨m,⟨o,es,ep,ho,r⟩,_⟩:=id I.loc;obtain ⟨sl,hL⟩:=u.any ho I.free (by simp);exact I.step (g':=s.gens) (d':=s.drawn) (ch:=[]) (λ _ z=>nomatch z) (λ b o _ hb _ e n=>u.keep b o e n hb (by simp)) (λ b o _ hb _ e n=>u.slot b o e n hb (by simp)) (λ b o _ e n=>u.free b o e n (by simp)) (λ b o _ e=>u.there b o e (by simp)) u.tups u.frzs u.tbls (λ m' hm=>by
  obtain ⟨o',es',ep',ho',r'⟩:=hm;rw [ho] at ho';cases ho';exact ⟨_,es',ep',hL,r'⟩) hok I.bare
theorem Inv.call(I:Inv X pins σ H s)(u:Un (frs X.stack) ch H H' s.heap h')(hok:HOk X.prog X.w H' h')(hg:AllBare g')(hch:∀ b∈ch,(b∈X.ex\/X.s₀.heap.objs.size<=b)/\b≠X.env.locals/\(∀ x c,X.env.cells.lookup x=some c->c≠b)/\∀ p∈X.pn++pins,p.1≠b):
  Inv X pins σ H' { s with heap:=h',gens:=g',drawn:=d',toks:=t' }:=by
 obtain ⟨m,⟨o,es,ep,ho,r⟩,_⟩:=id I.loc;obtain ⟨sl,hL⟩:=u.any ho I.free λ z=>(hch _ z).2.1 rfl;exact I.step (ch:=ch) hch (λ b o hL hb hc e n=>u.keep b o e n (λ z=>(al_mc.mp (I.stkSub b z)).elim hL hb) hc) (λ b o _ _ hc e n=>u.any e n hc) (λ b o hc e n=>u.free b o e n hc) (λ b o hc e=>u.there b o e hc) u.tups u.frzs u.tbls (λ m' hm=>by
  obtain ⟨o',es',ep',ho',r'⟩:=hm;rw [ho] at ho';cases ho';exact ⟨_,es',ep',hL,r'⟩) hok hg
theorem Inv.turned(I:Inv X pins σ H s)(k:∀ b o,b≠it->s.heap.get? b=some o->h'.get? b=some o)(hn:H it=none)(hL:it≠X.env.locals)(h1:it∈X.ex\/X.s₀.heap.objs.size<=it)(h2:∀ x c,X.env.cells.lookup x=some c->c≠it)(h3:∀ p∈X.pn++pins,p.1≠it):Inv X pins σ H { s with heap:=h',toks:=t' }:=by
 have nit:∀ b u,H b=some u->b≠it:=λ b u e z=>by rw [z,hn] at e;cases e
 refine I.step (g':=s.gens) (d':=s.drawn) (ch:=[it]) (λ b hb=>?_) (λ b o _ _ hc e _=>k b o (λ z=>hc (by simp [z])) e) (λ b o _ _ hc e _=>⟨o.slots,k b o (λ z=>hc (by simp [z])) e⟩) (λ _ _ _ _ n=>n)
  (λ b o hc e=>⟨o,k b o (λ z=>hc (by simp [z])) e⟩) (λ _ _ e=>e) (λ _ _ _ e=>e) (λ b ps e=>⟨#[],by rw [e];simp⟩) (λ m hm=>?_) (λ b u e=>?_) I.bare
 ·have e:b=it:=by simpa using hb
  subst e;exact ⟨h1,hL,h2,h3⟩
 ·obtain ⟨o,es,ep,ho,r⟩:=hm;exact ⟨o,es,ep,k _ o (Ne.symm hL) ho,r⟩
 ·refine (I.hok b u e).stay (λ c v hc q=>k c v ?_ q) (λ _ q=>q) λ _ _ q=>q;rcases hc with z | z
  ·rw [z];exact nit b u e
  ·exact nit c _ z
theorem Inv.tok(I:Inv X pins σ H s)(t:Nat):Inv X pins σ H { s with toks:=t }:=I.un (h':=s.heap) (t':=t) Un.refl I.hok
theorem Inv.kept{t':Nat}(I:Inv X pins σ H s)(k:∀ b u,s.heap.get? b=some u->h'.get? b=some u):Inv X pins σ H { s with heap:=h',toks:=t' }:=I.un (Un.kept k) (I.hok.kept k)
theorem Inv.laid{a:Addr}{o:HO}{t':Nat}(I:Inv X pins σ H s)(k:∀ b u,s.heap.get? b=some u->h'.get? b=some u)(hp:s.heap.objs.size<=a)(new:ObjOk X.prog X.w (upd H a o) h' a o):
  Inv X pins σ (upd H a o) { s with heap:=h',toks:=t' }:=I.un (Un.laid k hp (I.hok.fresh hp)) (I.hok.laid k hp new)
theorem Inv.write{x e:Addr}{o:HO}{t':Nat}(I:Inv X pins σ H s)(mu:Mut (H x))(he:e=x\/H e=some (.own x))(k:∀ b u,b≠e->s.heap.get? b=some u->h'.get? b=some u)(heo:∃ u,h'.get? e=some u)(new:ObjOk X.prog X.w (upd H x o) h' x o):Inv X pins σ (upd H x o) { s with heap:=h',toks:=t' }:=I.un (Un.write mu he k heo) (I.hok.write mu he k heo new)
theorem Inv.weak{σ':List (Option V)}(I:Inv X pins σ H s)(hl:σ'.length=σ.length)(w:∀ (i:Nat) v,σ'[i]?=some (some v)->σ[i]?=some (some v)):Inv X pins σ' H s:=
 ⟨I.ok,I.os,I.bare,I.base,let ⟨m,hn,hl'⟩:=I.loc;⟨m,hn,λ i x v e1 e2 e3=>hl' i x v e1 (w i v e2) e3⟩,I.cell,I.free,I.freeC,I.pin,I.hok,hl.trans I.len⟩
theorem Inv.pins_of(I:Inv X pins σ H s)(h:∀ p∈pins',s.heap.get? p.1=some p.2/\H p.1=none/\p.1≠X.env.locals/\p.1∉X.fs/\∀ v,p.2.data≠.cell v):Inv X pins' σ H s:=
 ⟨I.ok,I.os,I.bare,I.base,I.loc,I.cell,I.free,I.freeC,λ p hp=>(al_mp.mp hp).elim (λ z=>I.pin p (List.mem_append_left _ z)) (h p),I.hok,I.len⟩
theorem fO(hN:N.Nodup)(a:N[i]?=some x)(b:N[j]?=some x):i=j:=by
 obtain ⟨h1,e1⟩:=al_gs.mp a;obtain ⟨h2,e2⟩:=al_gs.mp b;exact (List.getElem_inj hN).mp (e1.trans e2.symm)
theorem xP{v:V}{Q:Unit->Shared->Prop}(I:Inv X pins σ H s)(hN:X.N.Nodup)(hi:X.N[i]?=some x)(hx:Loc X.env.scope x)(r:RelV v u)(h:∀ s',Inv X pins (σ.set i (some v)) H s'->(∃ a,Heap.SameBut a s.heap s'.heap/\(a=X.env.locals\/X.env.cells.lookup x=some a))->Q () s')(hf:X.fn x=true\/X.env.scope.names.lookup x=some .local:=by first | exact .inl rfl | exact .inr rfl | assumption):wpAny M A (storeName X.env x u) Q E s:=by
 obtain ⟨m,hn,hl⟩:=id I.loc;have hcls:(X.env.scope.kind == .class || (X.env.scope.kind == .module && X.env.locals != X.env.globals))=false:=by rw [I.ok.kind];rfl
 have hiσ:i < σ.length:=by rw [I.len];exact (al_gs.mp hi).1
 have cne:=I.cne;have tracked:∀ {a:Addr} {h':Heap},(∃ o,s.heap.get? a=some o/\H a=none)->Heap.SameBut a s.heap h'->HOk X.prog X.w H h':=λ {a h'} ha hs b ob e=>by
  obtain ⟨_,_,hfree⟩:=ha;refine (I.hok b ob e).stay (λ c w' hc q=>(hs.2 c ?_).trans q) (λ _ q=>q) λ _ _ q=>q;rintro rfl;rcases hc with rfl | hc
  ·rw [hfree] at e;cases e
  ·rw [hfree] at hc;cases hc
 rcases hx with hk | hk
 ·refine wpAny_storeName_local hk hn (λ h' hn' hs=>?_) hcls;obtain ⟨oL,_,_,hoL,_⟩:=id hn;refine h _ ⟨I.ok,I.os,I.bare,⟨λ b o e n hb hx=>?_,λ b o e n hb hx=>?_,I.base.free,λ b o e hx=>?_,I.base.tups,I.base.frzs,I.base.tbls⟩,⟨_,hn',λ j y v' e1 e2 e3=>?_⟩,λ y c e=>?_,I.free,I.freeC,λ p hp=>?_,tracked ⟨oL,hoL,I.free⟩ hs,by simpa using I.len⟩ ⟨_,hs,.inl rfl⟩
  ·exact (hs.2 b (be (bU (aS e) I.ok.above))).trans (I.base.keep b o e n hb hx)
  ·obtain ⟨sl,e1⟩:=I.base.slot b o e n hb hx;exact ⟨sl,(hs.2 b (be (bU (aS e) I.ok.above))).trans e1⟩
  ·obtain ⟨o',e1⟩:=I.base.there b o e hx;exact ⟨o',(hs.2 b (be (bU (aS e) I.ok.above))).trans e1⟩
  ·by_cases hj:j=i
   ·subst hj;rw [hi] at e1;cases e1;rw [List.getElem?_set_self hiσ] at e2;cases e2;exact ⟨u,r,.inl ⟨hk,by simp⟩⟩
   ·rw [List.getElem?_set_ne (Ne.symm hj)] at e2;obtain ⟨u',r',q⟩:=hl j y v' e1 e2 e3;refine ⟨u',r',?_⟩;rcases q with ⟨k,e⟩ | ⟨k,c,e,z⟩
    ·refine .inl ⟨k,?_⟩;have:y≠x:=λ e=>hj (fO hN e1 (e ▸ hi));simp [this,e]
    ·exact .inr ⟨k,c,e,z.sameBut hs (cne y c e)⟩
  ·obtain ⟨w',z⟩:=I.cell y c e;exact ⟨w',z.sameBut hs (cne y c e)⟩
  ·obtain ⟨e,n,ne,nf,d⟩:=I.pin p hp;exact ⟨(hs.2 p.1 ne).trans e,n,ne,nf,d⟩
 ·have hfn:X.fn x=true:=by
   rcases hf with z | z
   ·exact z
   ·rw [z] at hk;cases hk
  obtain ⟨c,hc⟩:=I.ok.has x (.inl hk);obtain ⟨w',z⟩:=I.cell x c hc;refine wpAny_storeName_cell I.ok.kind hk hc z (λ h' hc' hs=>?_);obtain ⟨oc,hoc,hocd⟩:=id z;refine h { s with heap:=h' } ⟨I.ok,I.os,I.bare,⟨λ b o e n hb hx=>?_,λ b o e n hb hx=>?_,I.base.free,λ b o e hx=>?_,I.base.tups,I.base.frzs,I.base.tbls⟩,⟨m,hn.sameBut hs (Ne.symm (cne x c hc)),λ j y v' e1 e2 e3=>?_⟩,λ y c' e=>?_,I.free,I.freeC,λ p hp=>?_,tracked ⟨oc,hoc,I.freeC x c hc⟩ hs,by simpa using I.len⟩ ⟨c,hs,.inr hc⟩
  ·exact (hs.2 b (be (bU (aS e) (I.ok.cab x c hfn hc)))).trans (I.base.keep b o e n hb hx)
  ·obtain ⟨sl,e1⟩:=I.base.slot b o e n hb hx;exact ⟨sl,(hs.2 b (be (bU (aS e) (I.ok.cab x c hfn hc)))).trans e1⟩
  ·obtain ⟨o',e1⟩:=I.base.there b o e hx;exact ⟨o',(hs.2 b (be (bU (aS e) (I.ok.cab x c hfn hc)))).trans e1⟩
  ·by_cases hj:j=i
   ·subst hj;rw [hi] at e1;cases e1;rw [List.getElem?_set_self hiσ] at e2;cases e2;exact ⟨u,r,.inr ⟨.inl hk,c,hc,hc'⟩⟩
   ·rw [List.getElem?_set_ne (Ne.symm hj)] at e2;obtain ⟨u',r',q⟩:=hl j y v' e1 e2 e3;refine ⟨u',r',?_⟩;rcases q with q | ⟨k,c',e,z'⟩
    ·exact .inl q
    ·refine .inr ⟨k,c',e,z'.sameBut hs ?_⟩;rintro rfl;exact hj (fO hN e1 (I.ok.inj _ _ _ e hc ▸ hi))
  ·by_cases hcc:c'=c
   ·subst hcc;exact ⟨_,hc'⟩
   ·obtain ⟨w2,z2⟩:=I.cell y c' e;exact ⟨w2,z2.sameBut hs hcc⟩
  ·obtain ⟨e,n,ne,nf,d⟩:=I.pin p hp;refine ⟨(hs.2 p.1 ?_).trans e,n,ne,nf,d⟩;intro q;rw [q,hoc] at e;have q':oc=p.2:=bL e;exact d w' (by rw [← q'];exact hocd)
theorem j6{v:V}{Q:Unit->Shared->Prop}(I:Inv X pins σ H s)(hN:X.N.Nodup)(hi:X.N[i]?=some x)(hx:Loc X.env.scope x)(r:RelV v u)(h:∀ s',Inv X pins (σ.set i (some v)) H s'->Q () s')(hf:X.fn x=true\/X.env.scope.names.lookup x=some .local:=by first | exact .inl rfl | exact .inr rfl | assumption):wpAny M A (storeName X.env x u) Q E s:=
 xP I hN hi hx r (λ s' I' _=>h s' I') hf
theorem Inv.call'(I:Inv X pins σ H s)(ho:s'.os=s.os)(u:Un (frs X.stack) ch H H' s.heap s'.heap)(hok:HOk X.prog X.w H' s'.heap)(hg:AllBare s'.gens)(hch:∀ b∈ch,(b∈X.ex\/X.s₀.heap.objs.size<=b)/\b≠X.env.locals/\(∀ x c,X.env.cells.lookup x=some c->c≠b)/\∀ p∈X.pn++pins,p.1≠b):Inv X pins σ H' s':=by
 obtain ⟨h',g',d',t',o'⟩:=s';have e:o'=s.os:=ho;subst e;exact I.call (g':=g') (t':=t') (d':=d') u hok hg hch
end
abbrev XK:=Value->Option Addr->Hp->Prop
abbrev St:=List (Option V)
variable {σ:St}
abbrev VK:=V->Hp->Prop
variable {r r':V->List V->Hp->VK->Prop}
abbrev TE:=St->Hp->VK->Prop
variable {ta td te ti tl to tv:TE} {trs:List (TE × TE)}
abbrev TT:=St->Hp->(Bool->Hp->Prop)->Prop
variable {tc:TT}
abbrev TA:=St->Hp->(List V->Hp->Prop)->Prop
structure d3 where
 nx:St->Hp->Prop
 rt:VK
 bk:St->Hp->Prop:=λ _ _=>False
 ct:St->Hp->Prop:=λ _ _=>False
variable {D:d3}
abbrev TS:=d3->St->Hp->Prop
variable {tb:TS}
inductive EP (X:Cx) (pins:List (Addr × Obj)) (σ:St) (Q:VK) (u:Value) (s':Shared):Prop
 | i (v H':_) (_:Inv X pins σ H' s') (_:RelV v u) (_:Q v H')
inductive TP (X:Cx) (pins:List (Addr × Obj)) (σ:St) (Q:Bool->Hp->Prop) (b:Bool) (s':Shared):Prop
 | i (H':_) (_:Inv X pins σ H' s') (_:Q b H')
inductive AP (X:Cx) (pins:List (Addr × Obj)) (σ:St) (Q:List V->Hp->Prop) (us:List Value) (s':Shared):Prop
 | i (vs H':_) (_:Inv X pins σ H' s') (_:Vals vs us) (_:Q vs H')
def SP(X:Cx)(pins:List (Addr × Obj))(D:d3)(f:Flow)(s':Shared):Prop:=
 match f with
 | .next=>∃ σ' H',Inv X pins σ' H' s'/\D.nx σ' H'
 | .brk=>∃ σ' H',Inv X pins σ' H' s'/\D.bk σ' H'
 | .cont=>∃ σ' H',Inv X pins σ' H' s'/\D.ct σ' H'
 | .ret u=>∃ v σ' H',Inv X pins σ' H' s'/\RelV v u/\D.rt v H'
def PE(X:Cx)(e:Expr)(t:TE):Prop:=
 ∀ (pins:List (Addr × Obj)) (s:Shared) (σ:St) (H:Hp) (Q:VK),Inv X pins σ H s->t σ H Q->wpAny (model X.prog X.w) X.A (eval e X.env) (EP X pins σ Q) X.xe s
def PT(X:Cx)(e:Expr)(t:TT):Prop:=
 ∀ (pins:List (Addr × Obj)) (s:Shared) (σ:St) (H:Hp) (Q:Bool->Hp->Prop),Inv X pins σ H s->t σ H Q->wpAny (model X.prog X.w) X.A (isTrue e X.env (eval e X.env)) (TP X pins σ Q) X.xe s
def PW(X:Cx)(e:Expr)(t:TT):Prop:=
 ∀ (whole:Sem Value) (pins:List (Addr × Obj)) (s:Shared) (σ:St) (H:Hp) (Q:Bool->Hp->Prop),Inv X pins σ H s->t σ H Q->wpAny (model X.prog X.w) X.A (isTrue e X.env whole) (TP X pins σ Q) X.xe s
theorem PW.pt{t:TT}(h:PW X e t):PT X e t:=h _
def PA(X:Cx)(es:List Expr)(t:TA):Prop:=
 ∀ (pos:Pos) (pins:List (Addr × Obj)) (s:Shared) (σ:St) (H:Hp) (Q:List V->Hp->Prop),Inv X pins σ H s->t σ H Q->wpAny (model X.prog X.w) X.A (spliced (backTo pos (starEach es X.env))) (AP X pins σ Q) X.xe s
def PS(X:Cx)(st:Stmt)(t:TS):Prop:=
 ∀ (pins:List (Addr × Obj)) (s:Shared) (σ:St) (H:Hp) (D:d3),Inv X pins σ H s->t D σ H->wpAny (model X.prog X.w) X.A (exec st X.env) (SP X pins D) X.xe s
def PSs(X:Cx)(st:List Stmt)(t:TS):Prop:=
 ∀ (pins:List (Addr × Obj)) (s:Shared) (σ:St) (H:Hp) (D:d3),Inv X pins σ H s->t D σ H->wpAny (model X.prog X.w) X.A (execs st X.env) (SP X pins D) X.xe s
theorem thn{t:Sem α}{Q Q':α->Shared->Prop}(h:wpAny M A t Q E s)(hQ:∀ a s,Q a s->Q' a s):wpAny M A t Q' E s:=wpAny_mono h hQ λ _ _ x=>x
section
theorem bin{a b:Expr}{tb:TE}(ha:PE X a ta)(hb:PE X b tb){R:V->V->Hp->Prop}(I:Inv X pins σ H s)(h:ta σ H λ x H1=>tb σ H1 λ y H2=>R x y H2){Q:α->Shared->Prop}{f:Value->Value->Sem α}(hf:∀ v u s2 x y H2,Inv X pins σ H2 s2->RelV x v->RelV y u->R x y H2->wpAny (model X.prog X.w) X.A (f v u) Q X.xe s2):
    wpAny (model X.prog X.w) X.A (eval a X.env) (λ v s₁=>wpAny (model X.prog X.w) X.A (eval b X.env) (λ u s₂=>wpAny (model X.prog X.w) X.A (f v u) Q X.xe s₂) X.xe s₁) X.xe s:=by
  refine thn (ha pins s σ H _ I h) λ v s1 ⟨x,H1,I1,r1,q1⟩=>?_;refine thn (hb pins s1 σ H1 _ I1 q1) λ u s2 ⟨y,H2,I2,r2,q2⟩=>?_;exact hf v u s2 x y H2 I2 r1 r2 q2
inductive cf (i:Nat) (σ:St) (H:Hp) (Q:VK):Prop
 | i (v:_) (_:σ[i]?=some (some v)) (_:Q v H)
def tC(v:V):TE:=λ _ H Q=>Q v H
theorem zf4(hN:X.N[i]?=some x)(hv:Vis X.env.scope x)(hd:(x == ("__debug__" : Str))=false:=by decide)(hcd:(x == ("__classdict__" : Str))=false:=by decide):PE X (.Name x pos) (cf i):=by
 intro pins s σ H Q I h;obtain ⟨v,e,h⟩:=h;obtain ⟨m,hn,hl⟩:=I.loc;obtain ⟨u,r,l⟩:=hl i x v hN e hv;have fin:EP X pins σ Q u s:=⟨v,H,I,r,h⟩
 rcases l with ⟨hk,hm⟩ | ⟨hk,c,hc,hcell⟩
 ·exact wpAny_Name (wpAny_loadName_local I.ok.kind hk hn hm fin) hd
 ·rcases hk with hk | hk
  ·exact wpAny_Name (wpAny_loadName_cell I.ok.kind hk hc hcell fin) hd
  ·exact wpAny_Name (wpAny_loadName_free I.ok.kind hk hc hcell fin hcd) hd
theorem af{i j pos}:PE X (.Constant (.int i) j pos) (tC (.int i)):=λ _ _ _ H _ I h=>wpAny_Constant_int ⟨.int i,H,I.tok _,⟨_,rfl⟩,h⟩
theorem dX{b j pos}:PE X (.Constant (.bool b) j pos) (tC (.bl b)):=λ _ _ _ H _ I h=>Constant_bool ⟨.bl b,H,I,rfl,h⟩
theorem bx{j pos}:PE X (.Constant .none j pos) (tC .non):=λ _ _ _ H _ I h=>Constant_none ⟨.non,H,I,rfl,h⟩
theorem aQ{x j pos}:PE X (.Constant (.str x) j pos) (tC (.str x)):=λ _ _ _ H _ I h=>Calls.Constant_str ⟨.str x,H,I.tok _,⟨_,rfl⟩,h⟩
def Gl(X:Cx)(x:Str):Prop:=X.env.kindOf x=some .globalImplicit
theorem fw(I:Inv X pins σ H s)(hg:Gl X x)(hm:X.mg x=some u)(h:Q u s)(hd:(x == ("__debug__" : Str))=false:=by decide):wpAny (model X.prog X.w) X.A (eval (.Name x pos) X.env) Q E s:=
 Calls.Name_function_global I.ok.kind hg (Calls.loadGlobal_global (by rw [I.ok.glob];exact I.mod.glob.keeps I.bk) hm h) hd
theorem eJ(I:Inv X pins σ H s)(hg:Gl X x)(hm:X.mg x=none)(hv:bootBuiltins x=some u)(h:Q u s)(hn:x ≠ "__name__" := by decide)(hd:(x == ("__debug__" : Str))=false:=by decide):wpAny (model X.prog X.w) X.A (eval (.Name x pos) X.env) Q E s:=by
 obtain ⟨mb,h1,h2⟩:=I.mod.blt;exact Calls.Name_function_global I.ok.kind hg (Calls.loadGlobal_builtin (by rw [I.ok.glob];exact I.mod.glob.keeps I.bk) hm (by rw [I.ok.blt];exact h1.keeps I.bk) ((h2 x hn).trans hv) h) hd
theorem vV{v:V}(hg:Gl X x)(hm:X.mg x=some u)(r:RelV v u)(hd:(x == ("__debug__" : Str))=false:=by decide):PE X (.Name x pos) (tC v):=
 λ _ _ _ H _ I h=>fw I hg hm ⟨v,H,I,r,h⟩ hd
theorem zfV{v:V}(hg:Gl X x)(hm:X.mg x=none)(hv:bootBuiltins x=some u)(r:RelV v u)(hn:x ≠ "__name__" := by decide)(hd:(x == ("__debug__" : Str))=false:=by decide):PE X (.Name x pos) (tC v):=
 λ _ _ _ H _ I h=>eJ I hg hm hv ⟨v,H,I,r,h⟩ hn hd
variable {a b:Expr} {tb:TE}
def PC(X:Cx)(op:CmpOp)(a b:Expr)(t:TE):Prop:=
 ∀ (pins:List (Addr × Obj)) (s:Shared) (σ:St) (H:Hp) (Q:VK),Inv X pins σ H s->t σ H Q->
  wpAny (model X.prog X.w) X.A (eval a X.env) (λ v s₁=>wpAny (model X.prog X.w) X.A (eval b X.env) (λ u s₂=>wpAny (model X.prog X.w) X.A (compareOp op v u) (EP X pins σ Q) X.xe s₂) X.xe s₁) X.xe s
theorem vG(b:Expr)(h:op≠.In)(h2:op≠.NotIn):behindInMarks op b=false:=by
 have e1:(op == CmpOp.In)=false:=by cases op <;> first | rfl | exact absurd rfl h
 have e2:(op == CmpOp.NotIn)=false:=by cases op <;> first | rfl | exact absurd rfl h2
 cases b <;> simp [behindInMarks,e1,e2]
inductive tBI (Q:Bool->Hp->Prop) (x:V) (H1:Hp):Prop
 | i (c:_) (_:x = .bl c) (_:Q c H1)
def tB(t:TE):TT:=λ σ H Q=>t σ H λ x H1=>tBI Q x H1
theorem zfY{t:TE}(h:PC X op a b t)(h1:behindInMarks op b=false:=by first | exact vG _ (by decide) (by decide) | rfl):PE X (.Compare a [op] [b] pos) t:=λ pins s σ H Q I hw=>wpAny_Compare1 (h pins s σ H Q I hw) h1
theorem zgn{t:TE}(h:PC X op a b t)(h1:behindInMarks op b=false:=by first | exact vG _ (by decide) (by decide) | rfl):PT X (.Compare a [op] [b] pos) (tB t):=by
 intro pins s σ H Q I hw;refine wpAny_isTrue_Compare1 (thn (h pins s σ H _ I hw) λ v s1 h1=>thn h1 λ u s2 h2=>thn h2 λ c s3 ⟨x,H1,I1,r1,q1⟩=>?_) h1;obtain ⟨d,rfl,q⟩:=q1;cases r1;exact wpAny_truthy_bool ⟨H1,I1,q⟩
theorem dE{t:TE}(h:PE X e t)(he:∀ whole,isTrue e X.env whole=(do let v ← whole;standAt e.pos;holding [v] (truthy v)):=by intro _;rfl):PT X e (tB t):=by
 intro pins s σ H Q I hw;refine isTrue_plain (thn (h pins s σ H _ I hw) λ v s1 ⟨x,H1,I1,r1,q1⟩=>?_) (he _);obtain ⟨d,rfl,q⟩:=q1;cases r1;exact wpAny_truthy_bool ⟨H1,I1,q⟩
variable {tA tB':TT} {rest:List Expr}
def xR(t u:TT):TT:=λ σ H Q=>t σ H λ c H1=>if c=true then u σ H1 Q else Q false H1
def tOr(t u:TT):TT:=λ σ H Q=>t σ H λ c H1=>if c=true then Q true H1 else u σ H1 Q
def xY(t:TT):TT:=λ σ H Q=>t σ H λ c H1=>Q (!c) H1
theorem jT(ha:PT X a tA):PW X (.BoolOp .And [a] pos) tA:=by
 intro wh pins s σ H Q I h;refine isTrue_and (thn (ha pins s σ H Q I h) λ c s1 e=>?_);cases c with
 | true=>exact isTrue_and_nil e
 | false=>exact e
theorem eN(ha:PT X a tA):PW X (.BoolOp .Or [a] pos) tA:=by
 intro wh pins s σ H Q I h;refine isTrue_or (thn (ha pins s σ H Q I h) λ c s1 e=>?_);cases c with
 | false=>exact isTrue_or_nil e
 | true=>exact e
theorem ik(ha:PT X a tA)(hb:PW X (.BoolOp .And (b::rest) pos) tB'):PW X (.BoolOp .And (a::b::rest) pos) (xR tA tB'):=by
 intro wh pins s σ H Q I h;refine isTrue_and (thn (ha pins s σ H _ I h) λ c s1 ⟨H1,I1,q1⟩=>?_);cases c with
 | true=>exact hb wh pins s1 σ H1 Q I1 q1
 | false=>exact ⟨H1,I1,q1⟩
theorem dO(ha:PT X a tA)(hb:PW X (.BoolOp .Or (b::rest) pos) tB'):PW X (.BoolOp .Or (a::b::rest) pos) (tOr tA tB'):=by
 intro wh pins s σ H Q I h;refine isTrue_or (thn (ha pins s σ H _ I h) λ c s1 ⟨H1,I1,q1⟩=>?_);cases c with
 | true=>exact ⟨H1,I1,q1⟩
 | false=>exact hb wh pins s1 σ H1 Q I1 q1
theorem eE(ha:PT X a tA):PT X (.UnaryOp .Not a pos) (xY tA):=by
 intro pins s σ H Q I h;exact isTrue_not (thn (ha pins s σ H (λ c H1=>Q (!c) H1) I h) λ c s1 ⟨H1,I1,q1⟩=>⟨H1,I1,q1⟩)
inductive zig (tb:TE) (σ:St) (Q:VK) (x:V) (H1:Hp):Prop
 | i (c:_) (_:x = .bl c) (_:if c=true then tb σ H1 Q else Q (.bl false) H1)
def zif(ta tb:TE):TE:=λ σ H Q=>ta σ H λ x H1=>zig tb σ Q x H1
inductive ziJ (tb:TE) (σ:St) (Q:VK) (x:V) (H1:Hp):Prop
 | i (c:_) (_:x = .bl c) (_:if c=true then Q (.bl true) H1 else tb σ H1 Q)
def ziI(ta tb:TE):TE:=λ σ H Q=>ta σ H λ x H1=>ziJ tb σ Q x H1
inductive ziH (Q:VK) (x:V) (H1:Hp):Prop
 | i (c:_) (_:x = .bl c) (_:Q (.bl (!c)) H1)
def ziG(ta:TE):TE:=λ σ H Q=>ta σ H λ x H1=>ziH Q x H1
theorem gG{op}{t:TE}(h:PE X a t):PE X (.BoolOp op [a] pos) t:=λ pins s σ H Q I hw=>BoolOp_one (h pins s σ H Q I hw)
theorem i8(ha:PE X a ta)(hb:PE X (.BoolOp .And (b::rest) pos) tb):PE X (.BoolOp .And (a::b::rest) pos) (zif ta tb):=by
 intro pins s σ H Q I h;refine BoolOp_and (thn (ha pins s σ H _ I h) λ v s1 ⟨x,H1,I1,r1,q1⟩=>?_);obtain ⟨c,rfl,q1⟩:=q1;cases r1;refine wpAny_truthy_bool ?_;cases c with
 | true=>exact hb pins s1 σ H1 Q I1 q1
 | false=>exact ⟨.bl false,H1,I1,rfl,q1⟩
theorem vZ(ha:PE X a ta)(hb:PE X (.BoolOp .Or (b::rest) pos) tb):PE X (.BoolOp .Or (a::b::rest) pos) (ziI ta tb):=by
 intro pins s σ H Q I h;refine BoolOp_or (thn (ha pins s σ H _ I h) λ v s1 ⟨x,H1,I1,r1,q1⟩=>?_);obtain ⟨c,rfl,q1⟩:=q1;cases r1;refine wpAny_truthy_bool ?_;cases c with
 | false=>exact hb pins s1 σ H1 Q I1 q1
 | true=>exact ⟨.bl true,H1,I1,rfl,q1⟩
theorem lA(ha:PE X a ta):PE X (.UnaryOp .Not a pos) (ziG ta):=by
 intro pins s σ H Q I h;refine UnaryOp_ (thn (ha pins s σ H _ I h) λ v s1 ⟨x,H1,I1,r1,q1⟩=>?_);obtain ⟨c,rfl,q1⟩:=q1;cases r1;exact not_of (wpAny_truthy_bool ⟨.bl (!c),H1,I1,rfl,q1⟩)
def tIf(t:TT)(ta tb:TE):TE:=λ σ H Q=>t σ H λ c H1=>if c=true then ta σ H1 Q else tb σ H1 Q
theorem c6{c:Expr}(hc:PT X c tA)(ha:PE X a ta)(hb:PE X b tb):PE X (.IfExp c a b pos) (tIf tA ta tb):=by
 intro pins s σ H Q I h;refine wpAny_IfExp (thn (hc pins s σ H _ I h) λ d s1 ⟨H1,I1,q1⟩=>?_);cases d with
 | true=>exact ha pins s1 σ H1 Q I1 q1
 | false=>exact hb pins s1 σ H1 Q I1 q1
end
def SqL(K:W.Frag)(H:Hp)(a:Addr)(xs:List V):Prop:=
 Rd H a (.lst xs)\/
  ∃ (o:Obj) (its:Array Value) (n:Nat),K.lookup a=some o/\o.cls = .type "list" /\ o.dict=none/\o.data = .seq its n/\its.size<=sizeLine/\Vals xs its.toList
def SqT(K:W.Frag)(H:Hp)(a:Addr)(xs:List V):Prop:=
 Rd H a (.tup xs)\/
  ∃ (o:Obj) (its:Array Value) (n:Nat),K.lookup a=some o/\o.cls = .type "tuple" /\ o.data = .seq its n/\its.size<=sizeLine/\Vals xs its.toList
def sD:Value->Option V
 | .none=>some .non
 | .bool b=>some (.bl b)
 | .int i _=>some (.int i)
 | .str x _=>some (.str x)
 | .bytes b _=>some (.byt b)
 | .float b _=>some (.flt b)
 | .ref a=>some (.ref a)
 | .type n=>some (.ty n)
 | _=>none
theorem RelV.abs{x:V}(r:RelV x u):sD u=some x:=by
 cases x with
 | non=>cases r;rfl
 | bl _=>cases r;rfl
 | int _=>obtain ⟨t,rfl⟩:=r;rfl
 | str _=>obtain ⟨t,rfl⟩:=r;rfl
 | byt _=>obtain ⟨t,rfl⟩:=r;rfl
 | flt _=>obtain ⟨t,rfl⟩:=r;rfl
 | ref _=>cases r;rfl
 | ty _=>cases r;rfl
theorem RelV.inj{x y:V}{u:Value}(r:RelV x u)(q:RelV y u):x=y:=bL (r.abs.symm.trans q.abs)
theorem Vals.inj:∀ {xs ys:List V} {us:List Value},Vals xs us->Vals ys us->xs=ys
 | _,_,_,.nil,.nil=>rfl
 | _,_,_,.cons r t,.cons r' t'=>by rw [r.inj r',Vals.inj t t']
theorem SqL.of(h:H a=some (.lst xs)):SqL K H a xs:=.inl (.inl h)
theorem SqT.of(h:H a=some (.tup xs)):SqT K H a xs:=.inl (.inl h)
theorem Inv.list(I:Inv X pins σ H s)(h:SqL X.K H a xs):∃ its:List Value,Vals xs its/\PlainL s.heap a its.toArray/\xs.length<=sizeLine:=by
 rcases h with h | ⟨o,its,n,hk,hc,hd,hs,hz,r⟩
 ·obtain ⟨z,its,n,r,e⟩:=h.ok I.hok;exact ⟨its,r,⟨_,n,e,rfl,rfl,rfl⟩,z⟩
 ·refine ⟨its.toList,r,⟨o,n,I.kIn a o hk,hc,hd,by simpa using hs⟩,?_⟩;have e:=r.length;simp only [Array.length_toList] at e;omega
theorem Inv.tuple(I:Inv X pins σ H s)(h:SqT X.K H a xs):∃ its:List Value,Vals xs its/\IsTup s.heap a its.toArray/\xs.length<=sizeLine:=by
 rcases h with h | ⟨o,its,n,hk,hc,hs,hz,r⟩
 ·obtain ⟨z,its,r,p⟩:=h.ok I.hok;exact ⟨its,r,p,z⟩
 ·refine ⟨its.toList,r,⟨o,I.kIn a o hk,hc,n,by simpa using hs⟩,?_⟩;have e:=r.length;simp only [Array.length_toList] at e;omega
theorem Inv.list_inj(I:Inv X pins σ H s)(h:SqL X.K H a xs)(h':SqL X.K H a ys):xs=ys:=by
 obtain ⟨its,r,⟨o,n,e,_,_,d⟩,_⟩:=I.list h;obtain ⟨its',r',⟨o',n',e',_,_,d'⟩,_⟩:=I.list h';rw [e] at e';cases e';rw [d] at d';injection d' with d1 _
 have:its=its':=by simpa using congrArg Array.toList d1
 subst this;exact r.inj r'
theorem Inv.tuple_inj(I:Inv X pins σ H s)(h:SqT X.K H a xs)(h':SqT X.K H a ys):xs=ys:=by
 obtain ⟨its,r,⟨o,e,_,n,d⟩,_⟩:=I.tuple h;obtain ⟨its',r',⟨o',e',_,n',d'⟩,_⟩:=I.tuple h';rw [e] at e';cases e';rw [d] at d';injection d' with d1 _
 have:its=its':=by simpa using congrArg Array.toList d1
 subst this;exact r.inj r'
abbrev Cx.wish(X:Cx)(E:Value->Shared->Prop):Cx:={ X with xe:=E }
abbrev Cx.nox(X:Cx):Cx:=X.wish λ _ _=>False
theorem Cx.Ok.wish(ok:X.Ok)(E:Value->Shared->Prop):(X.wish E).Ok:=
 ⟨ok.mod,ok.kind,ok.glob,ok.blt,ok.above,ok.inj,ok.has,ok.cab,ok.hd,ok.frames,ok.stk,ok.exf,ok.bs,ok.bsz,ok.noex,ok.exfs,ok.funs,ok.frf⟩
theorem Cx.Ok.unwish(ok:(X.wish E).Ok):X.Ok:=
 ⟨ok.mod,ok.kind,ok.glob,ok.blt,ok.above,ok.inj,ok.has,ok.cab,ok.hd,ok.frames,ok.stk,ok.exf,ok.bs,ok.bsz,ok.noex,ok.exfs,ok.funs,ok.frf⟩
theorem Inv.wish(I:Inv X pins σ H s)(E:Value->Shared->Prop):Inv (X.wish E) pins σ H s:=⟨I.ok.wish E,I.os,I.bare,I.base,I.loc,I.cell,I.free,I.freeC,I.pin,I.hok,I.len⟩
theorem Inv.unwish(I:Inv (X.wish E) pins σ H s):Inv X pins σ H s:=⟨I.ok.unwish,I.os,I.bare,I.base,I.loc,I.cell,I.free,I.freeC,I.pin,I.hok,I.len⟩
theorem SP.unwish{D:d3}{f:Flow}{s':Shared}(h:SP (X.wish E) pins D f s'):SP X pins D f s':=by
 cases f with
 | next=>obtain ⟨σ',H',I,q⟩:=h;exact ⟨σ',H',I.unwish,q⟩
 | brk=>obtain ⟨σ',H',I,q⟩:=h;exact ⟨σ',H',I.unwish,q⟩
 | cont=>obtain ⟨σ',H',I,q⟩:=h;exact ⟨σ',H',I.unwish,q⟩
 | ret u=>obtain ⟨v,σ',H',I,r,q⟩:=h;exact ⟨v,σ',H',I.unwish,r,q⟩
theorem PE.nox{t:TE}(h:PE X.nox e t):PE X e t:=λ pins s σ H Q I hw=>
 wpAny_mono (h pins s σ H Q (I.wish _) hw) (λ _ _ ⟨v,H',I',r,q⟩=>⟨v,H',I'.unwish,r,q⟩) λ _ _ z=>False.elim z
theorem PT.nox{t:TT}(h:PT X.nox e t):PT X e t:=λ pins s σ H Q I hw=>
 wpAny_mono (h pins s σ H Q (I.wish _) hw) (λ _ _ ⟨H',I',q⟩=>⟨H',I'.unwish,q⟩) λ _ _ z=>False.elim z
theorem PSs.nox{st:List Stmt}{t:TS}(h:PSs X.nox st t):PSs X st t:=λ pins s σ H D I hw=>
 wpAny_mono (h pins s σ H D (I.wish _) hw) (λ _ _ q=>q.unwish) λ _ _ z=>False.elim z
section
variable {rest:List Stmt} {t u:TS}
def rS:TS:=λ D σ H=>D.nx σ H
def cU(t u:TS):TS:=λ D σ H=>t { D with nx:=u D } σ H
theorem a8:PSs X [] rS:=λ _ _ σ H _ I h=>wpAny_execs_nil ⟨σ,H,I,h⟩
theorem ah(h1:PS X st t)(h2:PSs X rest u):PSs X (st::rest) (cU t u):=by
 intro pins s σ H D I h;refine wpAny_execs_cons (thn (h1 pins s σ H { D with nx:=u D } I h) λ f s1 q=>?_);cases f with
 | next=>
  obtain ⟨σ',H',I',q⟩:=q;exact h2 pins s1 σ' H' D I' q
 | ret v=>exact q
 | brk=>exact q
 | cont=>exact q
theorem ap(h1:PS X st t):PSs X [st] t:=by
 intro pins s σ H D I h;refine wpAny_execs_cons (thn (h1 pins s σ H D I h) λ f s1 q=>?_);cases f with
 | next=>exact wpAny_execs_nil q
 | ret v=>exact q
 | brk=>exact q
 | cont=>exact q
theorem Inv.quiet(I:Inv X pins σ H s):interactive X.env=false:=by simp [interactive,I.ok.kind]
def xW(te:TE):TS:=λ D σ H=>te σ H λ _ H1=>D.nx σ H1
theorem ci(he:PE X e te)(hs:swapsWith e none pos.line X.env=pure false:=by rfl):PS X (.Expr e pos) (xW te):=by
 intro pins s σ H D I h;exact wpAny_Expr_any (thn (he pins s σ H _ I h) λ v s1 ⟨x,H1,I1,r1,q1⟩=>⟨σ,H1,I1,q1⟩) I.quiet hs
def ziN(te:TE):TS:=λ D σ H=>te σ H D.rt
theorem ay(he:PE X e te):PS X (.Return (some e) pos) (ziN te):=by
 intro pins s σ H D I h;exact wpAny_Return_some (thn (he pins s σ H _ I h) λ v s1 ⟨x,H1,I1,r1,q1⟩=>⟨x,σ,H1,I1,r1,q1⟩)
def j9(c:TT)(t u:TS):TS:=λ D σ H=>c σ H λ b H1=>if b=true then t D σ H1 else u D σ H1
theorem aW{c:Expr}{a b:List Stmt}(hc:PT X c tc)(ha:PSs X a t)(hb:PSs X b u):PS X (.If c a b pos) (j9 tc t u):=by
 intro pins s σ H D I h;refine wpAny_If (thn (hc pins s σ H _ I h) λ d s1 ⟨H1,I1,q1⟩=>?_);cases d with
 | true=>exact ha pins s1 σ H1 D I1 q1
 | false=>exact hb pins s1 σ H1 D I1 q1
def ziE:TS:=λ _ _ _=>False
theorem lH{sts:List Stmt}:PSs X sts ziE:=λ _ _ _ _ _ _ h=>h.elim
end
abbrev TG:=V->St->Hp->(St->Hp->Prop)->Prop
variable {g:TG}
abbrev TGs:=List V->St->Hp->(St->Hp->Prop)->Prop
def PG(X:Cx)(target:Expr)(t:TG):Prop:=
 ∀ (pins:List (Addr × Obj)) (s:Shared) (σ:St) (H:Hp) (v:V) (u:Value) (Q:St->Hp->Prop),Inv X pins σ H s->RelV v u->t v σ H Q->
  wpAny (model X.prog X.w) X.A (assign target X.env u) (λ _ s'=>∃ σ' H',Inv X pins σ' H' s'/\Q σ' H') X.xe s
def PGs(X:Cx)(ts:List Expr)(t:TGs):Prop:=
 ∀ (pins:List (Addr × Obj)) (s:Shared) (σ:St) (H:Hp) (vs:List V) (us:List Value) (Q:St->Hp->Prop),Inv X pins σ H s->Vals vs us->t vs σ H Q->
  wpAny (model X.prog X.w) X.A (assignInOrder ((assignEach ts X.env).map (·.2)) us) (λ _ s'=>∃ σ' H',Inv X pins σ' H' s'/\Q σ' H') X.xe s
abbrev mQ:=V->V->V->Hp->(Hp->Prop)->Prop
def sx(X:Cx)(t:mQ):Prop:=
 ∀ (pins:List (Addr × Obj)) (s:Shared) (σ:St) (H:Hp) (o i v:V) (ov iv u:Value) (Q:Hp->Prop),Inv X pins σ H s->RelV o ov->RelV i iv->RelV v u->t o i v H Q->
  wpAny (model X.prog X.w) X.A (setItem ov iv u) (λ _ s'=>∃ H',Inv X pins σ H' s'/\Q H') X.xe s
abbrev TIp:=V->V->Hp->VK->Prop
def PIp(X:Cx)(op:Operator)(t:TIp):Prop:=
 ∀ (pins:List (Addr × Obj)) (s:Shared) (σ:St) (H:Hp) (x y:V) (v u:Value) (Q:VK),Inv X pins σ H s->RelV x v->RelV y u->t x y H Q->
  wpAny (model X.prog X.w) X.A (inplaceOp op v u) (EP X pins σ Q) X.xe s
def dS(i:Nat):TG:=λ v σ H Q=>Q (σ.set i (some v)) H
theorem aR(hN:X.N.Nodup)(hi:X.N[i]?=some x)(hx:Loc X.env.scope x)(hf:X.fn x=true\/X.env.scope.names.lookup x=some .local:=by first | exact .inl rfl | exact .inr rfl | assumption):PG X (.Name x pos) (dS i):=by
 intro pins s σ H v u Q I r h;exact wpAny_assign_Name (j6 I hN hi hx r (λ s' I'=>⟨_,H,I',h⟩) hf)
def uD:TGs:=λ vs σ H Q=>vs=[]/\Q σ H
inductive nJ (t:TG) (u:TGs) (vs:List V) (σ:St) (H:Hp) (Q:St->Hp->Prop):Prop
 | i (v r:_) (_:vs=v::r) (_:t v σ H λ σ' H'=>u r σ' H' Q)
theorem fh:PGs X [] uD:=by
 intro pins s σ H vs us Q I r h;obtain ⟨e,h⟩:=h;subst e;cases r;exact assignInOrder_nil ⟨σ,H,I,h⟩
theorem cK{t:TG}{u:TGs}(h1:PG X e t)(h2:PGs X es u)(hs:(assignEach (e::es) X.env).map (·.2)=assign e X.env::(assignEach es X.env).map (·.2):=by rfl):PGs X (e::es) (nJ t u):=by
 intro pins s σ H vs us Q I r h;obtain ⟨v,vr,e1,h⟩:=h;subst e1;cases r with
 | cons r rr=>
  rw [hs];refine assignInOrder_cons (thn (h1 pins s σ H _ _ _ I r h) λ _ s1 ⟨σ1,H1,I1,q1⟩=>?_);exact h2 pins s1 σ1 H1 _ _ Q I1 rr q1
inductive nL (K:W.Frag) (n:Nat) (t:TGs) (v:V) (σ:St) (H:Hp) (Q:St->Hp->Prop):Prop
 | i (a xs:_) (_:v = .ref a) (_:SqT K H a xs) (_:xs.length=n) (_:t xs σ H Q)
theorem zf6{k:Nat}{t:TGs}(hc:X.calm=true)(h:PGs X es t)(hn:(assignEach es X.env).length=n:=by rfl)(hst:(assignEach es X.env).findIdx? (·.1)=none:=by rfl):PG X (.Tuple es k pos) (nL X.K n t):=by
 intro pins s σ H v u Q I r hw;obtain ⟨a,xs,e1,hq,hl,hw⟩:=hw;subst e1;cases r;obtain ⟨its,rv,ht,hz⟩:=I.tuple hq;refine assign_Tuple_tuple (I.ok.hd hc) ht (by simp [hn,← hl,rv.length]) hst λ h' hx=>?_;have I1:Inv X pins σ H { s with heap:=h' }:=I.kept (t':=s.toks) λ b o e=>hx b o (be (aS e)) e;exact h pins _ σ H xs _ Q I1 (by simpa using rv) hw
def za9(to ti:TE)(t:mQ):TG:=λ v σ H Q=>to σ H λ o H1=>ti σ H1 λ i H2=>t o i v H2 λ H3=>Q σ H3
theorem zf5{o i:Expr}{t:mQ}(ho:PE X o to)(hi:PE X i ti)(hs:sx X t)(ha:∀ v,assign (.Subscript o i pos) X.env v=(do
   let ov ← holding [v] (eval o X.env);let iv ← holding [v,ov] (eval i X.env)
   standAt pos
   holding [v,ov,iv] (setItem ov iv v)
   release [v,ov,iv] []):=by intro _;rfl):PG X (.Subscript o i pos) (za9 to ti t):=by
 intro pins s σ H v u Q I r h;rw [ha];refine ao (wpAny_holding (thn (ho pins s σ H _ I h) λ ov s1 ⟨x,H1,I1,r1,q1⟩=>?_));refine ao (wpAny_holding (thn (hi pins s1 σ H1 _ I1 q1) λ iv s2 ⟨y,H2,I2,r2,q2⟩=>?_));refine ao (wpAny_standAt (ao (wpAny_holding (thn (hs pins s2 σ H2 x y v ov iv u _ I2 r1 r2 r q2) λ _ s3 ⟨H3,I3,q3⟩=>?_))));exact wpAny_release ⟨σ,H3,I3,q3⟩
def j8(te:TE)(g:TG):TS:=λ D σ H=>te σ H λ x H1=>g x σ H1 D.nx
theorem zgh(he:PE X e te)(hg:PG X tg g)(hs:swapsWithSole [tg] e pos.line X.env=pure false:=by rfl)(hw:swappedStores [tg] e X.env=pure none:=by rfl)(h1:(assignEach [tg] X.env).map (·.2)=[assign tg X.env]:=by rfl):PS X (.Assign [tg] e pos) (j8 te g):=by
 intro pins s σ H D I h;refine wpAny_Assign_stores (thn (he pins s σ H _ I h) λ v s1 ⟨x,H1,I1,r1,q1⟩=>?_) hs hw;rw [h1];exact thn (hg pins s1 σ H1 x v _ I1 r1 q1) λ _ s2 q=>q
theorem aD(hN:X.N.Nodup)(hi:X.N[i]?=some x)(hx:Loc X.env.scope x)(he:PE X e te)(hs:swapsWith e (some (.Name x pos')) pos.line X.env=pure false:=by rfl)(hf:X.fn x=true\/X.env.scope.names.lookup x=some .local:=by first | exact .inl rfl | exact .inr rfl | assumption):
  PS X (.Assign [.Name x pos'] e pos) (j8 te (dS i)):=by
 intro pins s σ H D I h;refine wpAny_Assign_Name (thn (he pins s σ H _ I h) λ v s1 ⟨y,H1,I1,r1,q1⟩=>?_) hs;exact j6 I1 hN hi hx r1 (λ s2 I2=>⟨_,H1,I2,q1⟩) hf
inductive zih (i:Nat) (te:TE) (ti:TIp) (D:d3) (σ:St) (H:Hp):Prop
 | i (x:_) (_:σ[i]?=some (some x)) (_:te σ H λ y H1=>ti x y H1 λ z H2=>D.nx (σ.set i (some z)) H2)
theorem wc{op:Operator}{ti:TIp}(hN:X.N.Nodup)(hi:X.N[i]?=some x)(hx:Loc X.env.scope x)(he:PE X e te)(ho:PIp X op ti)(hf:X.fn x=true\/X.env.scope.names.lookup x=some .local:=by first | exact .inl rfl | exact .inr rfl | assumption):
  PS X (.AugAssign (.Name x pos') op e pos) (zih i te ti):=by
 intro pins s σ H D I h;obtain ⟨v,e1,h⟩:=h;obtain ⟨m,hn,hl⟩:=I.loc;have vis:Vis X.env.scope x:=by rcases hx with k | k;exact .inl k;exact .inr (.inl k)
 obtain ⟨u,r,l⟩:=hl i x v hi e1 vis;refine wpAny_AugAssign_Name ?_;have go:wpAny (model X.prog X.w) X.A (eval e X.env) (λ w s₂=>wpAny (model X.prog X.w) X.A (inplaceOp op u w) (λ r s₃=>wpAny (model X.prog X.w) X.A (storeName X.env x r) (λ _=>SP X pins D .next) X.xe s₃) X.xe s₂) X.xe s:=by
  refine thn (he pins s σ H _ I h) λ w s1 ⟨y,H1,I1,r1,q1⟩=>?_;refine thn (ho pins s1 σ H1 v y u w _ I1 r r1 q1) λ z s2 ⟨zv,H2,I2,r2,q2⟩=>?_;exact j6 I2 hN hi hx r2 (λ s3 I3=>⟨_,H2,I3,q2⟩) hf
 rcases l with ⟨hk,hm⟩ | ⟨hk,c,hc,hcell⟩
 ·exact wpAny_loadName_local I.ok.kind hk hn hm go
 ·rcases hk with hk | hk
  ·exact wpAny_loadName_cell I.ok.kind hk hc hcell go
  ·rcases hx with k | k
   ·have:X.env.scope.names.lookup x=some .free:=hk;rw [k] at this;cases this
   ·have:X.env.scope.names.lookup x=some .free:=hk;rw [k] at this;cases this
inductive ipI (f:Int->Int->Int) (x:V) (y:V) (H:Hp) (Q:VK):Prop
 | i (i j:_) (_:x = .int i) (_:y = .int j) (_:Q (.int (f i j)) H)
theorem uO:PIp X .Add (ipI λ i j=>i+j):=by
 intro pins s σ H x y v u Q I r1 r2 h;obtain ⟨i,j,e1,e2,q⟩:=h;subst e1;subst e2;obtain ⟨t,rfl⟩:=r1;obtain ⟨t',rfl⟩:=r2;exact iadd_int ⟨.int _,H,I.tok _,⟨_,rfl⟩,q⟩
def x6(c:TT)(tb:TS):TS:=λ D σ H=>∃ W:Nat->St->Hp->Prop,(∃ m,W m σ H)/\∀ m σ H,W m σ H->
 c σ H λ b H1=>if b=true then ∃ N:St->Hp->Prop,(∀ σ' H',N σ' H'->∃ m',m' < m/\W m' σ' H')/\tb { D with nx:=N,ct:=N,bk:=D.nx } σ H1 else D.nx σ H1
theorem zgm{c:Expr}(hp:PassesOwn (model X.prog X.w) X.A X.env X.xe)(hc:PT X c tc)(hb:PSs X body tb):PS X (.While c body [] pos) (x6 tc tb):=by
 intro pins s σ H D I h;obtain ⟨W,⟨m0,w0⟩,turn⟩:=h;refine wpAny_While (codeAny_whileLoop (λ n s'=>∃ σ' H',Inv X pins σ' H' s'/\W n σ' H') ?_ m0 ⟨σ,H,I,w0⟩);rintro n s1 ⟨σ1,H1,I1,w1⟩;refine wpAny_passesOwn hp (thn (hc pins s1 σ1 H1 _ I1 (turn n σ1 H1 w1)) λ b s2 ⟨H2,I2,q2⟩=>?_);cases b with
 | true=>
  obtain ⟨N,hN,q2⟩:=q2;rw [if_pos rfl];refine wpAny_passesOwn hp (thn (hb pins s2 σ1 H2 _ I2 q2) λ f s3 q3=>?_);cases f with
  | next=>
   obtain ⟨σ3,H3,I3,n3⟩:=q3;obtain ⟨m',hm,w3⟩:=hN σ3 H3 n3;exact ⟨m',hm,σ3,H3,I3,w3⟩
  | cont=>
   obtain ⟨σ3,H3,I3,n3⟩:=q3;obtain ⟨m',hm,w3⟩:=hN σ3 H3 n3;exact ⟨m',hm,σ3,H3,I3,w3⟩
  | brk=>exact q3
  | ret v=>exact q3
 | false=>
  rw [if_neg bC];exact wpAny_execs_nil ⟨σ1,H2,I2,q2⟩
structure It where
 go:Nat->Hp->Prop
 yld:Nat->Hp->V->Hp->Prop
 stop:Nat->Hp->Prop
variable {J:It}
def eU(X:Cx)(pins:List (Addr × Obj))(H:Hp)(b:Addr):Prop:=
 H b=none/\b≠X.env.locals/\b∉X.fs/\(b∈X.ex\/X.s₀.heap.objs.size<=b)/\(∀ x c,X.env.cells.lookup x=some c->c≠b)/\∀ p∈X.pn++pins,p.1≠b
theorem Inv.fpOk(I:Inv X pins σ H s)(hb:s.heap.objs.size<=b)(hn:H' b=none):eU X pins H' b:=by
 refine ⟨hn,Nat.ne_of_gt (bU I.lt hb),I.nofs hb,.inr (Nat.le_trans I.sz hb),λ x c e z=>?_,λ p hp z=>?_⟩
 ·obtain ⟨v,q⟩:=I.cell x c e;exact absurd (bU q.lt (by rw [z];exact hb)) (Nat.lt_irrefl _)
 ·exact absurd (bU (aS (I.pin p hp).1) (by rw [z];exact hb)) (Nat.lt_irrefl _)
structure gp (P:Program) (w:World) (K:W.Frag) (tg:Expr) (J:It) (fp:List Addr) (it:Addr) (tn:Nat->Heap->Prop):Prop where
 mem:it∈fp
 obj:∀ i h,tn i h->∀ b∈fp,∃ o,h.get? b=some o/\∀ v,o.data≠.cell v
 keep:∀ i h h',tn i h->(∀ b∈fp,∀ o,h.get? b=some o->h'.get? b=some o)->tn i h'
 item:∀ (X:Cx),X.prog=P->X.w=w->X.K=K->X.calm=true->∀ (i:Nat) (pins:List (Addr × Obj)) (s:Shared) (σ:St) (H:Hp) (E:Value->Shared->Prop),Inv X pins σ H s->(∀ b∈fp,eU X pins H b)->tn i s.heap->J.go i H->
  wpAny (model P w) X.A (pyNext (.ref it)) (λ r s1=>∃ u,r=some u/\
   wpAny (model P w) X.A (letOwnedTupleGo tg (.ref it) u) (λ _ s2=>∃ x H',Inv X pins σ H' s2/\RelV x u/\J.yld i H x H'/\tn (i+1) s2.heap/\∀ b∈fp,H' b=none) E s1) E s
 done:∀ (X:Cx),X.prog=P->X.w=w->X.K=K->X.calm=true->∀ (i:Nat) (pins:List (Addr × Obj)) (s:Shared) (σ:St) (H:Hp) (E:Value->Shared->Prop),Inv X pins σ H s->(∀ b∈fp,eU X pins H b)->tn i s.heap->J.stop i H->
  wpAny (model P w) X.A (pyNext (.ref it)) (λ r s1=>r=none/\Inv X pins σ H s1) E s
 self:∀ (A:Around) (i:Nat) (s:Shared) (Q:Value->Shared->Prop) (E:Value->Shared->Prop),tn i s.heap->Q (.ref it) s->wpAny (model P w) A (pyIter (.ref it)) Q E s
abbrev TI:=St->Hp->(It->Hp->Prop)->Prop
variable {wi:TI}
def PIE(X:Cx)(pins:List (Addr × Obj))(σ:St)(tg:Expr)(R:It->Hp->Prop)(itv:Value)(s2:Shared):Prop:=
 ∃ (it:Addr) (fp:List Addr) (tn:Nat->Heap->Prop) (J:It) (H':Hp),itv = .ref it/\Inv X pins σ H' s2/\gp X.prog X.w X.K tg J fp it tn/\tn 0 s2.heap/\(∀ b∈fp,eU X pins H' b)/\R J H'
def PI(X:Cx)(tg iter:Expr)(wi:TI):Prop:=
 ∀ (pins:List (Addr × Obj)) (s:Shared) (σ:St) (H:Hp) (R:It->Hp->Prop),Inv X pins σ H s->wi σ H R->
  wpAny (model X.prog X.w) X.A (eval iter X.env) (λ v s1=>wpAny (model X.prog X.w) X.A (pyIter v) (PIE X pins σ tg R) X.xe s1) X.xe s
theorem kY{o:Obj}{n:String}{vs:Array Value}{Q:Unit->Shared->Prop}(ho:s.heap.get? it=some o)(hc:o.cls = .type n)(hd:o.data = .fields vs)(hn:["enumerate", "zip", "dict_itemiterator", "dict_reverseitemiterator", "odict_iterator", "itertools.zip_longest", "itertools.pairwise"].contains n=false)(hQ:Q () s):wpAny M A (letOwnedTupleGo tg (.ref it) u) Q E s:=by
  unfold letOwnedTupleGo;cases tg <;> first
    | exact aL hQ
    | (cases u <;> first
        | exact aL hQ
        | (refine ao (wpAny_load ho ?_)
           rw [hc,hd];show wpAny M A (if (["enumerate", "zip", "dict_itemiterator", "dict_reverseitemiterator", "odict_iterator", "itertools.zip_longest", "itertools.pairwise"].contains n && vs[0]? == some (rawInt _))=true then _ else _) Q E s;rw [if_neg (by intro h;rw [hn,Bool.false_and] at h;cases h)];exact aL hQ))
def Itl(K:W.Frag)(a:Addr):It:=
 ⟨λ i H=>∃ xs x,SqL K H a xs/\xs[i]?=some x,λ i H x H'=>H'=H/\∀ xs,SqL K H a xs->xs[i]?=some x,λ i H=>∃ xs,SqL K H a xs/\xs.length<=i⟩
def Itt(K:W.Frag)(a:Addr):It:=
 ⟨λ i H=>∃ xs x,SqT K H a xs/\xs[i]?=some x,λ i H x H'=>H'=H/\∀ xs,SqT K H a xs->xs[i]?=some x,λ i H=>∃ xs,SqT K H a xs/\xs.length<=i⟩
def Itr(lo:Int)(n:Nat):It:=⟨λ i _=>i < n,λ i H x H'=>H'=H/\x = .int (lo+i),λ i _=>n<=i⟩
theorem zi9(a it:Addr):gp P w K tg (Itl K a) [it] it (λ i h=>h.IsListIter it a i) where
 mem:=by simp
 obj:=λ i h st b hb=>by
  have e:b=it:=by simpa using hb
  subst e;obtain ⟨o,e,c,d⟩:=st;exact ⟨o,e,λ v z=>by rw [d] at z;cases z⟩
 keep:=λ i h h' st k=>st.at λ o e=>k it (by simp) o e
 item:=by
  intro X hP hw hK hc i pins s σ H E I hf st hg;subst hP hw hK;obtain ⟨xs,x,hq,hx⟩:=hg;obtain ⟨its,rv,p,hz⟩:=I.list hq;obtain ⟨u,hu,ru⟩:=rv.get hx;obtain ⟨f0,f1,f2,f3,f4,f5⟩:=hf it (by simp);refine wpAny_pyNext_list_item st p.isList (x:=u) (by simpa using hu) λ h' st' sb=>?_;have I1:Inv X pins σ H { s with heap:=h' }:=I.turned (t':=s.toks) (λ b o hb e=>(sb.2 b hb).trans e) f0 f1 f3 f4 f5;obtain ⟨o,e,c,d⟩:=id st';exact ⟨u,rfl,kY (s:={ s with heap:=h' }) e c d (by decide) ⟨x,H,I1,ru,⟨rfl,λ ys hy=>by rw [I.list_inj hy hq];exact hx⟩,st',λ b hb=>(hf b hb).1⟩⟩
 done:=by
  intro X hP hw hK hc i pins s σ H E I hf st hg;subst hP hw hK;obtain ⟨xs,hq,hx⟩:=hg;obtain ⟨its,rv,p,hz⟩:=I.list hq;obtain ⟨f0,f1,f2,f3,f4,f5⟩:=hf it (by simp);have hl:=rv.length;exact wpAny_pyNext_list_end (I.ok.hd hc) st p.isList (by simp;omega) λ h' eb=>⟨rfl,I.turned (t':=s.toks) (λ b o hb e=>eb b o hb e) f0 f1 f3 f4 f5⟩
 self:=λ _ _ _ _ _ st h=>wpAny_pyIter_listiter st h
theorem zjb(a it:Addr):gp P w K tg (Itt K a) [it] it (λ i h=>h.IsTupleIter it a i) where
 mem:=by simp
 obj:=λ i h st b hb=>by
  have e:b=it:=by simpa using hb
  subst e;obtain ⟨o,e,c,d⟩:=st;exact ⟨o,e,λ v z=>by rw [d] at z;cases z⟩
 keep:=λ i h h' st k=>st.at λ o e=>k it (by simp) o e
 item:=by
  intro X hP hw hK hc i pins s σ H E I hf st hg;subst hP hw hK;obtain ⟨xs,x,hq,hx⟩:=hg;obtain ⟨its,rv,p,hz⟩:=I.tuple hq;obtain ⟨u,hu,ru⟩:=rv.get hx;obtain ⟨f0,f1,f2,f3,f4,f5⟩:=hf it (by simp);refine wpAny_pyNext_tuple_item st (show s.heap.IsTuple a its.toArray from p) (x:=u) (by simpa using hu) λ h' st' sb=>?_;have I1:Inv X pins σ H { s with heap:=h' }:=I.turned (t':=s.toks) (λ b o hb e=>(sb.2 b hb).trans e) f0 f1 f3 f4 f5;obtain ⟨o,e,c,d⟩:=id st';exact ⟨u,rfl,kY (s:={ s with heap:=h' }) e c d (by decide) ⟨x,H,I1,ru,⟨rfl,λ ys hy=>by rw [I.tuple_inj hy hq];exact hx⟩,st',λ b hb=>(hf b hb).1⟩⟩
 done:=by
  intro X hP hw hK hc i pins s σ H E I hf st hg;subst hP hw hK;obtain ⟨xs,hq,hx⟩:=hg;obtain ⟨its,rv,p,hz⟩:=I.tuple hq;obtain ⟨f0,f1,f2,f3,f4,f5⟩:=hf it (by simp);have hl:=rv.length;exact wpAny_pyNext_tuple_end (I.ok.hd hc) st (show s.heap.IsTuple a its.toArray from p) (by simp;omega) λ h' eb=>⟨rfl,I.turned (t':=s.toks) (λ b o hb e=>eb b o hb e) f0 f1 f3 f4 f5⟩
 self:=λ _ _ _ _ _ st h=>wpAny_pyIter_tupleiter st h
theorem zja(it:Addr)(lo:Int)(n:Nat):gp P w K tg (Itr lo n) [it] it (λ i h=>IsRangeIter h it (lo+(i:Nat) * 1) ((n:Int) - (i:Nat)) 1) where
 mem:=by simp
 obj:=λ i h st b hb=>by
  have e:b=it:=by simpa using hb
  subst e;exact ⟨_,st,λ v z=>by
   have z':Data.fields _=Data.cell v:=z;cases z'⟩
 keep:=λ i h h' st k=>k it (by simp) _ st
 item:=by
  intro X hP hw hK hc i pins s σ H E I hf st hg;subst hP hw hK;obtain ⟨f0,f1,f2,f3,f4,f5⟩:=hf it (by simp);have W:=Walks.range (prog:=X.prog) (w:=X.w) (I.ok.hd hc) it lo 1 n;refine W.item i s _ _ hg st λ v h' tk hv st' kk=>?_;obtain ⟨t,rfl⟩:=hv;have I1:Inv X pins σ H { s with heap:=h',toks:=tk }:=I.turned (λ b o hb e=>kk b o (by simpa using hb) e) f0 f1 f3 f4 f5;refine ⟨_,rfl,kY (s:={ s with heap:=h',toks:=tk }) (n := "range_iterator") st' rfl rfl (by decide) ⟨.int (lo+i),H,I1,⟨t,?_⟩,⟨rfl,rfl⟩,st',λ b hb=>(hf b hb).1⟩⟩;rw [Int.mul_one]
 done:=by
  intro X hP hw hK hc i pins s σ H E I hf st hg;subst hP hw hK;obtain ⟨f0,f1,f2,f3,f4,f5⟩:=hf it (by simp);exact wpAny_pyNext_range_end (I.ok.hd hc) st (by have:n<=i:=hg;omega) λ h' eb=>⟨rfl,I.turned (t':=s.toks) (λ b o hb e=>eb b o hb e) f0 f1 f3 f4 f5⟩
 self:=λ _ _ _ _ _ st h=>wpAny_pyIter_rangeiter st h
inductive zbq (K:W.Frag) (R:It->Hp->Prop) (x:V) (H1:Hp):Prop
 | i (a:_) (_:x = .ref a) (_:(∃ xs,SqL K H1 a xs)) (_:R (Itl K a) H1)
def zbp(K:W.Frag)(tl:TE):TI:=λ σ H R=>tl σ H λ x H1=>zbq K R x H1
inductive zbG (K:W.Frag) (R:It->Hp->Prop) (x:V) (H1:Hp):Prop
 | i (a:_) (_:x = .ref a) (_:(∃ xs,SqT K H1 a xs)) (_:R (Itt K a) H1)
def zbF(K:W.Frag)(tl:TE):TI:=λ σ H R=>tl σ H λ x H1=>zbG K R x H1
theorem bN{l:Expr}(hl:PE X l tl):PI X tg l (zbp X.K tl):=by
 intro pins s σ H R I h;refine thn (hl pins s σ H _ I h) λ v s1 ⟨x,H1,I1,r1,q1⟩=>?_;obtain ⟨a,e,⟨xs,hq⟩,q⟩:=q1;subst e;cases r1;obtain ⟨its,rv,p,hz⟩:=I1.list hq;refine wpAny_pyIter_list p.isList ?_;refine ⟨s1.heap.objs.size,[s1.heap.objs.size],_,_,H1,rfl,I1.kept (t':=s1.toks) λ b o e=>bf _ e,zi9 a _,⟨_,Heap.get?_push_size _ rfl,rfl,rfl⟩,λ b hb=>?_,q⟩;have e:b=s1.heap.objs.size:=by simpa using hb
 subst e;exact I1.fpOk (az _) (I1.hok.fresh (az _))
theorem lC{l:Expr}(hl:PE X l tl):PI X tg l (zbF X.K tl):=by
 intro pins s σ H R I h;refine thn (hl pins s σ H _ I h) λ v s1 ⟨x,H1,I1,r1,q1⟩=>?_;obtain ⟨a,e,⟨xs,hq⟩,q⟩:=q1;subst e;cases r1;obtain ⟨its,rv,p,hz⟩:=I1.tuple hq;refine wpAny_pyIter_tuple (show s1.heap.IsTuple a its.toArray from p) ?_;refine ⟨s1.heap.objs.size,[s1.heap.objs.size],_,_,H1,rfl,I1.kept (t':=s1.toks) λ b o e=>bf _ e,zjb a _,⟨_,Heap.get?_push_size _ rfl,rfl,rfl⟩,λ b hb=>?_,q⟩;have e:b=s1.heap.objs.size:=by simpa using hb
 subst e;exact I1.fpOk (az _) (I1.hok.fresh (az _))
theorem wC{R:It->Hp->Prop}{hi:Int}{t u v:Tok}(I:Inv X pins σ H s)(h1 : -(2 ^ 62)<=lo)(h2:lo < 2 ^ 62)(h3 : -(2 ^ 62)<=hi)(h4:hi < 2 ^ 62)(q:R (Itr lo (hi - lo).toNat) H):wpAny (model X.prog X.w) X.A (pyIter (.ref s.heap.objs.size)) (PIE X pins σ tg R) E { s with heap:=s.heap.push { cls:=.type "range", data:=.fields #[.int lo t,.int hi u,.int 1 v] },toks:=tk }:=by
 refine wpAny_pyIter_range (IsRange.new ..) (small_one h1 h2 h3 h4) ?_;have I1:Inv X pins σ H { s with heap:=s.heap.push { cls:=.type "range", data:=.fields #[.int lo t,.int hi u,.int 1 v] },toks:=tk }:=I.kept λ b o e=>bf _ e;refine ⟨(s.heap.push { cls:=.type "range", data:=.fields #[.int lo t,.int hi u,.int 1 v] }).objs.size,[(s.heap.push { cls:=.type "range", data:=.fields #[.int lo t,.int hi u,.int 1 v] }).objs.size],_,_,H,rfl,
  I1.kept (t':=tk) λ b o e=>bf _ e,zja _ lo (hi - lo).toNat,?_,λ b hb=>?_,q⟩
 ·have e1:lo+((0:Nat):Int) * 1=lo:=by simp
  have e2:(((hi - lo).toNat:Nat):Int) - ((0:Nat):Int)=Builtin.Range.rangeSize lo hi 1:=by rw [rangeSize_one];split <;> omega
  show IsRangeIter _ _ (lo+((0:Nat):Int) * 1) ((((hi - lo).toNat:Nat):Int) - ((0:Nat):Int)) 1;rw [e1,e2];exact Heap.get?_push_size _ rfl
 ·have e:b=(s.heap.push { cls:=.type "range", data:=.fields #[.int lo t,.int hi u,.int 1 v] }).objs.size:=by simpa using hb
  subst e;exact I1.fpOk (az _) (I1.hok.fresh (az _))
inductive zbA (R:It->Hp->Prop) (vs:List V) (H1:Hp):Prop
 | i (j:Int) (_:vs=[.int j]) (_ : -(2 ^ 62)<=j) (_:j < 2 ^ 62) (_:R (Itr 0 j.toNat) H1)
def zbz(ta:TA):TI:=λ σ H R=>ta σ H λ vs H1=>zbA R vs H1
inductive zbC (R:It->Hp->Prop) (vs:List V) (H1:Hp):Prop
 | i (i j:Int) (_:vs=[.int i,.int j]) (_:(-(2 ^ 62)<=i/\i < 2 ^ 62/\-(2 ^ 62)<=j/\j < 2 ^ 62)) (_:R (Itr i (j - i).toNat) H1)
def zbB(ta:TA):TI:=λ σ H R=>ta σ H λ vs H1=>zbC R vs H1
theorem fi{a:Expr}{ta:TA}(hg:Gl X "range")(hm:X.mg "range" = none)(ha:PA X [a] ta)(hs:starEach [a] X.env=[(false,eval a X.env)]:=by rfl):PI X tg (.Call (.Name "range" p) [a] [] pos) (zbz ta):=by
 intro pins s σ H R I h;refine Call_ (eJ I hg hm boot_range (PyProof.Rows.callWith_type1 (thn (ha pos pins s σ H _ I h) λ us s1 ⟨vs,H1,I1,r1,q1⟩=>?_) hs rfl));obtain ⟨j,e,q1,q2,q⟩:=q1;subst e;cases r1 with
 | cons r rr=>
  cases rr;obtain ⟨t,rfl⟩:=r;exact call_range_1 (wC I1 (by omega) (by omega) q1 q2 (by simpa using q))
theorem lB{a b:Expr}{ta:TA}(hg:Gl X "range")(hm:X.mg "range" = none)(ha:PA X [a,b] ta)(hs:starEach [a,b] X.env=[(false,eval a X.env),(false,eval b X.env)]:=by rfl)(hs2:starEach [b] X.env=[(false,eval b X.env)]:=by rfl):
  PI X tg (.Call (.Name "range" p) [a,b] [] pos) (zbB ta):=by
 intro pins s σ H R I h;refine Call_ (eJ I hg hm boot_range (PyProof.Rows.callWith_type1 (thn (ha pos pins s σ H _ I h) λ us s1 ⟨vs,H1,I1,r1,q1⟩=>?_) (by rw [hs,hs2]) (by rw [hs2];rfl)));obtain ⟨i,j,e,⟨q1,q2,q3,q4⟩,q⟩:=q1;subst e;cases r1 with
 | cons r rr=>
  cases rr with
  | cons r' rr=>
   cases rr;obtain ⟨t,rfl⟩:=r;obtain ⟨t',rfl⟩:=r';exact call_range_2 (wC I1 q1 q2 q3 q4 q)
def ziz(wi:TI)(g:TG)(tb:TS):TS:=λ D σ H=>wi σ H λ J H1=>∃ W:Nat->Nat->St->Hp->Prop,(∃ m,W 0 m σ H1)/\∀ i m σ H,W i m σ H->
 (J.stop i H/\D.nx σ H)\/(J.go i H/\∃ N:St->Hp->Prop,(∀ σ' H',N σ' H'->∃ m',m' < m/\W (i+1) m' σ' H')/\∀ x H',J.yld i H x H'->g x σ H' λ σ2 H2=>tb { D with nx:=N,ct:=N,bk:=D.nx } σ2 H2)
def jP(fp:List Addr)(h:Heap):List (Addr × Obj):=fp.filterMap λ b=>(h.get? b).map λ o=>(b,o)
theorem lj{o:Obj}(hb:b∈fp)(e:h.get? b=some o):(b,o)∈jP fp h:=List.mem_filterMap.mpr ⟨b,hb,by rw [e];rfl⟩
theorem zd9{p:Addr × Obj}(hp:p∈jP fp h):p.1∈fp/\h.get? p.1=some p.2:=by
 obtain ⟨b,hb,e⟩:=List.mem_filterMap.mp hp;cases q:h.get? b with
 | none=>rw [q] at e;cases e
 | some o=>
  rw [q] at e;have e':(b,o)=p:=bL e;subst e';exact ⟨hb,q⟩
theorem Inv.pinned(I:Inv X pins σ H s)(hf:∀ b∈fp,eU X pins H b)(ho:∀ b∈fp,∃ o,s.heap.get? b=some o/\∀ v,o.data≠.cell v):Inv X (pins++jP fp s.heap) σ H s:=
 I.pins_of λ p hp=>(al_mp.mp hp).elim (λ z=>I.pin p (List.mem_append_right _ z)) λ z=>by
  obtain ⟨hb,e⟩:=zd9 z;obtain ⟨f0,f1,f2,_⟩:=hf p.1 hb;obtain ⟨o,e',d⟩:=ho p.1 hb;rw [e] at e';cases e';exact ⟨e,f0,f1,f2,d⟩
theorem Inv.unpinned{pl:List (Addr × Obj)}(I:Inv X (pins++pl) σ H s):Inv X pins σ H s:=I.pins_of λ p hp=>I.pin p (List.mem_append_right _ (List.mem_append_left _ hp))
theorem wf(hp:PassesOwn (model X.prog X.w) X.A X.env X.xe)(hc:X.calm=true)(hi:PI X tg iter wi)(hg:PG X tg g)(hb:PSs X body tb)(hs:∀ x,foldedSetIterable iter X.env x=pure x:=by intro _;rfl):PS X (.For tg iter body [] pos) (ziz wi g tb):=by
 intro pins s σ H D I h;refine wpAny_For (thn (hi pins s σ H _ I h) λ v s1 h1=>thn h1 λ itv s2 h2=>?_) hs;obtain ⟨it,fp,tn,J,H2,e,I2,T,st2,f2,W,⟨m0,w0⟩,turn⟩:=h2;subst e
 -- what stays true of the iterator's objects through the loop
 have stat:∀ {H':Hp},(∀ b∈fp,H' b=none)->∀ b∈fp,eU X pins H' b:=λ hn b hb=>⟨hn b hb,(f2 b hb).2⟩
 refine codeAny_forLoop_any (λ n s'=>∃ i σ' H',Inv X pins σ' H' s'/\tn i s'.heap/\(∀ b∈fp,H' b=none)/\W i n σ' H') ?_ m0 ⟨0,σ,H2,I2,st2,λ b hb=>(f2 b hb).1,w0⟩;rintro n s3 ⟨i,σ3,H3,I3,st3,fr3,w3⟩;rcases turn i n σ3 H3 w3 with ⟨stop,qn⟩ | ⟨go,N,hN,step⟩
 ·refine wpAny_passesOwn hp (thn (T.done X rfl rfl rfl hc i pins s3 σ3 H3 X.xe I3 (stat fr3) st3 stop) λ r s4 ⟨hr,I4⟩=>?_);subst hr;exact wpAny_execs_nil ⟨σ3,H3,I4,qn⟩
 ·refine wpAny_passesOwn hp (thn (T.item X rfl rfl rfl hc i pins s3 σ3 H3 X.xe I3 (stat fr3) st3 go) λ r s4 ⟨u,hr,h4⟩=>?_);subst hr;refine wpAny_passesOwn hp (thn h4 λ _ s5 ⟨x,H5,I5,r5,y5,st5,fr5⟩=>?_);have I5':=I5.pinned (stat fr5) (T.obj _ _ st5);refine wpAny_passesOwn hp (thn (hg _ s5 σ3 H5 x u _ I5' r5 (step x H5 y5)) λ _ s6 ⟨σ6,H6,I6,q6⟩=>?_);refine wpAny_passesOwn hp (thn (hb _ s6 σ6 H6 _ I6 q6) λ f s7 q7=>?_);have again:∀ {σ7:St} {H7:Hp},Inv X (pins++jP fp s5.heap) σ7 H7 s7->N σ7 H7->∃ m,m < n/\∃ i σ' H',Inv X pins σ' H' s7/\tn i s7.heap/\(∀ b∈fp,H' b=none)/\W i m σ' H':=λ {σ7 H7} I7 n7=>by
   obtain ⟨m',hm,w7⟩:=hN σ7 H7 n7;refine ⟨m',hm,i+1,σ7,H7,I7.unpinned,T.keep _ _ _ st5 λ b hb o e=>(I7.pin (b,o) (List.mem_append_right _ (List.mem_append_right _ (lj hb e)))).1,λ b hb=>?_,w7⟩;obtain ⟨o,e,d⟩:=T.obj _ _ st5 b hb;exact (I7.pin (b,o) (List.mem_append_right _ (List.mem_append_right _ (lj hb e)))).2.1
  cases f with
  | next=>obtain ⟨σ7,H7,I7,n7⟩:=q7;exact again I7 n7
  | cont=>obtain ⟨σ7,H7,I7,n7⟩:=q7;exact again I7 n7
  | brk=>obtain ⟨σ7,H7,I7,q7⟩:=q7;exact ⟨σ7,H7,I7.unpinned,q7⟩
  | ret v=>obtain ⟨x7,σ7,H7,I7,r7,q7⟩:=q7;exact ⟨x7,σ7,H7,I7.unpinned,r7,q7⟩
theorem gw(Pv:Nat->St->Hp->Prop)(h0:Pv 0 σ H)(hl:∀ i σ H,i<=xs.length->Pv i σ H->SqL K H a xs)(hs:∀ i x σ H,xs[i]?=some x->Pv i σ H->g x σ H λ σ2 H2=>tb { D with nx:=Pv (i+1),ct:=Pv (i+1),bk:=D.nx } σ2 H2)(hd:∀ σ H,Pv xs.length σ H->D.nx σ H):
  ∃ W:Nat->Nat->St->Hp->Prop,(∃ m,W 0 m σ H)/\∀ i m σ H,W i m σ H->
   ((Itl K a).stop i H/\D.nx σ H)\/((Itl K a).go i H/\∃ N:St->Hp->Prop,(∀ σ' H',N σ' H'->∃ m',m' < m/\W (i+1) m' σ' H')/\∀ x H',(Itl K a).yld i H x H'->g x σ H' λ σ2 H2=>tb { D with nx:=N,ct:=N,bk:=D.nx } σ2 H2):=by
 refine ⟨λ i m σ H=>m=xs.length - i/\i<=xs.length/\Pv i σ H,⟨xs.length,by simp,Nat.zero_le _,h0⟩,?_⟩;rintro i m σ H ⟨rfl,hi,p⟩;have q:=hl i σ H hi p;by_cases hlt:i < xs.length
 ·refine .inr ⟨⟨xs,xs[i],q,by simp [hlt]⟩,Pv (i+1),λ σ' H' p'=>⟨xs.length - (i+1),by omega,rfl,hlt,p'⟩,λ x H' y=>?_⟩;obtain ⟨e,y⟩:=y;subst e;exact hs i x σ _ (y xs q) p
 ·have e:i=xs.length:=by omega
  subst e;exact .inl ⟨⟨xs,q,az _⟩,hd σ H p⟩
theorem za1(Pv:Nat->St->Hp->Prop)(h0:Pv 0 σ H)(hl:∀ i σ H,i<=xs.length->Pv i σ H->SqT K H a xs)(hs:∀ i x σ H,xs[i]?=some x->Pv i σ H->g x σ H λ σ2 H2=>tb { D with nx:=Pv (i+1),ct:=Pv (i+1),bk:=D.nx } σ2 H2)(hd:∀ σ H,Pv xs.length σ H->D.nx σ H):
  ∃ W:Nat->Nat->St->Hp->Prop,(∃ m,W 0 m σ H)/\∀ i m σ H,W i m σ H->
   ((Itt K a).stop i H/\D.nx σ H)\/((Itt K a).go i H/\∃ N:St->Hp->Prop,(∀ σ' H',N σ' H'->∃ m',m' < m/\W (i+1) m' σ' H')/\∀ x H',(Itt K a).yld i H x H'->g x σ H' λ σ2 H2=>tb { D with nx:=N,ct:=N,bk:=D.nx } σ2 H2):=by
 refine ⟨λ i m σ H=>m=xs.length - i/\i<=xs.length/\Pv i σ H,⟨xs.length,by simp,Nat.zero_le _,h0⟩,?_⟩;rintro i m σ H ⟨rfl,hi,p⟩;have q:=hl i σ H hi p;by_cases hlt:i < xs.length
 ·refine .inr ⟨⟨xs,xs[i],q,by simp [hlt]⟩,Pv (i+1),λ σ' H' p'=>⟨xs.length - (i+1),by omega,rfl,hlt,p'⟩,λ x H' y=>?_⟩;obtain ⟨e,y⟩:=y;subst e;exact hs i x σ _ (y xs q) p
 ·have e:i=xs.length:=by omega
  subst e;exact .inl ⟨⟨xs,q,az _⟩,hd σ H p⟩
theorem iT(Pv:Nat->St->Hp->Prop)(h0:Pv 0 σ H)(hs:∀ i σ H,i < n->Pv i σ H->g (.int (lo+i)) σ H λ σ2 H2=>tb { D with nx:=Pv (i+1),ct:=Pv (i+1),bk:=D.nx } σ2 H2)(hd:∀ σ H,Pv n σ H->D.nx σ H):
  ∃ W:Nat->Nat->St->Hp->Prop,(∃ m,W 0 m σ H)/\∀ i m σ H,W i m σ H->
   ((Itr lo n).stop i H/\D.nx σ H)\/((Itr lo n).go i H/\∃ N:St->Hp->Prop,(∀ σ' H',N σ' H'->∃ m',m' < m/\W (i+1) m' σ' H')/\∀ x H',(Itr lo n).yld i H x H'->g x σ H' λ σ2 H2=>tb { D with nx:=N,ct:=N,bk:=D.nx } σ2 H2):=by
 refine ⟨λ i m σ H=>m=n - i/\i<=n/\Pv i σ H,⟨n,by simp,Nat.zero_le _,h0⟩,?_⟩;rintro i m σ H ⟨rfl,hi,p⟩;by_cases hlt:i < n
 ·refine .inr ⟨hlt,Pv (i+1),λ σ' H' p'=>⟨n - (i+1),by omega,rfl,hlt,p'⟩,λ x H' y=>?_⟩;obtain ⟨e,y⟩:=y;subst e y;exact hs i σ _ hlt p
 ·have e:i=n:=by omega
  subst e;exact .inl ⟨az _,hd σ H p⟩
abbrev R2:=V->V->Hp->VK->Prop
def OpR(X:Cx)(f:Value->Value->Sem Value)(r:R2):Prop:=
 ∀ (pins:List (Addr × Obj)) (s:Shared) (σ:St) (H:Hp) (x y:V) (v u:Value) (Q:VK),Inv X pins σ H s->RelV x v->RelV y u->r x y H Q->
  wpAny (model X.prog X.w) X.A (f v u) (EP X pins σ Q) X.xe s
def UnR(X:Cx)(f:Value->Sem Value)(r:V->Hp->VK->Prop):Prop:=
 ∀ (pins:List (Addr × Obj)) (s:Shared) (σ:St) (H:Hp) (x:V) (v:Value) (Q:VK),Inv X pins σ H s->RelV x v->r x H Q->
  wpAny (model X.prog X.w) X.A (f v) (EP X pins σ Q) X.xe s
def CallR(X:Cx)(f:Value)(r:List V->Hp->VK->Prop):Prop:=
 ∀ (pins:List (Addr × Obj)) (s:Shared) (σ:St) (H:Hp) (xs:List V) (us:List Value) (Q:VK),Inv X pins σ H s->Vals xs us->r xs H Q->
  wpAny (model X.prog X.w) X.A (call f us) (EP X pins σ Q) X.xe s
def zE(X:Cx)(r:V->Hp->(Bool->Hp->Prop)->Prop):Prop:=
 ∀ (pins:List (Addr × Obj)) (s:Shared) (σ:St) (H:Hp) (x:V) (v:Value) (Q:Bool->Hp->Prop),Inv X pins σ H s->RelV x v->r x H Q->
  wpAny (model X.prog X.w) X.A (truthy v) (TP X pins σ Q) X.xe s
def tOp(r:R2)(ta tb:TE):TE:=λ σ H Q=>ta σ H λ x H1=>tb σ H1 λ y H2=>r x y H2 Q
def tUn(r:V->Hp->VK->Prop)(ta:TE):TE:=λ σ H Q=>ta σ H λ x H1=>r x H1 Q
inductive rI (C:Int->Int->Prop) (g:Int->Int->V) (x:V) (y:V) (H:Hp) (Q:VK):Prop
 | i (i j:_) (_:x = .int i) (_:y = .int j) (_:C i j) (_:Q (g i j) H)
inductive rI0 (g:Int->Int->V) (x:V) (y:V) (H:Hp) (Q:VK):Prop
 | i (i j:_) (_:x = .int i) (_:y = .int j) (_:Q (g i j) H)
inductive rU (g:Int->V) (x:V) (H:Hp) (Q:VK):Prop
 | i (i:_) (_:x = .int i) (_:Q (g i) H)
section
variable {a b c:Expr} {tb tc:TE}
theorem m8(ha:PE X a ta)(hb:PE X b tb){R:V->V->Hp->Prop}(I:Inv X pins σ H s)(h:ta σ H λ x H1=>tb σ H1 λ y H2=>R x y H2)(hf:∀ v u s2 x y H2,Inv X pins σ H2 s2->RelV x v->RelV y u->R x y H2->wpAny (model X.prog X.w) X.A (f v u) Q X.xe s2):
  wpAny (model X.prog X.w) X.A (eval a X.env) (λ v s₁=>wpAny (model X.prog X.w) X.A (eval b X.env) (λ u s₂=>wpAny (model X.prog X.w) X.A (f v u) Q X.xe s₂) X.xe s₁) X.xe s:=by
 refine thn (ha pins s σ H _ I h) λ v s1 ⟨x,H1,I1,r1,q1⟩=>?_;refine thn (hb pins s1 σ H1 _ I1 q1) λ u s2 ⟨y,H2,I2,r2,q2⟩=>?_;exact hf v u s2 x y H2 I2 r1 r2 q2
theorem ak{op:Operator}{r:R2}(ho:OpR X (binaryOp op) r)(ha:PE X a ta)(hb:PE X b tb):PE X (.BinOp a op b pos) (tOp r ta tb):=by
 intro pins s σ H Q I h;exact wpAny_BinOp (m8 ha hb I h λ v u s2 x y H2 I2 rx ry q=>ho pins s2 σ H2 x y v u Q I2 rx ry q)
theorem dC{op:UnaryOp}{r:V->Hp->VK->Prop}(ho:UnR X (unaryOp op) r)(ha:PE X a ta):PE X (.UnaryOp op a pos) (tUn r ta):=by
 intro pins s σ H Q I h;exact UnaryOp_ (thn (ha pins s σ H _ I h) λ v s1 ⟨x,H1,I1,r1,q1⟩=>ho pins s1 σ H1 x v Q I1 r1 q1)
theorem opI{C:Int->Int->Prop}{g:Int->Int->Int}(rule:∀ (i j:Int) (t u:Tok) (s:Shared) (Q:Value->Shared->Prop) (E:Value->Shared->Prop),C i j->Q (.int (g i j) s.toks) { s with toks:=s.toks+1 }->wpAny (model X.prog X.w) X.A (f (.int i t) (.int j u)) Q E s):
  OpR X f (rI C λ i j=>.int (g i j)):=by
 intro pins s σ H x y v u Q I rx ry h;obtain ⟨i,j,rfl,rfl,hc,q⟩:=h;obtain ⟨t,rfl⟩:=rx;obtain ⟨t',rfl⟩:=ry;exact rule i j t t' s _ _ hc ⟨.int (g i j),H,I.tok _,⟨_,rfl⟩,q⟩
theorem oB{g:Int->Int->Int}(rule:∀ (i j:Int) (t u:Tok) (s:Shared) (Q:Value->Shared->Prop) (E:Value->Shared->Prop),Q (.int (g i j) s.toks) { s with toks:=s.toks+1 }->wpAny (model X.prog X.w) X.A (f (.int i t) (.int j u)) Q E s):
  OpR X f (rI0 λ i j=>.int (g i j)):=by
 intro pins s σ H x y v u Q I rx ry h;obtain ⟨i,j,rfl,rfl,q⟩:=h;obtain ⟨t,rfl⟩:=rx;obtain ⟨t',rfl⟩:=ry;exact rule i j t t' s _ _ ⟨.int (g i j),H,I.tok _,⟨_,rfl⟩,q⟩
theorem ls{g:Int->Int->Bool}(rule:∀ (i j:Int) (t u:Tok) (s:Shared) (Q:Value->Shared->Prop) (E:Value->Shared->Prop),Q (.bool (g i j)) s->wpAny (model X.prog X.w) X.A (f (.int i t) (.int j u)) Q E s):
  OpR X f (rI0 λ i j=>.bl (g i j)):=by
 intro pins s σ H x y v u Q I rx ry h;obtain ⟨i,j,rfl,rfl,q⟩:=h;obtain ⟨t,rfl⟩:=rx;obtain ⟨t',rfl⟩:=ry;exact rule i j t t' s _ _ ⟨.bl (g i j),H,I,rfl,q⟩
def md(i j:Int):Prop:=0 < j/\j < 1073741824
def CMul(i j:Int):Prop:=(-(2 ^ 64) < i/\i < 2 ^ 64)\/(-(2 ^ 64) < j/\j < 2 ^ 64)
theorem CMul.ok{i j:Int}(h:CMul i j):IntMulOk i j:=by
 rcases h with ⟨h1,h2⟩ | ⟨h1,h2⟩
 ·exact .of_left (intBits_le_64 h1 h2)
 ·exact .of_right (intBits_le_64 h1 h2)
theorem zjd(k:Nat):(0:Int)<=2 ^ k:=by
 rw [two_pow_cast];exact Int.natCast_nonneg _
theorem a7:OpR X (binaryOp .Add) (rI0 λ i j=>.int (i+j)):=oB λ _ _ _ _ _ _ _ q=>add_int q
theorem bK:OpR X (binaryOp .Sub) (rI0 λ i j=>.int (i - j)):=oB λ _ _ _ _ _ _ _ q=>sub_int q
theorem cX:OpR X (binaryOp .Mult) (rI CMul λ i j=>.int (i * j)):=opI λ _ _ _ _ _ _ _ hc q=>mul_int q hc.ok
theorem dJ:OpR X (binaryOp .FloorDiv) (rI md λ i j=>.int (i / j)):=opI λ i j _ _ _ _ _ hc q=>by
 have h1:(0:Int) < j:=hc.1;have h2:j < 1073741824:=hc.2;exact floordiv_int (by omega) (by rw [Int.fdiv_eq_ediv_of_nonneg i (by omega)];exact q) (.inl (PyProof.noPylong_small (by omega)))
theorem cE:OpR X (binaryOp .Mod) (rI (λ _ j=>0 < j) λ i j=>.int (i % j)):=opI λ i j _ _ _ _ _ hc q=>by
 have h1:(0:Int) < j:=hc;exact mod_int' (by omega) (by rw [Int.fmod_eq_emod_of_nonneg i (by omega)];exact q)
theorem zfP:OpR X (binaryOp .RShift) (rI (λ _ j=>0<=j) λ i j=>.int (i / 2 ^ j.toNat)):=opI λ i j _ _ _ _ _ hc q=>
 rshift_int hc (by rw [Int.fdiv_eq_ediv_of_nonneg i (zjd _)];exact q)
theorem zfG:OpR X (binaryOp .BitAnd) (rI0 λ i j=>.int (Builtin.bitAnd i j)):=oB λ _ _ _ _ _ _ _ q=>and_int q
theorem unI{f:Value->Sem Value}{g:Int->Int}(rule:∀ (i:Int) (t:Tok) (s:Shared) (Q:Value->Shared->Prop) (E:Value->Shared->Prop),Q (.int (g i) s.toks) { s with toks:=s.toks+1 }->wpAny (model X.prog X.w) X.A (f (.int i t)) Q E s):
  UnR X f (rU λ i=>.int (g i)):=by
 intro pins s σ H x v Q I rx h;obtain ⟨i,rfl,q⟩:=h;obtain ⟨t,rfl⟩:=rx;exact rule i t s _ _ ⟨.int (g i),H,I.tok _,⟨_,rfl⟩,q⟩
theorem dF:UnR X (unaryOp .USub) (rU λ i=>.int (-i)):=unI λ _ _ _ _ _ q=>neg_int q
end
def qY:V->V->Bool
 | .non,.non=>true | .non,.int _=>true | .int _,.non=>true | .non,.bl _=>true | .bl _,.non=>true | .non,.str _=>true | .str _,.non=>true
 | .int _,.int _=>true | .bl _,.bl _=>true | .str _,.str _=>true | .byt _,.byt _=>true
 | .int _,.str _=>true | .str _,.int _=>true | .bl _,.str _=>true | .str _,.bl _=>true
 | _,_=>false
def rEq:R2:=λ x y H Q=>qY x y=true/\Q (.bl (decide (x=y))) H
def rNe:R2:=λ x y H Q=>qY x y=true/\Q (.bl (!decide (x=y))) H
theorem dec_int{i j:Int}:decide (V.int i=V.int j)=(i == j):=by
 rw [Bool.eq_iff_iff];simp
theorem t6{i j:Bool}:decide (V.bl i=V.bl j)=(i == j):=by
 rw [Bool.eq_iff_iff];simp
theorem ua{i j:Str}:decide (V.str i=V.str j)=(i == j):=by
 rw [Bool.eq_iff_iff];simp
theorem t9{i j:Array UInt8}:decide (V.byt i=V.byt j)=(i.toList == j.toList):=by
 rw [Bool.eq_iff_iff];cases i;cases j;simp
section
variable {a b c:Expr} {tb tc:TE}
theorem bX{Q:VK}{k k':Bool}(I:Inv X pins σ H s)(q:Q (.bl k) H)(e:k=k'):EP X pins σ Q (.bool k') s:=by
 subst e;exact ⟨.bl k,H,I,rfl,q⟩
theorem cb:OpR X (compareOp .Eq) rEq:=by
 intro pins s σ H x y v u Q I rx ry h;obtain ⟨hs,q⟩:=h;cases x with
 | non=>
  cases rx;cases y with
  | non=>cases ry;exact PySem.EqNone.eq_none_none (bX I q (by simp))
  | bl j=>cases ry;exact PySem.EqNone.eq_none_bool (bX I q (by simp))
  | int j=>obtain ⟨t',rfl⟩:=ry;exact PySem.EqNone.eq_none_int (bX I q (by simp))
  | str j=>obtain ⟨t',rfl⟩:=ry;exact PySem.EqNone.eq_none_str (bX I q (by simp))
  | _=>exact absurd (show false=true from hs) bC
 | bl i=>
  cases rx;cases y with
  | non=>cases ry;exact PySem.EqNone.eq_bool_none (bX I q (by simp))
  | bl j=>cases ry;exact eq_bool (bX I q t6)
  | str j=>obtain ⟨t',rfl⟩:=ry;exact PySem.EqMixed.eq_bool_str (bX I q (by simp))
  | _=>exact absurd (show false=true from hs) bC
 | int i=>
  obtain ⟨t,rfl⟩:=rx;cases y with
  | non=>cases ry;exact PySem.EqNone.eq_int_none (bX I q (by simp))
  | int j=>obtain ⟨t',rfl⟩:=ry;exact eq_int (bX I q dec_int)
  | str j=>obtain ⟨t',rfl⟩:=ry;exact PySem.EqMixed.eq_int_str (bX I q (by simp))
  | _=>exact absurd (show false=true from hs) bC
 | str i=>
  obtain ⟨t,rfl⟩:=rx;cases y with
  | non=>cases ry;exact PySem.EqNone.eq_str_none (bX I q (by simp))
  | bl j=>cases ry;exact PySem.EqMixed.eq_str_bool (bX I q (by simp))
  | int j=>obtain ⟨t',rfl⟩:=ry;exact PySem.EqMixed.eq_str_int (bX I q (by simp))
  | str j=>obtain ⟨t',rfl⟩:=ry;exact eq_str (bX I q ua)
  | _=>exact absurd (show false=true from hs) bC
 | byt i=>
  obtain ⟨t,rfl⟩:=rx;cases y with
  | byt j=>obtain ⟨t',rfl⟩:=ry;exact W.eq_bytes (bX I q t9)
  | _=>exact absurd (show false=true from hs) bC
 | _=>cases y <;> exact absurd (show false=true from hs) bC
theorem dW:OpR X (compareOp .NotEq) rNe:=by
 intro pins s σ H x y v u Q I rx ry h;obtain ⟨hs,q⟩:=h;cases x with
 | non=>
  cases rx;cases y with
  | non=>cases ry;exact PySem.EqNone.ne_none_none (bX I q (by simp))
  | bl j=>cases ry;exact PySem.EqNone.ne_none_bool (bX I q (by simp))
  | int j=>obtain ⟨t',rfl⟩:=ry;exact PySem.EqNone.ne_none_int (bX I q (by simp))
  | str j=>obtain ⟨t',rfl⟩:=ry;exact PySem.EqNone.ne_none_str (bX I q (by simp))
  | _=>exact absurd (show false=true from hs) bC
 | bl i=>
  cases rx;cases y with
  | non=>cases ry;exact PySem.EqNone.ne_bool_none (bX I q (by simp))
  | bl j=>cases ry;exact ne_bool (bX I q (congrArg not t6))
  | str j=>obtain ⟨t',rfl⟩:=ry;exact PySem.EqMixed.ne_bool_str (bX I q (by simp))
  | _=>exact absurd (show false=true from hs) bC
 | int i=>
  obtain ⟨t,rfl⟩:=rx;cases y with
  | non=>cases ry;exact PySem.EqNone.ne_int_none (bX I q (by simp))
  | int j=>obtain ⟨t',rfl⟩:=ry;exact ne_int (bX I q (congrArg not dec_int))
  | str j=>obtain ⟨t',rfl⟩:=ry;exact PySem.EqMixed.ne_int_str (bX I q (by simp))
  | _=>exact absurd (show false=true from hs) bC
 | str i=>
  obtain ⟨t,rfl⟩:=rx;cases y with
  | non=>cases ry;exact PySem.EqNone.ne_str_none (bX I q (by simp))
  | bl j=>cases ry;exact PySem.EqMixed.ne_str_bool (bX I q (by simp))
  | int j=>obtain ⟨t',rfl⟩:=ry;exact PySem.EqMixed.ne_str_int (bX I q (by simp))
  | str j=>obtain ⟨t',rfl⟩:=ry;exact ne_str (bX I q (congrArg not ua))
  | _=>exact absurd (show false=true from hs) bC
 | byt i=>
  obtain ⟨t,rfl⟩:=rx;cases y with
  | byt j=>obtain ⟨t',rfl⟩:=ry;exact W.ne_bytes (bX I q (congrArg not t9))
  | _=>exact absurd (show false=true from hs) bC
 | _=>cases y <;> exact absurd (show false=true from hs) bC
theorem ig:OpR X (compareOp .Lt) (rI0 λ i j=>.bl (decide (i < j))):=ls λ _ _ _ _ _ _ _ q=>lt_int q
theorem i7:OpR X (compareOp .LtE) (rI0 λ i j=>.bl (decide (i<=j))):=ls λ _ _ _ _ _ _ _ q=>le_int q
theorem dU:OpR X (compareOp .Gt) (rI0 λ i j=>.bl (decide (j < i))):=ls λ _ _ _ _ _ _ _ q=>gt_int q
theorem lu:OpR X (compareOp .GtE) (rI0 λ i j=>.bl (decide (j<=i))):=ls λ _ _ _ _ _ _ _ q=>ge_int q
theorem dL:OpR X (compareOp .Is) (λ x y H Q=>y = .non/\Q (.bl (decide (x = .non))) H):=by
 intro pins s σ H x y v u Q I rx ry h;obtain ⟨rfl,q⟩:=h;cases ry;refine is_none_gen (bX I q ?_);cases x <;> first
  | (cases rx;rfl)
  | (obtain ⟨t,rfl⟩:=rx;rfl)
theorem gF:OpR X (compareOp .IsNot) (λ x y H Q=>y = .non/\Q (.bl (!decide (x = .non))) H):=by
 intro pins s σ H x y v u Q I rx ry h;obtain ⟨rfl,q⟩:=h;cases ry;refine isnot_none_gen (bX I q ?_);cases x <;> first
  | (cases rx;rfl)
  | (obtain ⟨t,rfl⟩:=rx;rfl)
theorem OpR.or{r r':R2}(h:OpR X f r)(h':OpR X f r'):OpR X f (λ x y H Q=>r x y H Q\/r' x y H Q):=by
 intro pins s σ H x y v u Q I rx ry q;rcases q with q | q
 ·exact h pins s σ H x y v u Q I rx ry q
 ·exact h' pins s σ H x y v u Q I rx ry q
theorem aB(b:Expr)(h:op≠.In:=by decide)(h2:op≠.NotIn:=by decide):behindInMarks op b=false:=by
 have e1:(op == CmpOp.In)=false:=by cases op <;> first | rfl | exact absurd rfl h
 have e2:(op == CmpOp.NotIn)=false:=by cases op <;> first | rfl | exact absurd rfl h2
 cases b <;> simp [behindInMarks,e1,e2]
theorem dY{r:R2}(ho:OpR X (compareOp op) r)(ha:PE X a ta)(hb:PE X b tb)(hm:behindInMarks op b=false):PE X (.Compare a [op] [b] pos) (tOp r ta tb):=by
 intro pins s σ H Q I h;exact wpAny_Compare1 (m8 ha hb I h λ v u s2 x y H2 I2 rx ry q=>ho pins s2 σ H2 x y v u Q I2 rx ry q) hm
inductive ziR (Q:Bool->Hp->Prop) (x:V) (H':Hp):Prop
 | i (k:_) (_:x = .bl k) (_:Q k H')
def je(t:TE):TT:=λ σ H Q=>t σ H λ x H'=>ziR Q x H'
theorem aF{r:R2}(ho:OpR X (compareOp op) r)(ha:PE X a ta)(hb:PE X b tb)(hm:behindInMarks op b=false):PT X (.Compare a [op] [b] pos) (je (tOp r ta tb)):=by
 intro pins s σ H Q I h;refine wpAny_isTrue_Compare1 (thn (ha pins s σ H _ I h) λ v s1 ⟨x,H1,I1,r1,q1⟩=>thn (hb pins s1 σ H1 _ I1 q1) λ u s2 ⟨y,H2,I2,r2,q2⟩=>
  thn (ho pins s2 σ H2 x y v u _ I2 r1 r2 q2) λ c s3 ⟨z,H3,I3,r3,k,e,q3⟩=>?_) hm
 subst e;cases r3;exact wpAny_truthy_bool ⟨H3,I3,q3⟩
inductive zim (r':R2) (tc:TE) (σ:St) (Q:VK) (y:V) (z:V) (H3:Hp):Prop
 | i (k:_) (_:z = .bl k) (_:(if k=true then tc σ H3 λ w' H4=>r' y w' H4 Q else Q (.bl false) H3))
def xS(r r':R2)(ta tb tc:TE):TE:=λ σ H Q=>ta σ H λ x H1=>tb σ H1 λ y H2=>r x y H2 λ z H3=>zim r' tc σ Q y z H3
theorem vT{r r':R2}(ho:OpR X (compareOp op) r)(ho':OpR X (compareOp op') r')(ha:PE X a ta)(hb:PE X b tb)(hc:PE X c tc)(hm:lastMarks [op,op'] [b,c]=false:=by with_unfolding_all rfl):PE X (.Compare a [op,op'] [b,c] pos) (xS r r' ta tb tc):=by
 intro pins s σ H Q I h;refine Compare_chain (thn (ha pins s σ H _ I h) λ v s1 ⟨x,H1,I1,r1,q1⟩=>chain_link (thn (hb pins s1 σ H1 _ I1 q1) λ u s2 ⟨y,H2,I2,r2,q2⟩=>
  thn (ho pins s2 σ H2 x y v u _ I2 r1 r2 q2) λ d s3 ⟨z,H3,I3,r3,k,e,q3⟩=>?_)) hm
 subst e;cases r3;refine wpAny_truthy_bool ?_;cases k with
 | false=>exact ite_ff ⟨.bl false,H3,I3,rfl,q3⟩
 | true=>exact ite_tt (chain_last (thn (hc pins s3 σ H3 _ I3 q3) λ w' s4 ⟨z',H4,I4,r4,q4⟩=>ho' pins s4 σ H4 y z' u w' Q I4 r2 r4 q4))
theorem wj{r r':R2}(ho:OpR X (compareOp op) r)(ho':OpR X (compareOp op') r')(ha:PE X a ta)(hb:PE X b tb)(hc:PE X c tc)(hm:lastMarks [op,op'] [b,c]=false:=by with_unfolding_all rfl):PT X (.Compare a [op,op'] [b,c] pos) (je (xS r r' ta tb tc)):=by
 intro pins s σ H Q I h;refine isTrue_chain (thn (ha pins s σ H _ I h) λ v s1 ⟨x,H1,I1,r1,q1⟩=>test_link (thn (hb pins s1 σ H1 _ I1 q1) λ u s2 ⟨y,H2,I2,r2,q2⟩=>
  thn (ho pins s2 σ H2 x y v u _ I2 r1 r2 q2) λ d s3 ⟨z,H3,I3,r3,k,e,q3⟩=>?_)) hm
 subst e;cases r3;refine wpAny_truthy_bool ?_;cases k with
 | false=>
  obtain ⟨k',e',q'⟩:=q3;cases e';exact ite_ff ⟨H3,I3,q'⟩
 | true=>
  refine ite_tt (test_last (thn (hc pins s3 σ H3 _ I3 q3) λ w' s4 ⟨z',H4,I4,r4,q4⟩=>thn (ho' pins s4 σ H4 y z' u w' _ I4 r2 r4 q4) λ d' s5 ⟨z2,H5,I5,r5,k2,e2,q5⟩=>?_));subst e2;cases r5;exact wpAny_truthy_bool ⟨H5,I5,q5⟩
def mT(K:W.Frag)(x:V)(H:Hp)(k:Bool):Prop:=
 match x with
 | .non=>k=false
 | .bl b=>k=b
 | .int i=>k=(i != 0)
 | .str y=>y.length<=sizeLine/\k=((y.length:Int) != 0)
 | .byt y=>y.size<=sizeLine/\k=((y.size:Int) != 0)
 | .ref p=>(∃ xs,SqL K H p xs/\k = !xs.isEmpty)\/(∃ xs,SqT K H p xs/\k = !xs.isEmpty)\/∃ kvs,H p=some (.dK kvs)/\k = !kvs.isEmpty
 | _=>False
theorem zbO{kvs:List (κ × V)}{vs:List (κ × Value)}(r:KV kvs vs):(!vs.isEmpty) = !kvs.isEmpty:=by
 cases r <;> rfl
theorem uP(r:Vals xs its):(!its.toArray.isEmpty) = !xs.isEmpty:=by
 cases r <;> simp
theorem hJ:(sizeLine:Nat) < 2 ^ 63:=by rw [sizeLine_eq];decide
theorem yf:zE X (λ x H Q=>∃ k,mT X.K x H k/\Q k H):=by
 intro pins s σ H x v Q I rx h;obtain ⟨k,e,q⟩:=h;have hl:=hJ;have hs:sizeLine=16777216:=sizeLine_eq;cases x with
 | non=>
  cases rx;have e':k=false:=e;subst e';exact truthy_none ⟨H,I,q⟩
 | bl b=>
  cases rx;have e':k=b:=e;subst e';exact wpAny_truthy_bool ⟨H,I,q⟩
 | int i=>
  obtain ⟨t,rfl⟩:=rx;have e':k=(i != 0):=e;subst e';exact PySem.P.truthy_int ⟨H,I,q⟩
 | str y=>
  obtain ⟨t,rfl⟩:=rx;obtain ⟨hy,e'⟩:y.length<=sizeLine/\k=((y.length:Int) != 0):=e;subst e';exact PySem.P.truthy_str (by omega) ⟨H,I.tok _,q⟩
 | byt y=>
  obtain ⟨t,rfl⟩:=rx;obtain ⟨hy,e'⟩:y.size<=sizeLine/\k=((y.size:Int) != 0):=e;subst e';exact W.truthy_bytes (by omega) ⟨H,I.tok _,q⟩
 | ref p=>
  cases rx;have e':(∃ xs,SqL X.K H p xs/\k = !xs.isEmpty)\/(∃ xs,SqT X.K H p xs/\k = !xs.isEmpty)\/∃ kvs,H p=some (.dK kvs)/\k = !kvs.isEmpty:=e;rcases e' with ⟨xs,hx,e'⟩ | ⟨xs,hx,e'⟩ | ⟨kvs,hx,e'⟩
  ·subst e';obtain ⟨its,r,pl,hz⟩:=I.list hx;have hlen:=r.length;exact wpAny_truthy_list pl.isList (by simp only [aT];omega) ⟨H,I.tok _,by rw [uP r];exact q⟩
  ·subst e';obtain ⟨its,r,pl,hz⟩:=I.tuple hx;have hlen:=r.length;exact truthy_tuple pl (by simp only [aT];omega) ⟨H,I.tok _,by rw [uP r];exact q⟩
  ·subst e';obtain ⟨hz,hS,vs,r,m⟩:kvs.length<=sizeLine/\(p == sysModules)=false/\∃ vs,KV kvs vs/\s.heap.DictOf (cO X.prog X.w) p vs:=I.hok p _ hx;have hlen:kvs.length=vs.length:=Paired.length r;exact wpAny_truthy_dict hS m (by omega) ⟨H,I.tok _,by rw [zbO r];exact q⟩
 | _=>exact (show False from e).elim
theorem zgp(ha:PE X a ta)(he:∀ whole,isTrue a X.env whole=(do let v ← whole;standAt a.pos;holding [v] (truthy v))):
  PT X a (λ σ H Q=>ta σ H λ x H'=>∃ k,mT X.K x H' k/\Q k H'):=by
 intro pins s σ H Q I h;exact isTrue_plain (thn (ha pins s σ H _ I h) λ v s1 ⟨x,H1,I1,r1,q1⟩=>yf pins s1 σ H1 x v Q I1 r1 q1) (he _)
theorem gi:OpR X (binaryOp .Add) (λ x y H Q=>∃ i j,x = .str i/\y = .str j/\i.length+j.length<=sizeLine/\Q (.str (i++j)) H):=by
 intro pins s σ H x y v u Q I rx ry h;obtain ⟨i,j,rfl,rfl,hz,q⟩:=h;obtain ⟨t,rfl⟩:=rx;obtain ⟨t',rfl⟩:=ry;exact add_str (λ t' tk=>⟨.str (i++j),H,I.tok _,⟨_,rfl⟩,q⟩) hz
theorem dk{x:V}(r:Vals [x] us):∃ u,us=[u]/\RelV x u:=by
 cases r with
 | cons r1 r2=>cases r2;exact ⟨_,rfl,r1⟩
theorem ji{x y:V}(r:Vals [x,y] us):∃ u w',us=[u,w']/\RelV x u/\RelV y w':=by
 cases r with
 | cons r1 r2=>
  cases r2 with
  | cons r3 r4=>cases r4;exact ⟨_,_,rfl,r1,r3⟩
theorem tI(hc:X.calm=true):CallR X (.builtin "max") (λ xs H Q=>∃ i j,xs=[.int i,.int j]/\Q (.int (if j > i then j else i)) H):=by
 intro pins s σ H xs us Q I r h;obtain ⟨i,j,rfl,q⟩:=h;obtain ⟨u,w',rfl,⟨t,rfl⟩,⟨t',rfl⟩⟩:=ji r;refine max_two_ints (I.ok.hd hc) λ h' tk k=>⟨_,H,I.kept k,?_,q⟩
 by_cases hj:j > i
 ·rw [if_pos hj,if_pos hj];exact ⟨_,rfl⟩
 ·rw [if_neg hj,if_neg hj];exact ⟨_,rfl⟩
theorem zau(hc:X.calm=true):CallR X (.builtin "min") (λ xs H Q=>∃ i j,xs=[.int i,.int j]/\Q (.int (if j < i then j else i)) H):=by
 intro pins s σ H xs us Q I r h;obtain ⟨i,j,rfl,q⟩:=h;obtain ⟨u,w',rfl,⟨t,rfl⟩,⟨t',rfl⟩⟩:=ji r;refine min_two_ints (I.ok.hd hc) λ h' tk k=>⟨_,H,I.kept k,?_,q⟩
 by_cases hj:j < i
 ·rw [if_pos hj,if_pos hj];exact ⟨_,rfl⟩
 ·rw [if_neg hj,if_neg hj];exact ⟨_,rfl⟩
theorem zao:CallR X (.type "int") (λ xs H Q=>(∃ i,xs=[.int i]/\Q (.int i) H)\/∃ k,xs=[.bl k]/\Q (.int (if k then 1 else 0)) H):=by
 intro pins s σ H xs us Q I r h;rcases h with ⟨i,rfl,q⟩ | ⟨k,rfl,q⟩
 ·obtain ⟨u,rfl,t,rfl⟩:=dk r;exact call_int_int ⟨.int i,H,I,⟨_,rfl⟩,q⟩
 ·obtain ⟨u,rfl,r1⟩:=dk r;cases r1;exact call_int_bool ⟨.int (if k then 1 else 0),H,I.tok _,⟨_,rfl⟩,q⟩
end
structure ObjM (h:Heap) (x dx C:Addr) (mA:Str->Option Value):Prop where
 obj:h.get? x=some (W.instObj C dx)
 ns:h.Ns1 dx mA
 ne:dx≠x
theorem zck(n:h.Ns1 dx mA):∃ od,h.get? dx=some od/\∀ name,W.lookIn name od=some (mA name):=by
 obtain ⟨o,es,ep,ho,hd,hk,_,hm⟩:=n;refine ⟨o,ho,λ name=>?_⟩;have e:=hm name;unfold nsFind findBy at e;rw [← Array.find?_toList] at e;unfold W.lookIn;rw [hd];dsimp only
 split
 ·rename_i y q
  rw [q] at e;exact congrArg some e
 ·rename_i q
  rw [q] at e;have a:es.toList.any (·.refKey)=false:=by
   rw [List.any_eq_false];intro y hy;obtain ⟨z,t,hkey⟩:=hk y (Array.mem_toList_iff.mp hy);simp [DictEntry.refKey,hkey]
  have a':¬ es.toList.any (·.refKey)=true:=by rw [a];exact bC
  rw [if_neg a'];exact congrArg some e
theorem ObjM.look{x:Addr}(I:ObjM h x dx C mA):∃ od,W.InstAt h x (W.instObj C dx) C (some od)/\∀ name,W.lookIn name od=some (mA name):=
 let ⟨od,ho,hl⟩:=zck I.ns
 ⟨od,⟨I.obj,rfl,rfl,ho⟩,hl⟩
section
variable {x f:Addr}
theorem zbf{expr:Bool}(X:K.In s.heap)(I:ObjM s.heap x dx C mA)(hg:W.plainGet K C name=true)(hh:W.hasDictIn K C=true)(ha:W.findIn K (.ref C) name=some none)(hv:mA name=some v)(hv':W.handedIn v=true)(h:Q v { s with toks:=s.toks+1 }):
  wpAny (model prog w) A (getAttr (.ref x) name expr) Q E s:=by
 obtain ⟨od,J,hl⟩:=I.look;exact W.get_value X J (W.plainGet_of hg).1 (W.findObj_own hh ha rfl (by rw [hl,hv])) hv' h
theorem zbg{Q:Value × List Value->Shared->Prop}(X:K.In s.heap)(I:ObjM s.heap x dx C mA)(hg:W.plainGet K C name=true)(hf:W.findIn K (.ref C) name=some (some (.ref f)))(ht:W.isFn K (.ref f)=true)(hv:mA name=none)(h:Q (.ref f,[.ref x]) s):
  wpAny (model prog w) A (getMethod (.ref x) name pl) Q E s:=by
 obtain ⟨od,J,hl⟩:=I.look;exact W.method_fn X J (W.plainGet_of hg).1 (W.plainGet_of hg).2 hf (beq_iff_eq.mp ht) (by show (W.lookIn name od).map (·.isSome)=some false;rw [hl,hv];rfl) h
theorem zh0{ns:List Str}{Q:Unit->Shared->Prop}(X:K.In s.heap)(I:ObjM s.heap x dx C mA)(hs:W.findIn K (.ref C) "__setattr__" = some (some (.builtin "object.__setattr__")))(hp:W.plainOver K C=true)(ht:W.takerIn K C name=some none)(hh:W.hasDictIn K C=true)(hw:PySem.Within mA ns)(hsz:ns.length<=sizeLine)(h:∀ h',ObjM h' x dx C (λ y=>if y=name then some v else mA y)->Heap.SameBut dx s.heap h'->Q () { s with heap:=h',toks:=s.toks+2 }):
  wpAny (model prog w) A (setAttr (.ref x) name v) Q E s:=by
 obtain ⟨od,J,hl⟩:=I.look;refine W.set_plain X J hs (W.osa_open (s:={ s with toks:=s.toks+1 }) (r:=none) X J hp ht λ b=>?_);obtain ⟨cd,hc,hd'⟩:=W.any_some hh;have hx:s.heap.get? x=some ⟨.ref C,some dx,.plain,#[]⟩:=I.obj;refine ao (aL (ao (ao (wpAny_loadPart hx (ao (W.Looks.here (s:={ s with toks:=s.toks+1 }) (W.looks_clsIn X hc) ?_))))));rw [hd'];refine aL (a:=some dx) (ao (aL (ao ?_)));refine wpAny_nsSet1 (s:={ s with toks:=s.toks+1 }) I.ns λ h' hn2 hs2=>?_;obtain ⟨oD,esD,epD,hoD,hdD,hcD⟩:=hn2.count (PySem.Within.cons name v hw);refine ao (wpAny_lookBehind hoD (by rw [hdD];exact pastItsLine_dict (Nat.le_trans hcD (by rw [bY];omega))) ?_);exact aL (h _ ⟨(hs2.2 _ (Ne.symm I.ne)).trans I.obj,hn2,I.ne⟩ hs2)
theorem zcN(X:K.In s.heap)(hm:W.makesIn K C=true)(hi:W.findIn K (.ref C) "__init__" = some (some (.ref f)))(hf:W.typeIn K (.ref f)=some (.type "function"))(h:codeAny (model prog w) (A.under (.builtin "type.__call__" ⟨.ref C::vs,kw⟩)) (.call (.ref f) ⟨.ref (s.heap.objs.size+1)::vs,kw⟩) (W.InitBack (s.heap.objs.size+1) R)
   { s with heap:=(s.heap.push W.emptyDict).push (W.instObj C s.heap.objs.size) }):
  codeAny (model prog w) A (.call (.ref C) ⟨vs,kw⟩) R s:=by
 obtain ⟨hh,g,d,t,os⟩:=s;exact W.make_core (W.makes_of X hm) (W.looks_findIn X hi) (λ self=>W.bind_fn X self hf) (.inl rfl) h
end
def dj(f:Str)(v:V):List (Str × V)->List (Str × V)
 | []=>[(f,v)]
 | (g,x)::r=>if g=f then (g,v)::r else (g,x)::dj f v r
theorem ve(f g:Str)(v:V):∀ fs:List (Str × V),(dj f v fs).lookup g=if g=f then some v else fs.lookup g
 | []=>by
  show List.lookup g [(f,v)]=_;by_cases h:g=f
  ·have hb:(g == f)=true:=beq_iff_eq.mpr h;simp only [List.lookup,hb,if_pos h]
  ·have hb:(g == f)=false:=beq_eq_false_iff_ne.mpr h;simp only [List.lookup,hb,if_neg h]
 | (k,x)::r=>by
  have ih:=ve f g v r;rw [show dj f v ((k,x)::r)=(if k=f then (k,v)::r else (k,x)::dj f v r) from rfl];by_cases hk:k=f
  ·rw [if_pos hk];by_cases h:g=k
   ·have hb:(g == k)=true:=beq_iff_eq.mpr h;simp only [List.lookup,hb,if_pos (h.trans hk)]
   ·have hb:(g == k)=false:=beq_eq_false_iff_ne.mpr h;simp only [List.lookup,hb,if_neg (λ e:g=f=>h (e.trans hk.symm))]
  ·rw [if_neg hk];by_cases h:g=k
   ·have hb:(g == k)=true:=beq_iff_eq.mpr h;simp only [List.lookup,hb,if_neg (λ e:g=f=>hk (h.symm.trans e))]
   ·have hb:(g == k)=false:=beq_eq_false_iff_ne.mpr h;simp only [List.lookup,hb];exact ih
theorem og(f:Str)(v:V):∀ fs:List (Str × V),f∈(dj f v fs).map (·.1)/\∀ g,g∈fs.map (·.1)->g∈(dj f v fs).map (·.1)
 | []=>⟨by simp [dj],λ g h=>by simp at h⟩
 | (k,x)::r=>by
  obtain ⟨i1,i2⟩:=og f v r;rw [show dj f v ((k,x)::r)=(if k=f then (k,v)::r else (k,x)::dj f v r) from rfl];by_cases hk:k=f
  ·rw [if_pos hk];subst hk;exact ⟨by simp,λ g h=>by simpa using h⟩
  ·rw [if_neg hk];refine ⟨?_,λ g h=>?_⟩
   ·rw [bE];exact bV _ i1
   ·rw [bE] at h ⊢;rcases al_mc.mp h with e | e
    ·exact al_mc.mpr (.inl e)
    ·exact bV _ (i2 g e)
theorem va(f:Str)(v:V):∀ fs:List (Str × V),(dj f v fs).length<=fs.length+1
 | []=>by simp [dj]
 | (k,x)::r=>by
  have ih:=va f v r;rw [show dj f v ((k,x)::r)=(if k=f then (k,v)::r else (k,x)::dj f v r) from rfl];by_cases hk:k=f
  ·rw [if_pos hk,bY,bY];omega
  ·rw [if_neg hk,bY,bY];omega
theorem RelO.some_of{v:V}{o:Option Value}(r:RelO (some v) o):∃ u,o=some u/\RelV v u:=by
 cases o with
 | none=>exact (show False from r).elim
 | some u=>exact ⟨u,rfl,r⟩
theorem RelO.none_of{o:Option Value}(r:RelO none o):o=none:=by
 cases o with
 | none=>rfl
 | some u=>exact (show False from r).elim
theorem zbk{v:V}(r:RelV v u):W.handedIn u=true:=by
 cases v with
 | non=>cases (show u=Value.none from r);rfl
 | bl b=>cases (show u=Value.bool b from r);rfl
 | int i=>obtain ⟨t,e⟩:=(show ∃ t,u=Value.int i t from r);cases e;rfl
 | str x=>obtain ⟨t,e⟩:=(show ∃ t,u=Value.str x t from r);cases e;rfl
 | byt b=>obtain ⟨t,e⟩:=(show ∃ t,u=Value.bytes b t from r);cases e;rfl
 | flt b=>obtain ⟨t,e⟩:=(show ∃ t,u=Value.float b t from r);cases e;rfl
 | ref a=>cases (show u=Value.ref a from r);rfl
 | ty n=>cases (show u=Value.type n from r);rfl
section
variable {fs fs':List (Str × V)}
theorem k8(hok:HOk P w H h)(e:H a=some (.ins C dx fs)):∃ mA,ObjM h a dx C mA/\(∀ f,RelO (fs.lookup f) (mA f))/\PySem.Within mA (fs.map (·.1))/\fs.length<=1000/\H dx=some (.own a):=by
 obtain ⟨d,z,ne,ob,mA,n,r,q⟩:=(show ObjOk P w H h a (.ins C dx fs) from hok a _ e)
 exact ⟨mA,⟨ob,n,ne⟩,r,q,z,d⟩
end
structure Cls (K:W.Frag) (C:Addr):Prop where
 pg:W.plainGet K C Str.empty=true
 hd:W.hasDictIn K C=true
 po:W.plainOver K C=true
 sa:W.findIn K (.ref C) "__setattr__" = some (some (.builtin "object.__setattr__"))
theorem Cls.get(c:Cls K C)(f:Str):W.plainGet K C f=true:=c.pg
def NoAttr(K:W.Frag)(C:Addr)(f:Str):Prop:=W.findIn K (.ref C) f=some none
theorem NoAttr.taker{f:Str}(n:NoAttr K C f):W.takerIn K C f=some none:=by
 unfold W.takerIn;rw [show W.findIn K (.ref C) f=some none from n];rfl
structure iH (K:W.Frag) (C:Addr) (m:Str) (f:Addr):Prop where
 at_:W.findIn K (.ref C) m=some (some (.ref f))
 fn:W.isFn K (.ref f)=true
 kp:W.keepIn K (.ref f)=true
section
variable {fs:List (Str × V)} {f:Str} {v:V}
theorem uI{b:Bool}(I:Inv X pins σ H s)(e:H a=some (.ins C dx fs))(c:Cls X.K C)(n:NoAttr X.K C f)(l:fs.lookup f=some v)(h:∀ u s',Inv X pins σ H s'->RelV v u->Q u s'):wpAny (model X.prog X.w) A (getAttr (.ref a) f b) Q E s:=by
 obtain ⟨mA,O,r,_,_,_⟩:=k8 I.hok e;obtain ⟨u,hu,ru⟩:=RelO.some_of (v:=v) (o:=mA f) (by rw [← l];exact r f);exact zbf I.kIn O (c.get f) c.hd n hu (zbk ru) (h u _ (I.tok _) ru)
theorem nU{m:Str}{g:Addr}{Q:Value × List Value->Shared->Prop}(I:Inv X pins σ H s)(e:H a=some (.ins C dx fs))(c:Cls X.K C)(k:iH X.K C m g)(l:fs.lookup m=none)(h:Q (.ref g,[.ref a]) s):wpAny (model X.prog X.w) A (getMethod (.ref a) m pl) Q E s:=by
 obtain ⟨mA,O,r,_,_,_⟩:=k8 I.hok e;have hn:mA m=none:=RelO.none_of (by rw [← l];exact r m);exact zbg I.kIn O (c.get m) k.at_ k.fn hn h
theorem wM{y:V}{Q:Unit->Shared->Prop}(I:Inv X pins σ H s)(e:H a=some (.ins C dx fs))(c:Cls X.K C)(n:NoAttr X.K C f)(hl:fs.length < 1000)(ry:RelV y u)(h:∀ s',Inv X pins σ (upd H a (.ins C dx (dj f y fs))) s'->Q () s'):wpAny (model X.prog X.w) A (setAttr (.ref a) f u) Q E s:=by
 obtain ⟨mA,O,r,wi,_,ho⟩:=k8 I.hok e;have hz:(fs.map (·.1)).length<=sizeLine:=by rw [ae,sizeLine_eq];omega
 refine zh0 I.kIn O c.sa c.po n.taker c.hd wi hz λ h' O' sb=>h _ ?_;have hd:∃ o,h'.get? dx=some o:=let ⟨o,_,_,e',_⟩:=O'.ns;⟨o,e'⟩;refine I.write (x:=a) (e:=dx) (by rw [e];exact True.intro) (.inr ho) (λ b q hb z=>(sb.2 b hb).trans z) hd ?_;refine ⟨by rw [aj O.ne];exact ho,?_,O.ne,O'.obj,_,O'.ns,λ g=>?_,λ g hg=>?_⟩
 ·have:=va f y fs;omega
 ·show RelO ((dj f y fs).lookup g) (if g=f then some u else mA g);rw [ve];by_cases q:g=f
  ·rw [if_pos q,if_pos q];exact ry
  ·rw [if_neg q,if_neg q];exact r g
 ·by_cases q:g=f
  ·rw [q];exact (og f y fs).1
  ·refine (og f y fs).2 g (wi g λ z=>hg ?_);show (if g=f then some u else mA g)=none;rw [if_neg q];exact z
theorem Inv.made(I:Inv X pins σ H s):Inv X pins σ (upd (upd H s.heap.objs.size (.own (s.heap.objs.size+1))) (s.heap.objs.size+1) (.ins C s.heap.objs.size []))
  { s with heap:=(s.heap.push W.emptyDict).push (W.instObj C s.heap.objs.size) }:=by
 have e1:(s.heap.push W.emptyDict).get? s.heap.objs.size=some W.emptyDict:=Heap.get?_push_size s.heap rfl;have e2:((s.heap.push W.emptyDict).push (W.instObj C s.heap.objs.size)).get? (s.heap.objs.size+1)=some (W.instObj C s.heap.objs.size):=by
  have:=Heap.get?_push_size (s.heap.push W.emptyDict) (o:=W.instObj C s.heap.objs.size) rfl
  rwa [Heap.size_push] at this
 have e3:(s.heap.push W.emptyDict).Ns s.heap.objs.size (λ _=>none):=⟨W.emptyDict,#[],_,e1,rfl,(λ e he=>absurd he (by simp)),λ _=>rfl⟩
 have I1:=I.laid (a:=s.heap.objs.size) (o:=.own (s.heap.objs.size+1)) (h':=s.heap.push W.emptyDict) (t':=s.toks) (λ b u q=>bf _ q) (az _) ⟨_,e1⟩;refine I1.laid (a:=s.heap.objs.size+1) (o:=.ins C s.heap.objs.size []) (t':=s.toks) (λ b u q=>bf _ q) (Nat.le_of_eq (Heap.size_push _ _)) ?_;have ne:s.heap.objs.size≠s.heap.objs.size+1:=be (Nat.lt_succ_self _);refine ⟨by rw [aj ne,ag],Nat.zero_le _,ne,e2,λ _=>none,(Heap.Ns1.of_empty e3).at λ o q=>bf _ q,λ _=>True.intro,λ y hy=>absurd rfl hy⟩
theorem zL{f:Str}(hb:attributeBase e f env (eval e env)=eval e env)(h:wpAny (model prog w) A (eval e env) (λ o s₁=>wpAny (model prog w) A (getAttr o f true) Q E s₁) E s):wpAny (model prog w) A (eval (.Attribute e f pos) env) Q E s:=
 Attribute_any_ h (by rw [arm_eval_Attribute,hb])
end
inductive ziy (K:W.Frag) (f:Str) (Q:VK) (x:V) (H1:Hp):Prop
 | i (a C dx fs v:_) (_:x = .ref a) (_:H1 a=some (.ins C dx fs)) (_:Cls K C) (_:NoAttr K C f) (_:fs.lookup f=some v) (_:Q v H1)
def gl(K:W.Frag)(ta:TE)(f:Str):TE:=λ σ H Q=>ta σ H λ x H1=>ziy K f Q x H1
inductive zg8 (K:W.Frag) (f:Str) (D:d3) (σ:St) (y:V) (x:V) (H2:Hp):Prop
 | i (a C dx fs:_) (_:x = .ref a) (_:H2 a=some (.ins C dx fs)) (_:Cls K C) (_:NoAttr K C f) (_:fs.length < 1000) (_:D.nx σ (upd H2 a (.ins C dx (dj f y fs))))
def jZ(K:W.Frag)(ta tv:TE)(f:Str):TS:=λ D σ H=>tv σ H λ y H1=>ta σ H1 λ x H2=>zg8 K f D σ y x H2
def sv(X:Cx)(op:Operator)(rd:V->V->Hp->VK->Prop):Prop:=
 ∀ (pins:List (Addr × Obj)) (s:Shared) (σ:St) (H:Hp) (x y:V) (u v:Value) (Q:VK),Inv X pins σ H s->RelV x u->RelV y v->rd x y H Q->wpAny (model X.prog X.w) X.A (inplaceOp op u v) (EP X pins σ Q) X.xe s
inductive zg7 (K:W.Frag) (tv:TE) (rd:V->V->Hp->VK->Prop) (f:Str) (D:d3) (σ:St) (x:V) (H1:Hp):Prop
 | i (a C dx fs v:_) (_:x = .ref a) (_:H1 a=some (.ins C dx fs)) (_:Cls K C) (_:NoAttr K C f) (_:fs.lookup f=some v) (_:tv σ H1 λ y H2=>rd v y H2 λ z H3=>∃ dx' fs',H3 a=some (.ins C dx' fs')/\fs'.length < 1000/\D.nx σ (upd H3 a (.ins C dx' (dj f z fs'))))
def wJ(K:W.Frag)(ta tv:TE)(rd:V->V->Hp->VK->Prop)(f:Str):TS:=λ D σ H=>ta σ H λ x H1=>zg7 K tv rd f D σ x H1
section
variable {o:Expr} {f:Str}
theorem cM(he:PE X e ta)(hb:attributeBase e f X.env (eval e X.env)=eval e X.env):PE X (.Attribute e f pos) (gl X.K ta f):=by
 intro pins s σ H Q I h;refine zL hb (thn (he pins s σ H _ I h) λ u s1 ⟨x,H1,I1,rx,a,C,dx,fs,v,ex,ea,c,n,l,q⟩=>?_);subst ex;obtain rfl:u=Value.ref a:=rx;exact uI I1 ea c n l λ u' s2 I2 ru=>⟨v,H1,I2,ru,q⟩
theorem dD(ha:PE X o ta)(hv:PE X value tv)(hs:swapsWith value (some (.Attribute o f pos')) pos.line X.env=pure false):PS X (.Assign [.Attribute o f pos'] value pos) (jZ X.K ta tv f):=by
 intro pins s σ H D I h;refine plainObj_wpAny_Assign_Attribute (thn (hv pins s σ H _ I h) λ u s1 ⟨y,H1,I1,ry,q⟩=>thn (ha pins s1 σ H1 _ I1 q) λ ov s2 ⟨x,H2,I2,rx,a,C,dx,fs,ex,ea,c,n,l,q2⟩=>?_) hs;subst ex;obtain rfl:ov=Value.ref a:=rx;exact wM I2 ea c n l ry λ s3 I3=>⟨σ,_,I3,q2⟩
theorem we{op:Operator}{rd:V->V->Hp->VK->Prop}(ha:PE X o ta)(hv:PE X value tv)(hop:sv X op rd):PS X (.AugAssign (.Attribute o f tpos) op value pos) (wJ X.K ta tv rd f):=by
 intro pins s σ H D I h;refine wpAny_AugAssign_AttributeAny (thn (ha pins s σ H _ I h) λ ov s1 ⟨x,H1,I1,rx,a,C,dx,fs,v,ex,ea,c,n,l,q⟩=>?_);subst ex;obtain rfl:ov=Value.ref a:=rx;refine uI I1 ea c n l λ u s2 I2 ru=>thn (hv pins s2 σ H1 _ I2 q) λ w3 s3 ⟨y,H2,I3,ry,q3⟩=>thn (hop pins s3 σ H2 v y u w3 _ I3 ru ry q3) λ w4 s4 ⟨z,H3,I4,rz,dx',fs',ea',l',q4⟩=>?_;exact wM I4 ea' c n l' rz λ s5 I5=>⟨σ,_,I5,q4⟩
inductive wm (x:V) (y:V) (H:Hp) (Q:VK):Prop
 | i (i j:_) (_:x = .int i) (_:y = .int j) (_:Q (.int (i+j)) H)
theorem uM:sv X .Add wm:=by
 rintro pins s σ H x y u v Q I rx ry ⟨i,j,rfl,rfl,q⟩;obtain ⟨t,rfl⟩:=(show ∃ t,u=Value.int i t from rx)
 obtain ⟨t',rfl⟩:=(show ∃ t',v=Value.int j t' from ry)
 exact PyProof.Rows.iadd_int ⟨.int (i+j),H,I.tok _,⟨_,rfl⟩,q⟩
theorem zj2{m:Str}{args:List Expr}(he:PE X e te)(I:Inv X pins σ H s)(h:te σ H λ x H1=>∃ a C dx fs g,x = .ref a/\H1 a=some (.ins C dx fs)/\Cls X.K C/\iH X.K C m g/\fs.lookup m=none/\
   ∀ s1,Inv X pins σ H1 s1->wpAny (model X.prog X.w) X.A (callWith pos (.ref g) [.ref a] (backTo pos (starEach args X.env)) (backToKw pos (keywordEach [] X.env))) Q X.xe s1)(ht:eval (.Call (.Attribute e m apos) args [] pos) X.env=(do
   let ov ← eval e X.env
   standAt apos.atName
   let (f,first) ← holding [ov] (getMethod ov m pl)
   callWith pos f first (backTo pos (starEach args X.env)) (backToKw pos (keywordEach [] X.env)))):
  wpAny (model X.prog X.w) X.A (eval (.Call (.Attribute e m apos) args [] pos) X.env) Q X.xe s:=by
 refine W.methodCall_KW (pl:=pl) (thn (he pins s σ H _ I h) λ u s1 ⟨x,H1,I1,rx,a,C,dx,fs,g,ex,ea,c,k,l,q⟩=>?_) ht;subst ex;obtain rfl:u=Value.ref a:=rx;exact nU I1 ea c k l (q s1 I1)
end
section
variable {c:Value} {b:Bool}
inductive d4 (K:W.Frag) (H:Hp):V->Value->Prop where
 | non:d4 K H .non (.type "NoneType")
 | bl (x:Bool):d4 K H (.bl x) (.type "bool")
 | int (i:Int):d4 K H (.int i) (.type "int")
 | str (x:Str):d4 K H (.str x) (.type "str")
 | flt (x:UInt64):d4 K H (.flt x) (.type "float")
 | lst {a:Addr} {xs:List V} (e:H a=some (.lst xs)):d4 K H (.ref a) (.type "list")
 | frz {a:Addr} {o:Obj} {xs:List V} (e:H a=some (.frz o (.lst xs))):d4 K H (.ref a) (.type "list")
 | tup {a:Addr} {xs:List V} (e:H a=some (.tup xs)):d4 K H (.ref a) (.type "tuple")
 | dK {a:Addr} {kvs:List (Key × V)} (e:H a=some (.dK kvs)):d4 K H (.ref a) (.type "dict")
 | dT {a:Addr} {kvs:List (List Key × V)} (e:H a=some (.dT kvs)):d4 K H (.ref a) (.type "dict")
 | ins {a C dx:Addr} {fs:List (Str × V)} (e:H a=some (.ins C dx fs)) (cl:Cls K C) (ha:W.findIn K (.ref C) "__class__" = some (some (.builtin "object.__class__")))
   (hn:W.specialIn K (.builtin "object.__class__") "__get__" = some (some (.builtin "getset_descriptor.__get__"))) (htk:W.takesIn K (.builtin "object.__class__")=some true)
   (hm:W.mroIn K C (.type "object")=some true):d4 K H (.ref a) (.ref C)
theorem zbR{x:V}{t:Value}(I:Inv X pins σ H s)(rx:RelV x u)(ty:d4 X.K H x t)(e:W.kitOne X.K t c=some b)(h:∀ tk,Q (.bool b) { s with toks:=tk }):
  wpAny (model X.prog X.w) A (call (.builtin "isinstance") [u,c]) Q E s:=by
 cases ty with
 | non=>cases (show u=Value.none from rx);exact W.kia_one W.kitx_none I.kIn True.intro e (λ z=>nomatch z) h
 | bl y=>cases (show u=Value.bool y from rx);exact W.kia_one W.kitx_bool I.kIn True.intro e (λ z=>nomatch z) h
 | int i=>obtain ⟨t,q⟩:=(show ∃ t,u=Value.int i t from rx);cases q;exact W.kia_one W.kitx_int I.kIn True.intro e (λ z=>nomatch z) h
 | str y=>obtain ⟨t,q⟩:=(show ∃ t,u=Value.str y t from rx);cases q;exact W.kia_one W.kitx_str I.kIn True.intro e (λ z=>nomatch z) h
 | flt y=>obtain ⟨t,q⟩:=(show ∃ t,u=Value.float y t from rx);cases q;exact W.kia_one W.kitx_float I.kIn True.intro e (λ z=>nomatch z) h
 | @lst a xs ea=>
  cases (show u=Value.ref a from rx);obtain ⟨_,_,n,_,h1⟩:=(show ObjOk X.prog X.w H s.heap a (.lst xs) from I.hok a _ ea)
  exact W.kia_one W.kitx_list I.kIn ⟨_,h1,rfl⟩ e (λ z=>nomatch z) h
 | @frz a ob xs ea=>
  cases (show u=Value.ref a from rx);obtain ⟨_,_,_,n,_,h1⟩:=(show ObjOk X.prog X.w H s.heap a (.frz ob (.lst xs)) from I.hok a _ ea)
  exact W.kia_one W.kitx_list I.kIn ⟨_,h1,rfl⟩ e (λ z=>nomatch z) h
 | @tup a xs ea=>
  cases (show u=Value.ref a from rx);obtain ⟨_,_,_,p⟩:=(show ObjOk X.prog X.w H s.heap a (.tup xs) from I.hok a _ ea)
  obtain ⟨o,h1,h2,_⟩:=p;exact W.kia_one W.kitx_tuple I.kIn ⟨o,h1,h2⟩ e (λ z=>nomatch z) h
 | @dK a kvs ea=>
  cases (show u=Value.ref a from rx);obtain ⟨_,_,vs,_,p⟩:=(show ObjOk X.prog X.w H s.heap a (.dK kvs) from I.hok a _ ea)
  obtain ⟨o,es,ep,h1,h2,_⟩:=p;exact W.kia_one W.kitx_dict I.kIn ⟨o,h1,h2.1⟩ e (λ z=>nomatch z) h
 | @dT a kvs ea=>
  cases (show u=Value.ref a from rx);obtain ⟨_,_,xs,_,o,es,ep,h1,h2,_⟩:=(show ObjOk X.prog X.w H s.heap a (.dT kvs) from I.hok a _ ea)
  exact W.kia_one W.kitx_dict I.kIn ⟨o,h1,h2.1⟩ e (λ z=>nomatch z) h
 | @ins a C dx fs ea cl ha hn htk hm=>
  cases (show u=Value.ref a from rx);obtain ⟨mA,O,_⟩:=k8 I.hok ea;obtain ⟨od,J,_⟩:=O.look;exact W.kia_one (W.kitx_own (cl.get _) cl.hd ha hn htk hm) I.kIn J e (λ z=>nomatch z) h
end
structure Room (k:Nat) (A:Around):Prop where
 hd:A.handled=none
 dp:A.depth+3 * k+5 < recursionLimit
 un:A.units+16 * k+200 < cLine
theorem Room.mono{k:Nat}(r:Room k A)(h:j<=k):Room j A:=⟨r.hd,by have:=r.dp;omega,by have:=r.un;omega⟩
theorem Room.deeper{k:Nat}(r:Room (k+1) A)(env:Env):Room k (A.deeper env):=
 ⟨r.hd,by have:=r.dp;show A.depth+1+3 * k+5 < _;omega,by have:=r.un;show A.units+3+16 * k+200 < _;omega⟩
theorem Room.in1{k:Nat}(r:Room (k+1) A):Room k A.in1:=
 ⟨r.hd,by have:=r.dp;show A.depth+3 * k+5 < _;omega,by have:=r.un;show A.units+1+16 * k+200 < _;omega⟩
theorem zcM     : (A.under (.builtin "type.__call__" ⟨.ref C::us,kw⟩)).depth=A.depth+1:=by
 first | rfl | simp [Around.under,Code.weight,Code.isCreation,Code.isGuard,Code.isCaller,Code.frames,Code.isFrame,guardIds]
theorem zcO     : (A.under (.builtin "type.__call__" ⟨.ref C::us,kw⟩)).units=A.units+1:=by
 first | rfl | simp [Around.under,Code.cUnits,Code.frames,Code.isFrame]
theorem Room.make{k:Nat}(r:Room (k+1) A)(C:Addr)(us:List Value)(kw:List (Str × Value)):Room k (A.under (.builtin "type.__call__" ⟨.ref C::us,kw⟩)):=
 ⟨r.hd,by have:=r.dp;rw [zcM];omega,by have:=r.un;rw [zcO];omega⟩
theorem Room.depth{k:Nat}(r:Room k A):A.depth < recursionLimit:=by have:=r.dp;omega
theorem Room.units{k:Nat}(r:Room k A):A.units+64 < cLine:=by have:=r.un;omega
def fT:TA:=λ _ H Q=>Q [] H
def ir(ta:TE)(tr:TA):TA:=λ σ H Q=>ta σ H λ x H1=>tr σ H1 λ xs H2=>Q (x::xs) H2
section
variable {t:TA}
theorem ad:PA X [] fT:=λ _ _ _ _ H Q I h=>Calls.spliced_nil ⟨[],H,I,.nil,h⟩
theorem aa(ha:PE X e te)(hr:PA X es t)(hs:starEach (e::es) X.env=(false,eval e X.env)::starEach es X.env:=by rfl):PA X (e::es) (ir te t):=by
 intro pos pins s σ H Q I h;rw [hs];show wpAny _ _ (spliced ((false,eval e X.env)::backTo pos (starEach es X.env))) _ _ s;refine Calls.spliced_cons (thn (ha pins s σ H _ I h) λ u s1 ⟨x,H1,I1,r1,q1⟩=>?_);exact thn (hr pos pins s1 σ H1 _ I1 q1) λ us s2 ⟨xs,H2,I2,r2,q2⟩=>⟨x::xs,H2,I2,.cons r1 r2,q2⟩
def ziV(t:TA):TE:=λ σ H Q=>t σ H λ xs H1=>xs.length<=sizeLine/\∀ p,H1 p=none->Q (.ref p) (upd H1 p (.tup xs))
def ziC(t:TA):TE:=λ σ H Q=>t σ H λ xs H1=>xs.length<=sizeLine/\∀ p,H1 p=none->Q (.ref p) (upd H1 p (.lst xs))
theorem dM{x1}(h:PA X es t):PE X (.Tuple es x1 pos) (ziV t):=by
 intro pins s σ H Q I hq;refine wpAny_Tuple_spliced (thn (h pos pins s σ H _ I hq) λ us s1 ⟨xs,H1,I1,r,z,q⟩=>⟨by rw [← r.length];exact z,?_⟩);have hf:H1 s1.heap.objs.size=none:=I1.hok.fresh (az _);refine ⟨.ref s1.heap.objs.size,upd H1 s1.heap.objs.size (.tup xs),I1.laid (t':=s1.toks) (λ b u e=>bf _ e) (az _) ?_,rfl,q _ hf⟩;exact ⟨z,us,r,⟨_,Heap.get?_push_size _ rfl,rfl,_,rfl⟩⟩
theorem bR(h:PA X es t):PE X (.List es pos) (ziC t):=by
 intro pins s σ H Q I hq;refine wpAny_List_spliced (thn (h pos pins s σ H _ I hq) λ us s1 ⟨xs,H1,I1,r,z,q⟩=>⟨by rw [← r.length];exact z,?_⟩);have hf:H1 s1.heap.objs.size=none:=I1.hok.fresh (az _);refine ⟨.ref s1.heap.objs.size,upd H1 s1.heap.objs.size (.lst xs),I1.laid (t':=s1.toks) (λ b u e=>bf _ e) (az _) ?_,rfl,q _ hf⟩;exact ⟨z,us,0,r,Heap.get?_push_size _ rfl⟩
end
abbrev Sp:=List V->Hp->VK->XK->Prop
variable {sp:Sp}
abbrev CXT:=List Env->Hp->Shared->XK->Value->Shared->Prop
variable {CX:CXT}
structure Env0 (P:Program) (w:World) (K:W.Frag) (mg:Str->Option Value) (base:Heap) (A:Around) (outer:List Env) (s:Shared) (H:Hp):Prop where
 frames:A.frames=some outer
 mod:Mod K mg base
 bs:∀ b o,base.get? b=some o->s.heap.get? b=some o/\H b=none
 bsz:base.objs.size<=s.heap.objs.size
 funs:s.heap.FunFrames base outer
 frf:∀ b∈frs outer,H b=none
 hok:HOk P w H s.heap
 bare:AllBare s.gens
inductive CE (outer:List Env) (P:Program) (w:World) (H:Hp) (s:Shared) (Q:VK) (u:Value) (s':Shared):Prop
 | i (v H':_) (_:s'.os=s.os) (_:AllBare s'.gens) (_:Un (frs outer) [] H H' s.heap s'.heap) (_:HOk P w H' s'.heap) (_:RelV v u) (_:Q v H')
def CR(CX:CXT)(outer:List Env)(P:Program)(w:World)(H:Hp)(s:Shared)(Q:VK)(E:XK)(r:Result)(s':Shared):Prop:=
 match r with
 | .ok (.ret u)=>CE outer P w H s Q u s'
 | .ok _=>False
 | .error e=>CX outer H s E e s'
structure FnOk (P:Program) (w:World) (K:W.Frag) (mg:Str->Option Value) (base:Heap) (CX:CXT) (k:Nat) (f:Addr) (fd:FuncData) (ps:List Str) (sp:Sp):Prop where
 len:∀ vs H Q E,sp vs H Q E->vs.length=ps.length
 run:∀ (A:Around) (outer:List Env) (s:Shared) (H:Hp) (args:Args) (us:List Value) (vs:List V) (Q:VK) (E:XK),Room k A->Env0 P w K mg base A outer s H->BindsTo s fd args (ps.zip us)->Vals vs us->sp vs H Q E->
  codeAny (model P w) A (.call (.ref f) args) (CR CX outer P w H s Q E) s
theorem FnOk.mono{P:Program}{w:World}{K:W.Frag}{mg:Str->Option Value}{base:Heap}{CX:CXT}{j k:Nat}{f:Addr}{fd:FuncData}{ps:List Str}{sp:Sp}(F:FnOk P w K mg base CX j f fd ps sp)(h:j<=k):
  FnOk P w K mg base CX k f fd ps sp:=⟨F.len,λ A outer s H args us vs Q E hr=>F.run A outer s H args us vs Q E (hr.mono h)⟩
theorem FnOk.imp{k:Nat}{f:Addr}{sp':Sp}(F:FnOk P w K mg base CX k f fd ps sp)(h:∀ vs H Q E,sp' vs H Q E->sp vs H Q E):FnOk P w K mg base CX k f fd ps sp':=
 ⟨λ vs H Q E q=>F.len vs H Q E (h _ _ _ _ q),λ A outer s H args us vs Q E hr he hb hv hs=>F.run A outer s H args us vs Q E hr he hb hv (h _ _ _ _ hs)⟩
theorem Env0.make(e:Env0 P w K mg base A outer s H)(C:Addr)(us:List Value)(kw:List (Str × Value)):
  Env0 P w K mg base (A.under (.builtin "type.__call__" ⟨.ref C::us,kw⟩)) outer s H:=⟨by first | exact e.frames | (simpa [Around.under,Code.envs,Code.isFrame,pushEnvs] using e.frames),e.mod,e.bs,e.bsz,e.funs,e.frf,e.hok,e.bare⟩
theorem Env0.in1(e:Env0 P w K mg base A outer s H):
  Env0 P w K mg base A.in1 outer s H:=⟨e.frames,e.mod,e.bs,e.bsz,e.funs,e.frf,e.hok,e.bare⟩
theorem Inv.env0(I:Inv X pins σ H s):Env0 X.prog X.w X.K X.mg X.base X.A X.stack s H:=
 ⟨I.ok.frames,I.ok.mod,I.bs,Nat.le_trans I.ok.bsz I.sz,I.stack,I.stkFree,I.hok,I.bare⟩
theorem Inv.after{Q:VK}(I:Inv X pins σ H s)(h:CE X.stack X.prog X.w H s Q u s'):EP X pins σ Q u s':=by
 obtain ⟨v,H',os,bare,un,hok,r,q⟩:=h;obtain ⟨hh,g,d,t,os'⟩:=s';obtain rfl:os'=s.os:=os;exact ⟨v,H',I.call (h':=hh) (g':=g) (d':=d) (t':=t) (ch:=[]) un hok bare (λ b z=>absurd z (by simp)),r,q⟩
def rP(sp:Sp)(dvs:List V)(E:XK)(t:TA):TE:=λ σ H Q=>t σ H λ vs H1=>sp (vs++dvs) H1 Q E
inductive ziD (C:Addr) (m:Str) (sp:Sp) (dvs:List V) (E:XK) (t:TA) (σ:St) (Q:VK) (x:V) (H1:Hp):Prop
 | i (a dx fs:_) (_:x = .ref a) (_:H1 a=some (.ins C dx fs)) (_:fs.lookup m=none) (_:t σ H1 λ vs H2=>sp (x::(vs++dvs)) H2 Q E)
def rR(C:Addr)(m:Str)(sp:Sp)(dvs:List V)(E:XK)(ta:TE)(t:TA):TE:=λ σ H Q=>ta σ H λ x H1=>ziD C m sp dvs E t σ Q x H1
def xX(C:Addr)(sp:Sp)(dvs:List V)(E:XK)(t:TA):TE:=λ σ H Q=>t σ H λ vs H1=>∀ x dx,H1 x=none->H1 dx=none->dx≠x->
 sp (.ref x::(vs++dvs)) (upd (upd H1 dx (.own x)) x (.ins C dx [])) (λ v H2=>v = .non/\Q (.ref x) H2) E
def Binds(K:W.Frag)(fd:FuncData)(ps:List Str)(ds:List Value):Prop:=
 ∀ (s:Shared) (us:List Value),K.In s.heap->(us++ds).length=ps.length->BindsTo s fd ⟨us,[]⟩ (ps.zip (us++ds))
theorem Binds.all(h:∀ us:List Value,us.length=ps.length->bindArgs fd ⟨us,[]⟩=pure (ps.zip us)):Binds K fd ps []:=λ s us _ hl=>by
 rw [List.append_nil] at hl ⊢;exact .of_eq (h us hl)
def cV(CX:CXT)(X:Cx)(E:XK):Prop:=∀ (pins:List (Addr × Obj)) (σ:St) (H:Hp) (s:Shared) (e:Value) (s':Shared),Inv X pins σ H s->CX X.stack H s E e s'->X.xe e s'
section
variable {k:Nat} {f:Addr} {dvs:List V} {ds:List Value} {E:XK} {m:Str} {o:Expr} {t:TA}
theorem jW{Q:VK}{vs:List V}(F:FnOk X.prog X.w X.K X.mg X.base CX k f fd ps sp)(hr:Room k X.A)(hb:Binds X.K fd ps ds)(hd:Vals dvs ds)(hx:cV CX X E)(I:Inv X pins σ H s)(r:Vals vs us)(h:sp (vs++dvs) H Q E):wpAny (model X.prog X.w) X.A (call (.ref f) us) (EP X pins σ Q) X.xe s:=by
 have r2:Vals (vs++dvs) (us++ds):=r.append hd;have hl:(us++ds).length=ps.length:=by rw [← r2.length];exact F.len _ _ _ _ h
 refine wpAny_call (codeAny_mono (F.run X.A X.stack s H ⟨us,[]⟩ (us++ds) (vs++dvs) Q E hr I.env0 (hb s us I.kIn hl) r2 h) λ r s' hq=>?_);cases r with
 | error e=>exact hx pins σ H s e s' I hq
 | ok fl=>
  cases fl with
  | ret u=>exact I.after hq
  | next=>exact False.elim hq
  | brk=>exact False.elim hq
  | cont=>exact False.elim hq
theorem zfX(F:FnOk X.prog X.w X.K X.mg X.base CX k f fd ps sp)(hr:Room k X.A)(hg:Gl X x)(hm:X.mg x=some (.ref f))(hk:W.keepIn X.K (.ref f)=true)(hb:Binds X.K fd ps ds)(hd:Vals dvs ds)(hx:cV CX X E)(ha:PA X (e::es) t)(hdb:(x == ("__debug__" : Str))=false:=by decide)(he:starEach (e::es) X.env=(false,eval e X.env)::starEach es X.env:=by rfl)(hpl:(backTo pos (starEach es X.env)).any (·.1)=false:=by rfl):
  PE X (.Call (.Name x p) (e::es) [] pos) (rP sp dvs E t):=by
 intro pins s σ H Q I h;refine wpAny_Call_Name_kw (fw I hg hm ?_ hdb);refine W.callWith_K (h₀:=X.base) I.ok.mod.kin hk (thn (ha pos pins s σ H _ I h) λ us s1 ⟨vs,H1,I1,r,q⟩=>⟨I1.kIn,?_⟩) he hpl;exact jW F hr hb hd hx I1 r q
theorem cp(he:PE X o ta)(c:Cls X.K C)(hm:iH X.K C m f)(F:FnOk X.prog X.w X.K X.mg X.base CX k f fd ps sp)(hr:Room k X.A)(hb:Binds X.K fd ps ds)(hd:Vals dvs ds)(hx:cV CX X E)(ha:PA X (e::es) t)(hst:starEach (e::es) X.env=(false,eval e X.env)::starEach es X.env:=by rfl)(hpl:(backTo pos (starEach es X.env)).any (·.1)=false:=by rfl)(ht:eval (.Call (.Attribute o m apos) (e::es) [] pos) X.env=(do
   let ov ← eval o X.env
   standAt apos.atName
   let (f,first) ← holding [ov] (getMethod ov m pl)
   callWith pos f first (backTo pos (starEach (e::es) X.env)) (backToKw pos (keywordEach [] X.env))):=by rfl):
  PE X (.Call (.Attribute o m apos) (e::es) [] pos) (rR C m sp dvs E ta t):=by
 intro pins s σ H Q I h;refine W.methodCall_KW (pl:=pl) (thn (he pins s σ H _ I h) λ u s1 ⟨x,H1,I1,rx,a,dx,fs,ex,ea,l,q⟩=>?_) ht;subst ex;obtain rfl:u=Value.ref a:=rx;refine nU I1 ea c hm l ?_;refine W.callWith_K (first:=[.ref a]) (h₀:=X.base) I.ok.mod.kin hm.kp (thn (ha pos pins s1 σ H1 _ I1 q) λ us s2 ⟨vs,H2,I2,r,q2⟩=>⟨I2.kIn,?_⟩) hst hpl;exact jW (us:=.ref a::us) (vs:=.ref a::vs) F hr hb hd hx I2 (.cons rfl r) q2
theorem di(he:PE X o ta)(c:Cls X.K C)(hm:iH X.K C m f)(F:FnOk X.prog X.w X.K X.mg X.base CX k f fd ps sp)(hr:Room k X.A)(hb:Binds X.K fd ps ds)(hd:Vals dvs ds)(hx:cV CX X E)(ht:eval (.Call (.Attribute o m apos) [] [] pos) X.env=(do
   let ov ← eval o X.env
   standAt apos.atName
   let (f,first) ← holding [ov] (getMethod ov m pl)
   callWith pos f first (backTo pos (starEach [] X.env)) (backToKw pos (keywordEach [] X.env))):=by rfl):
  PE X (.Call (.Attribute o m apos) [] [] pos) (rR C m sp dvs E ta fT):=by
 intro pins s σ H Q I h;refine W.methodCall_KW (pl:=pl) (thn (he pins s σ H _ I h) λ u s1 ⟨x,H1,I1,rx,a,dx,fs,ex,ea,l,q⟩=>?_) ht;subst ex;obtain rfl:u=Value.ref a:=rx;refine nU I1 ea c hm l ?_;exact W.callWith_K0 (first:=[.ref a]) I1.kIn hm.kp (jW (us:=[.ref a]) (vs:=[.ref a]) F hr hb hd hx I1 (.cons rfl .nil) q)
structure Mk (K:W.Frag) (C f:Addr):Prop where
 makes:W.makesIn K C=true
 init:W.findIn K (.ref C) "__init__" = some (some (.ref f))
 fn:W.isFn K (.ref f)=true
 kp:W.keepIn K (.ref C)=true
theorem wE{Q:VK}{vs:List V}(M:Mk X.K C f)(F:FnOk X.prog X.w X.K X.mg X.base CX k f fd ps sp)(hr:Room (k+1) X.A)(hb:Binds X.K fd ps ds)(hd:Vals dvs ds)(hx:cV CX X E)(I:Inv X pins σ H s)(r:Vals vs us)(h:∀ x dx,H x=none->H dx=none->dx≠x->sp (.ref x::(vs++dvs)) (upd (upd H dx (.own x)) x (.ins C dx [])) (λ v H2=>v = .non/\Q (.ref x) H2) E):
  wpAny (model X.prog X.w) X.A (call (.ref C) us) (EP X pins σ Q) X.xe s:=by
 have hq:=h (s.heap.objs.size+1) s.heap.objs.size (I.hok.fresh (Nat.le_succ _)) (I.hok.fresh (az _)) (be (Nat.lt_succ_self _));have I2:=Inv.made (C:=C) I;have r2:Vals (V.ref (s.heap.objs.size+1)::(vs++dvs)) (Value.ref (s.heap.objs.size+1)::(us++ds)):=.cons rfl (r.append hd);have hl:(Value.ref (s.heap.objs.size+1)::us++ds).length=ps.length:=by
  have e:=r2.length;rw [F.len _ _ _ _ hq] at e;exact e.symm
 refine wpAny_call (zcN (f:=f) I.kIn M.makes M.init (beq_iff_eq.mp M.fn) (codeAny_mono (F.run _ X.stack _ _ ⟨Value.ref (s.heap.objs.size+1)::us,[]⟩ (Value.ref (s.heap.objs.size+1)::(us++ds)) _ _ E (hr.make C us [])
  (I2.env0.make C us []) (hb _ (Value.ref (s.heap.objs.size+1)::us) I2.kIn hl) r2 hq) λ r s' hq'=>?_))
 cases r with
 | error e=>exact hx pins σ _ _ e s' I2 hq'
 | ok fl=>
  cases fl with
  | ret u=>
   obtain ⟨v,H',I3,rv,ev,q3⟩:=I2.after hq';subst ev;exact ⟨rv,⟨V.ref (s.heap.objs.size+1),H',I3,rfl,q3⟩⟩
  | next=>exact False.elim hq'
  | brk=>exact False.elim hq'
  | cont=>exact False.elim hq'
theorem vX(M:Mk X.K C f)(F:FnOk X.prog X.w X.K X.mg X.base CX k f fd ps sp)(hr:Room (k+1) X.A)(hg:Gl X x)(hm:X.mg x=some (.ref C))(hb:Binds X.K fd ps ds)(hd:Vals dvs ds)(hx:cV CX X E)(ha:PA X (e::es) t)(hdb:(x == ("__debug__" : Str))=false:=by decide)(he:starEach (e::es) X.env=(false,eval e X.env)::starEach es X.env:=by rfl)(hpl:(backTo pos (starEach es X.env)).any (·.1)=false:=by rfl):
  PE X (.Call (.Name x p) (e::es) [] pos) (xX C sp dvs E t):=by
 intro pins s σ H Q I h;refine wpAny_Call_Name_kw (fw I hg hm ?_ hdb);refine W.callWith_K (h₀:=X.base) I.ok.mod.kin M.kp (thn (ha pos pins s σ H _ I h) λ us s1 ⟨vs,H1,I1,r,q⟩=>⟨I1.kIn,?_⟩) he hpl;exact wE M F hr hb hd hx I1 r q
theorem vY(M:Mk X.K C f)(F:FnOk X.prog X.w X.K X.mg X.base CX k f fd ps sp)(hr:Room (k+1) X.A)(hg:Gl X x)(hm:X.mg x=some (.ref C))(hb:Binds X.K fd ps ds)(hd:Vals dvs ds)(hx:cV CX X E)(hdb:(x == ("__debug__" : Str))=false:=by decide):PE X (.Call (.Name x p) [] [] pos) (xX C sp dvs E fT):=by
 intro pins s σ H Q I h;refine wpAny_Call_Name_kw (fw I hg hm ?_ hdb);exact W.callWith_K0 I.kIn M.kp (wE (us:=[]) M F hr hb hd hx I .nil h)
end
section
variable {k:Nat} {f:Addr} {ks:List Str} {E:XK} {m:Str} {o:Expr} {kws:List Keyword} {t tk:TA} {nm:Option Str}
variable {g:List Value->List Value->List Value} {gV:List V->List V->List V}
end
structure aC (N P:List Str) (sc:Scope):Prop where
 kind:sc.kind = .function
 co:sc.isCoroutine=false
 gen:sc.isGenerator=false
 nd:N.Nodup
 pre:N.take P.length=P
 par:∀ x∈P,sc.names.lookup x=some .local\/sc.names.lookup x=some .cell
 nofree:∀ y∈sc.names,y.2≠.free
theorem sU{kindOf:Str->Option NameKind}{x:Str}:∀ {binds:List (Str × Value)} {m:Str->Option Value},(∀ v,(x,v)∉binds)->bindL kindOf binds m x=m x
 | [],_,_=>rfl
 | (n,v)::r,m,h=>by
  unfold bindL;rw [sU λ w hw=>h w (bV _ hw)]
  split
  ·have:x≠n:=by rintro rfl;exact h v cG
   simp [this]
  ·rfl
theorem sS{kindOf:Str->Option NameKind}{x:Str}:∀ {binds:List (Str × Value)} {m:Str->Option Value},(∀ v,(x,v)∉binds)->bindC kindOf binds m x=m x
 | [],_,_=>rfl
 | (n,v)::r,m,h=>by
  unfold bindC;rw [sS λ w hw=>h w (bV _ hw)]
  split
  ·rfl
  ·have:x≠n:=by rintro rfl;exact h v cG
   simp [this]
theorem sT{kindOf:Str->Option NameKind}{x:Str}{v:Value}:∀ {P:List Str} {vs:List Value} {i:Nat} {m:Str->Option Value},P.Nodup->P[i]?=some x->vs[i]?=some v->kindOf x=some .local->
  bindL kindOf (P.zip vs) m x=some v
 | [],_,_,_,_,h,_,_=>by simp at h
 | _::_,[],_,_,_,_,h,_=>by simp at h
 | p::P,w::vs,0,m,nd,h1,h2,hk=>by
  simp at h1 h2;subst h1;subst h2;show bindL kindOf ((p,w)::P.zip vs) m p=_;unfold bindL;rw [sU λ v hv=>(List.nodup_cons.mp nd).1 (List.of_mem_zip hv).1,if_pos hk];simp
 | p::P,w::vs,i+1,m,nd,h1,h2,hk=>by
  show bindL kindOf ((p,w)::P.zip vs) m x=_;unfold bindL;exact sT (i:=i) (List.nodup_cons.mp nd).2 (by simpa using h1) (by simpa using h2) hk
theorem sR{kindOf:Str->Option NameKind}{x:Str}{v:Value}:∀ {P:List Str} {vs:List Value} {i:Nat} {m:Str->Option Value},P.Nodup->P[i]?=some x->vs[i]?=some v->kindOf x≠some .local->
  bindC kindOf (P.zip vs) m x=some v
 | [],_,_,_,_,h,_,_=>by simp at h
 | _::_,[],_,_,_,_,h,_=>by simp at h
 | p::P,w::vs,0,m,nd,h1,h2,hk=>by
  simp at h1 h2;subst h1;subst h2;show bindC kindOf ((p,w)::P.zip vs) m p=_;unfold bindC;rw [sS λ v hv=>(List.nodup_cons.mp nd).1 (List.of_mem_zip hv).1,if_neg hk];simp
 | p::P,w::vs,i+1,m,nd,h1,h2,hk=>by
  show bindC kindOf ((p,w)::P.zip vs) m x=_;unfold bindC;exact sR (i:=i) (List.nodup_cons.mp nd).2 (by simpa using h1) (by simpa using h2) hk
def fR(N:List Str)(vs:List V):St:=vs.map some++List.replicate (N.length - vs.length) none
def c4(CX:CXT)(P:Program)(w:World)(K:W.Frag)(mg:Str->Option Value)(base:Heap)(N:List Str)(qual:Str)(scope:Scope)(f:Addr)(cd:Value)(A:Around)(outer:List Env)(s:Shared)(H:Hp)(E:XK):Cx where
 prog:=P
 w:=w
 K:=K
 mg:=mg
 base:=base
 A:=A.deeper (envOfC qual scope s.heap.objs.size f cd)
 N:=N
 s₀:=s
 H₀:=H
 env:=envOfC qual scope s.heap.objs.size f cd
 outer:=outer
 stack:=envOfC qual scope s.heap.objs.size f cd::outer
 ex:=[]
 calm:=true
 fn:=λ _=>true
 pn:=[]
 xe:=λ e s'=>wpAny (model P w) (A.deeper (envOfC qual scope s.heap.objs.size f cd)) (leaving (envOfC qual scope s.heap.objs.size f cd) e) (λ _ s''=>CX outer H s E e s'') (λ e' s''=>CX outer H s E e' s'') s'
theorem tM(h:sc.names.lookup x=some .cell):∃ c,(cellsFrom n sc.names []).lookup x=some c:=by
 have q:=W.cellsFrom_some sc.names n [] (.inl h);exact Option.isSome_iff_exists.mp q
theorem zbN{f:Addr}{s1:Shared}{E:XK}{vs:List V}(S:aC N ps scope)(hd:A.handled=none)(e0:Env0 P w K mg base A outer s H)(hl:vs.length=ps.length)(r:Vals vs us)(x:InCallC s s.heap.objs.size (bindL (envOfC qual scope s.heap.objs.size f cd).kindOf (ps.zip us) λ _=>none) (cellsFrom (s.heap.objs.size+1) scope.names []) (bindC (envOfC qual scope s.heap.objs.size f cd).kindOf (ps.zip us) λ _=>none) s1):
  Inv (c4 CX P w K mg base N qual scope f cd A outer s H E) [] (fR N vs) H s1:=by
 have hpl:ps.length<=N.length:=by have:=congrArg List.length S.pre;rw [bc] at this;omega
 obtain ⟨h1,tk,rfl,hk⟩:=x.done;have noA:∀ b:Addr,b∉(c4 CX P w K mg base N qual scope f cd A outer s H E).ex:=λ b z=>absurd (show b∈([]:List Addr) from z) (by simp);refine ⟨⟨e0.mod,S.kind,rfl,rfl,az _,λ y z c h1 h2=>?_,λ y hy=>?_,λ y c _ h=>?_,λ _=>hd,Around.frames_deeper e0.frames,.inr ⟨rfl,rfl⟩,λ b z=>absurd z (noA b),e0.bs,e0.bsz,λ b _ _=>noA b,λ b z=>absurd z (noA b),e0.funs,e0.frf⟩,
  rfl,e0.bare,Un.kept hk,⟨_,x.toInCall.ns,λ i y v h1 h2 h3=>?_⟩,λ y c h=>⟨_,x.cell y c h⟩,e0.hok.fresh (az _),λ y c h=>?_,λ p hp=>absurd (show p∈([]:List (Addr × Obj)) from hp) (by simp),e0.hok.kept hk,?_⟩
 ·exact name_of_addr x.apart (PySem.mem_of_lookup h1) (PySem.mem_of_lookup h2)
 ·have hy:scope.names.lookup y=some .cell\/scope.names.lookup y=some .free:=hy;rcases hy with hy | hy
  ·exact tM hy
  ·exact absurd rfl (S.nofree _ (PySem.mem_of_lookup hy))
 ·exact aX (x.above y c (PySem.mem_of_lookup h))
 ·have hi:i < vs.length:=by
   unfold fR at h2;by_cases hi:i < vs.length
   ·exact hi
   ·rw [List.getElem?_append_right (by simpa using hi)] at h2;rw [List.getElem?_replicate] at h2
    split at h2 <;> cases h2
  have ha:vs[i]?=some v:=by
   unfold fR at h2;rw [List.getElem?_append_left (by simpa using hi),aH] at h2;cases e:vs[i]? with
   | none=>rw [e] at h2;cases h2
   | some a=>rw [e] at h2;cases h2;rfl
  obtain ⟨u,hu,rv⟩:=r.get ha;have hp:ps[i]?=some y:=by
   rw [← S.pre,List.getElem?_take_of_lt (by omega)];exact h1
  have ndP:ps.Nodup:=by rw [← S.pre];exact S.nd.sublist (List.take_sublist _ _)
  refine ⟨u,rv,?_⟩;rcases S.par y (cR hp) with k | k
  ·exact .inl ⟨k,sT ndP hp hu k⟩
  ·obtain ⟨c,e⟩:=tM (n:=s.heap.objs.size+1) k;refine .inr ⟨.inl k,c,e,?_⟩;have q:=x.cell y c e;rw [sR ndP hp hu (by show scope.names.lookup y≠_;rw [k];decide)] at q;exact q
 ·exact e0.hok.fresh (aX (x.above y c (PySem.mem_of_lookup h)))
 ·unfold fR;show _=N.length;rw [bn,ae,d7];omega
theorem nF{k:Nat}{f:Addr}{params:Arguments}{dV kV:Value}(lk:K.lookup f=some ⟨oc,od,.func (W.fnOf name qual params body scope dV kV doc pm an cdv ct),osl⟩)(hcd:W.codeIn K cdv qual=true)(S:aC N ps scope)(len:∀ vs H Q E,sp vs H Q E->vs.length=ps.length)(hbody:∀ (A:Around) (outer:List Env) (s:Shared) (H:Hp) (vs:List V) (Q:VK) (E:XK),Room k (A.deeper (envOfC qual scope s.heap.objs.size f cdv))->sp vs H Q E->
      ∃ t,PSs (c4 CX P w K mg base N qual scope f cdv A outer s H E) body t/\t { nx:=λ _ H'=>Q .non H',rt:=Q } (fR N vs) H):
    FnOk P w K mg base CX (k+1) f (W.fnOf name qual params body scope dV kV doc pm an cdv ct) ps sp:=by
  refine ⟨len,λ A outer s H args us vs Q E hr e0 hb r hsp=>?_⟩;have hl:=len _ _ _ _ hsp;have KX:K.In s.heap:=e0.mod.kin.keeps λ b o e=>(e0.bs b o e).1;have lim:s.heap.NoLimit:=e0.mod.nolimit.keeps λ b o e=>(e0.bs b o e).1;have hkind:∀ y∈ps.zip us,scope.names.lookup y.1=some .local\/(scope.names.lookup y.1=some .cell/\((cellsFrom (s.heap.objs.size+1) scope.names []).lookup y.1).isSome=true):=λ ⟨n,v⟩ hy=>by
    rcases S.par n (List.of_mem_zip hy).1 with q | q
    · exact .inl q
    · exact .inr ⟨q,W.cellsFrom_some _ _ _ (.inl q)⟩
  refine codeAny_call_function hr.depth (KX _ _ lk) rfl S.co S.gen rfl (W.codeRec_of KX hcd) (hb _ _ _ _ ?_);refine wpAny_newFunctionEnv_cells S.kind hkind λ env he s1 x=>?_;subst he;refine ⟨lim.keeps x.toInCall.keep,codeAny_func ?_⟩;obtain ⟨t,ht,hq⟩:=hbody A outer s H vs Q E (hr.deeper _) hsp;have I:Inv (c4 CX P w K mg base N qual scope f cdv A outer s H E) [] (fR N vs) H s1:=zbN S hr.hd e0 hl r x;refine wpAny_mono (ht [] s1 (fR N vs) H _ I hq) (λ fl s' hs=>?_) λ e s' hs=>hs;have fin:∀ {σ':St} {H':Hp} {v:V} {u:Value},Inv (c4 CX P w K mg base N qual scope f cdv A outer s H E) [] σ' H' s'->RelV v u->Q v H'->CE outer P w H s Q u s':=
    λ {σ' H' v u} J rv q=>⟨v,H',J.os,J.bare,J.base,J.hok,rv,q⟩
  cases fl with
  | ret u=>
    obtain ⟨v,σ',H',J,rv,q⟩:=hs;exact fin J rv q
  | next=>
    obtain ⟨σ',H',J,q⟩:=hs;exact fin (v:=V.non) (u:=Value.none) J rfl q
  | brk=>
    obtain ⟨_,_,_,q⟩:=hs;exact False.elim q
  | cont=>
    obtain ⟨_,_,_,q⟩:=hs;exact False.elim q
section
variable {t:TA} {id T:String} {r:List V->Hp->VK->Prop}
def tCB(r:List V->Hp->VK->Prop)(t:TA):TE:=λ σ H Q=>t σ H λ vs H1=>r vs H1 Q
theorem aM(hc:CallR X (.builtin id) r)(hg:Gl X x)(hm:X.mg x=none)(hv:bootBuiltins x=some (.builtin id))(ha:PA X (e::es) t)(hn:x ≠ "__name__" := by decide)(hdb:(x == ("__debug__" : Str))=false:=by decide)(he:starEach (e::es) X.env=(false,eval e X.env)::starEach es X.env:=by rfl)(hpl:(backTo pos (starEach es X.env)).any (·.1)=false:=by rfl):PE X (.Call (.Name x p) (e::es) [] pos) (tCB r t):=by
 intro pins s σ H Q I h;refine wpAny_Call_Name_kw (eJ I hg hm hv ?_ hn hdb);exact PyProof.Rows.callWith_builtin1 (thn (ha pos pins s σ H _ I h) λ us s1 ⟨vs,H1,I1,r1,q1⟩=>hc pins s1 σ H1 vs us Q I1 r1 q1) he hpl
theorem ij(hc:CallR X (.type T) r)(hg:Gl X x)(hm:X.mg x=none)(hv:bootBuiltins x=some (.type T))(ha:PA X (e::es) t)(hn:x ≠ "__name__" := by decide)(hdb:(x == ("__debug__" : Str))=false:=by decide)(he:starEach (e::es) X.env=(false,eval e X.env)::starEach es X.env:=by rfl)(hpl:(backTo pos (starEach es X.env)).any (·.1)=false:=by rfl):PE X (.Call (.Name x p) (e::es) [] pos) (tCB r t):=by
 intro pins s σ H Q I h;refine wpAny_Call_Name_kw (eJ I hg hm hv ?_ hn hdb);exact PyProof.Rows.callWith_type1 (thn (ha pos pins s σ H _ I h) λ us s1 ⟨vs,H1,I1,r1,q1⟩=>hc pins s1 σ H1 vs us Q I1 r1 q1) he hpl
end
namespace HT
open PySem PyProof.Rows
section
open PySem.SeqAt
open PySem.AutoSeq1 (wpAny_loadPart')
open PySem.MeetsSeq PySem.MeetsSeq2 PySem.MeetsSeq3
end
theorem cat_tup{t:Addr}{ws:List Value}(ht:IsTup s.heap t vs.toArray)(hb:IsTup s.heap b ws.toArray)(hv:vs≠[])(h1:ws=[]->Q (.ref t) s)(h2:ws≠[]->Q (.ref s.heap.objs.size) { s with heap:=s.heap.push { cls:=.type "tuple", data:=.seq (vs++ws).toArray } })(hsz:vs.length+ws.length<=sizeLine):wpAny (model prog w) A (binaryOp .Add (.ref t) (.ref b)) Q E s:=by
 obtain ⟨⟨cls,dd,data,sl⟩,ho,hc,n,hd⟩:=id ht;obtain ⟨⟨cls2,dd2,data2,sl2⟩,ho2,hc2,n2,hd2⟩:=id hb;simp only at hc hd hc2 hd2;subst hc hd hc2 hd2;have e:vs.toArray++ws.toArray=(vs++ws).toArray:=by simp
 by_cases hw:ws=[]
 ·exact concat_meets ⟨_,ho,rfl⟩ ⟨_,ho2,rfl⟩ noFill_tuple_add seq_tuple_add F.slot_tuple_add F.entry_tuple_add (F.args_tuple_add_2 _ _)
   (tuple_addW1 t b vs.toArray ws.toArray n n2 dd dd2 sl sl2 (by simpa using hv) (by simp [hw])) ⟨ho,ho2,h1 hw⟩
 ·refine concat_meets ⟨_,ho,rfl⟩ ⟨_,ho2,rfl⟩ noFill_tuple_add seq_tuple_add F.slot_tuple_add F.entry_tuple_add (F.args_tuple_add_2 _ _)
   (tuple_addW2 t b vs.toArray ws.toArray n n2 dd dd2 sl sl2 (by simpa using hv) (by simpa using hw) (by rw [aT,aT];exact hsz)) ⟨ho,ho2,?_⟩
  rw [e];exact h2 hw
def sIx(n d:Nat):Option Int->Nat
 | none=>d
 | some v=>if v < 0 then (v+(n:Int)).toNat else min v.toNat n
theorem sIx_none(n d:Nat):sIx n d none=d:=rfl
theorem sIx_nat(n d k:Nat):sIx n d (some (k:Int))=min k n:=by
 show (if (k:Int) < 0 then ((k:Int)+(n:Int)).toNat else min (k:Int).toNat n)=min k n;rw [if_neg (by omega),Int.toNat_natCast]
theorem zg9(n d:Nat)(hd:d<=n)(o:Option Int):sIx n d o<=n:=by
 cases o with
 | none=>exact hd
 | some v=>
  show (if v < 0 then (v+(n:Int)).toNat else min v.toNat n)<=n;by_cases hv:v < 0
  ·rw [if_pos hv];omega
  ·rw [if_neg hv];exact Nat.min_le_right _ _
theorem tN(v:Int)(n d:Nat):(if v < 0 then max (v+(n:Int)) 0 else min v (n:Int))=((sIx n d (some v):Nat):Int):=by
 show (if v < 0 then max (v+(n:Int)) 0 else min v (n:Int))=(((if v < 0 then (v+(n:Int)).toNat else min v.toNat n):Nat):Int)
 by_cases hv:v < 0
 ·simp only [if_pos hv];omega
 ·simp only [if_neg hv];omega
theorem zG(lo hi:Option Int)(n:Nat):Builtin.Slice.sliceAdjust lo hi 1 (n:Int)=(((sIx n 0 lo:Nat):Int),((sIx n n hi:Nat):Int)):=by
 have h1:¬ ((1:Int) < 0):=by omega
 unfold Builtin.Slice.sliceAdjust;simp only [h1,if_false];refine Prod.ext ?_ ?_
 ·cases lo with
  | none=>rfl
  | some v=>exact tN v n 0
 ·cases hi with
  | none=>rfl
  | some v=>exact tN v n n
theorem zga(i j:Nat):Builtin.Slice.slicePlaces (i:Int) (j:Int) 1=j - i:=by
 unfold Builtin.Slice.slicePlaces;have h1:(1:Int) > 0:=by omega
 simp only [h1,if_true,Int.ediv_one]
 split <;> omega
theorem wP{o:Option Int}{Q:Option Int->Shared->Prop}(p:IsPart v o)(h:Q o s):wpAny (model prog w) A (Builtin.Slice.slicePartIndex v) Q E s:=by
 cases p with
 | none=>exact slicePart_none h
 | int i t=>exact slicePart_int h
theorem zh3{sl:Addr}{lo:Option Int}{Q:Int × Int × Nat->Shared->Prop}(hs:s.heap.IsSliceOf sl vl vu .none)(pl:IsPart vl lo)(pu:IsPart vu hi)(h:Q (((sIx n 0 lo:Nat):Int),1,sIx n n hi - sIx n 0 lo) s):wpAny (model prog w) A (Builtin.Slice.sliceApplied (.ref sl) (pure (n:Int))) Q E s:=by
 obtain ⟨os,hos,hcs,hds⟩:=id hs;unfold Builtin.Slice.sliceApplied Builtin.Slice.sliceFields;refine ao (ao (wpAny_field hos hds (x:=vl) rfl (ao (wpAny_field hos hds (x:=vu) rfl (ao (wpAny_field hos hds (x:=.none) rfl (aL ?_)))))));refine ao (slicePart_none ?_);show wpAny _ _ (if ((1:Int) == 0)=true then _ else _) _ _ s;rw [if_neg (by decide)];refine ao (wP pl (ao (wP pu (ao (aL ?_)))));show wpAny _ _ (match Builtin.Slice.sliceAdjust lo hi 1 (n:Int) with | (lo,hi)=>pure (lo,(1:Int),Builtin.Slice.slicePlaces lo hi 1)) _ _ s;rw [zG lo hi n];show wpAny _ _ (pure (((sIx n 0 lo:Nat):Int),(1:Int),Builtin.Slice.slicePlaces ((sIx n 0 lo:Nat):Int) ((sIx n n hi:Nat):Int) 1)) _ _ s;rw [zga];exact aL h
theorem zf9(xs:Array Value)(i k:Nat):((List.range k).filterMap λ (m:Nat)=>xs[((i:Int)+(m:Int) * 1).toNat]?).toArray=((xs.toList.drop i).take k).toArray:=by
 have e:(λ (m:Nat)=>xs[((i:Int)+(m:Int) * 1).toNat]?)=λ m=>xs[i+m]?:=by
  funext m
  have:((i:Int)+(m:Int) * 1).toNat=i+m:=by omega
  rw [this]
 rw [e];have:=pick_run xs i k;rw [List.filterMap_map] at this;have e2:((λ x=>xs[x]?) ∘ λ x=>i+x)=λ m=>xs[i+m]?:=rfl;rw [e2] at this;rw [this]
theorem getItem_tuple_cut{t sl:Addr}{lo:Option Int}(ht:IsTup s.heap t items)(hs:s.heap.IsSliceOf sl vl vu .none)(pl:IsPart vl lo)(pu:IsPart vu hi)(hw:¬ (sIx items.size 0 lo=0/\sIx items.size items.size hi=items.size))(h:Q (.ref s.heap.objs.size) { s with heap:=s.heap.push { cls:=.type "tuple", data:=.seq ((items.toList.drop (sIx items.size 0 lo)).take (sIx items.size items.size hi - sIx items.size 0 lo)).toArray } })(hsz:items.size<=sizeLine):wpAny (model prog w) A (getItem (.ref t) (.ref sl)) Q E s:=by
 have htake:sizeOk (.seq ((items.toList.drop (sIx items.size 0 lo)).take (sIx items.size items.size hi - sIx items.size 0 lo)).toArray):=by
  show ((items.toList.drop (sIx items.size 0 lo)).take (sIx items.size items.size hi - sIx items.size 0 lo)).toArray.size<=sizeLine;rw [aT,bc,List.length_drop,Array.length_toList];omega
 have hj:sIx items.size items.size hi<=items.size:=zg9 _ _ (az _) hi;obtain ⟨os,hos,hcs,hds⟩:=id hs;have hTs:s.TypeIs (.ref sl) "slice" := ⟨os,hos,hcs⟩
 unfold getItem
 try with_reducible refine wpAny_holding ?_
 first | refine ao (aL ?_) | skip
 refine ao (wpAny_sequenceKey ht.typeIs (by decide) ?_);refine ao (wpAny_callSpecial?_slot (name:=Str.ofString "__getitem__") ht.typeIs PyProof.Rows.slot_tuple_getitem
  (wpAny_call_entry PyProof.Rows.slot_tuple_getitem ht.typeIs entry_tuple_getitem ?_ (args_tuple_getitem _ _)))
 show wpAny _ _ (Builtin.Tuple.tupleItemsOf (.ref t) >>= _) _ _ s;refine ao (tupleItemsOf_ ht ?_);refine ao (wpAny_typeOf hTs ?_);rw [if_pos (by decide)];refine ao (zh3 hs pl pu ?_);have hno:¬ ((((sIx items.size 0 lo:Nat):Int) == 0 && (1:Int) == 1 && (sIx items.size items.size hi - sIx items.size 0 lo) == items.size)=true):=by
  intro q;rw [Bool.and_eq_true,Bool.and_eq_true] at q;have q1:((sIx items.size 0 lo:Nat):Int)=0:=eq_of_beq q.1.1;have q2:sIx items.size items.size hi - sIx items.size 0 lo=items.size:=eq_of_beq q.2;exact hw ⟨by omega,by omega⟩
 show wpAny _ _ (if (((sIx items.size 0 lo:Nat):Int) == 0 && (1:Int) == 1 && (sIx items.size items.size hi - sIx items.size 0 lo) == items.size)=true then _ else _) _ _ s;rw [if_neg hno,zf9]
 first
  | exact ao (m:=Builtin.Tuple.tupleExact _) (wpAny_newObj_type (aL ⟨_,rfl,aL h⟩) htake)
  | exact ao (m:=Builtin.Tuple.tupleExact _) (wpAny_newObj_type (ao (aL (aL ⟨_,rfl,aL h⟩))) htake)
  | exact ao (ao (m:=Builtin.Tuple.tupleExact _) (wpAny_newObj_type (aL (aL ⟨_,rfl,aL h⟩)) htake))
  | exact ao (ao (m:=Builtin.Tuple.tupleExact _) (wpAny_newObj_type (aL ⟨_,rfl,aL h⟩) htake))
end HT
abbrev TO:=St->Hp->(Option Int->Hp->Prop)->Prop
def PO(X:Cx)(e:Option Expr)(t:TO):Prop:=
 ∀ (pins:List (Addr × Obj)) (s:Shared) (σ:St) (H:Hp) (Q:Option Int->Hp->Prop),Inv X pins σ H s->t σ H Q->
  wpAny (model X.prog X.w) X.A (evalPart e X.env) (λ u s'=>∃ o H',Inv X pins σ H' s'/\IsPart u o/\Q o H') X.xe s
def ziF:TO:=λ _ H Q=>Q none H
inductive ziL (Q:Option Int->Hp->Prop) (x:V) (H1:Hp):Prop
 | i (i:_) (_:x = .int i) (_:Q (some i) H1)
def ziK(t:TE):TO:=λ σ H Q=>t σ H λ x H1=>ziL Q x H1
theorem lg  : ∀ {us:List Value},Vals (ns.map V.int) us->IntsAre us ns:=by
 induction ns with
 | nil=>intro us r;rw [List.map_nil] at r;cases r;exact .nil
 | cons n ns ih=>
  intro us r;rw [bE] at r;cases r with
  | cons r1 r2=>
   obtain ⟨t,e⟩:=r1;subst e;exact .cons n t (ih r2)
section
variable {lo hi:Option Expr} {tl th:TO}
theorem fB:PO X none ziF:=by
 intro pins s σ H Q I h;rw [evalPart_none];exact aL ⟨none,H,I,.none,h⟩
theorem cY(h:PE X e te):PO X (some e) (ziK te):=by
 intro pins s σ H Q I hw;rw [evalPart_some];refine thn (h pins s σ H _ I hw) λ u s1 ⟨x,H1,I1,r1,q1⟩=>?_;obtain ⟨i,rfl,q⟩:=q1;obtain ⟨t,rfl⟩:=r1;exact ⟨some i,H1,I1,.int i t,q⟩
def SlR(X:Cx)(r:V->Option Int->Option Int->Hp->VK->Prop):Prop:=
 ∀ (pins:List (Addr × Obj)) (s:Shared) (σ:St) (H:Hp) (x:V) (v vl vu:Value) (lo hi:Option Int) (sl:Addr) (Q:VK),Inv X pins σ H s->RelV x v->s.heap.IsSliceOf sl vl vu .none->IsPart vl lo->IsPart vu hi->r x lo hi H Q->
  ∃ T id,typeLookup (.type T) "__getitem__" = pure (some (.builtin id))/\s.TypeIs v T/\wpAny (model X.prog X.w) X.A (getItem v (.ref sl)) (EP X pins σ Q) X.xe s
theorem SlR.or{r r':V->Option Int->Option Int->Hp->VK->Prop}(h:SlR X r)(h':SlR X r'):SlR X (λ x lo hi H Q=>r x lo hi H Q\/r' x lo hi H Q):=by
 intro pins s σ H x v vl vu lo hi sl Q I rx hs pl pu q;rcases q with q | q
 ·exact h pins s σ H x v vl vu lo hi sl Q I rx hs pl pu q
 ·exact h' pins s σ H x v vl vu lo hi sl Q I rx hs pl pu q
def tSl(r:V->Option Int->Option Int->Hp->VK->Prop)(te:TE)(tl th:TO):TE:=λ σ H Q=>te σ H λ x H1=>tl σ H1 λ l H2=>th σ H2 λ u H3=>r x l u H3 Q
theorem d0{r:V->Option Int->Option Int->Hp->VK->Prop}(hr:SlR X r)(he:PE X e te)(hl:PO X lo tl)(hu:PO X hi th):PE X (.Subscript e (.Slice lo hi none p2) pos) (tSl r te tl th):=by
 intro pins s σ H Q I h;refine Subscript_ (thn (he pins s σ H _ I h) λ v s1 ⟨x,H1,I1,r1,q1⟩=>?_);refine wpAny_Slice (thn (hl pins s1 σ H1 _ I1 q1) λ vl s2 ⟨l,H2,I2,pl,q2⟩=>thn (hu pins s2 σ H2 _ I2 q2) λ vu s3 ⟨u,H3,I3,pu,q3⟩=>?_);rw [evalPart_none];refine aL ?_;have I4:Inv X pins σ H3 { s3 with heap:=s3.heap.push { cls:=.type "slice", data:=.fields #[vl,vu,.none] } }:=I3.kept (t':=s3.toks) λ b ob q=>bf _ q;obtain ⟨T,id,hT,ht,hg⟩:=hr pins { s3 with heap:=s3.heap.push { cls:=.type "slice", data:=.fields #[vl,vu,.none] } } σ H3 x v vl vu l u s3.heap.objs.size Q I4 r1 (Heap.IsSliceOf.new ..) pl pu q3;show wpAny (model X.prog X.w) X.A (subscriptTail e (.Slice lo hi none p2) v (.ref s3.heap.objs.size)) (EP X pins σ Q) X.xe { s3 with heap:=s3.heap.push { cls:=.type "slice", data:=.fields #[vl,vu,.none] } };exact tail_any (ops:=[.ref s3.heap.objs.size,v]) ht hT hg (by with_unfolding_all rfl)
def cH(xs:List V)(lo hi:Option Int):List V:=(xs.drop (HT.sIx xs.length 0 lo)).take (HT.sIx xs.length xs.length hi - HT.sIx xs.length 0 lo)
theorem tV(xs:List V)(lo hi:Option Int):(cH xs lo hi).length<=xs.length:=by
 unfold cH;rw [bc,List.length_drop];omega
inductive wz (K:W.Frag) (x:V) (lo:Option Int) (hi:Option Int) (H:Hp) (Q:VK):Prop
 | i (a xs:_) (_:x = .ref a) (_:SqT K H a xs) (_:¬ (HT.sIx xs.length 0 lo=0/\HT.sIx xs.length xs.length hi=xs.length)) (_:∀ p,H p=none->Q (.ref p) (upd H p (.tup (cH xs lo hi))))
theorem zh2:SlR X (wz X.K):=by
 intro pins s σ H x v vl vu lo hi sl Q I rx hs pl pu h;obtain ⟨a,xs,rfl,hx,hw,q⟩:=h;cases rx;obtain ⟨its,r,ht,hz⟩:=I.tuple hx;have hlen:its.toArray.size=xs.length:=by rw [aT];exact r.length.symm
 refine ⟨"tuple", _,PyProof.Rows.slot_tuple_getitem.lookup,ht.typeIs,?_⟩;refine HT.getItem_tuple_cut ht hs pl pu (by rw [hlen];exact hw) ?_ (by rw [hlen];exact hz);rw [hlen];refine ⟨.ref s.heap.objs.size,_,I.laid (t':=s.toks) (o:=.tup (cH xs lo hi)) (λ b ob q=>bf _ q) (az _) ?_,rfl,q _ (I.hok.fresh (az _))⟩;exact ⟨Nat.le_trans (tV xs lo hi) hz,_,(r.drop (HT.sIx xs.length 0 lo)).take (HT.sIx xs.length xs.length hi - HT.sIx xs.length 0 lo),IsTup.new _ _⟩
inductive wo (K:W.Frag) (x:V) (y:V) (H:Hp) (Q:VK):Prop
 | i (a b xs ys:_) (_:x = .ref a) (_:y = .ref b) (_:SqT K H a xs) (_:SqT K H b ys) (_:xs≠[]) (_:xs.length+ys.length<=sizeLine) (_:(ys=[]->Q (.ref a) H)) (_:(ys≠[]->∀ p,H p=none->Q (.ref p) (upd H p (.tup (xs++ys)))))
theorem Vals.nil_iff(r:Vals xs us):us=[]↔xs=[]:=by
 cases r with
 | nil=>simp
 | cons _ _=>simp
theorem zfH:OpR X (binaryOp .Add) (wo X.K):=by
 intro pins s σ H x y v u Q I rx ry h;obtain ⟨a,b,xs,ys,rfl,rfl,ha,hb,hx,hz,q1,q2⟩:=h;cases rx;cases ry;obtain ⟨its,r1,p1,_⟩:=I.tuple ha;obtain ⟨its2,r2,p2,_⟩:=I.tuple hb;refine HT.cat_tup p1 p2 (λ z=>hx (r1.nil_iff.mp z)) (λ z=>⟨.ref a,H,I,rfl,q1 (r2.nil_iff.mp z)⟩) (λ z=>?_) (by rw [← r1.length,← r2.length];exact hz);refine ⟨.ref s.heap.objs.size,_,I.laid (t':=s.toks) (o:=.tup (xs++ys)) (λ b ob q=>bf _ q) (az _) ?_,rfl,q2 (λ w=>z (r2.nil_iff.mpr w)) _ (I.hok.fresh (az _))⟩;exact ⟨by rw [bn];exact hz,_,r1.append r2,IsTup.new _ _⟩
end
def ixN(n:Nat)(i:Int):Option Nat:=if 0<=i then (if i < n then some i.toNat else none) else if -(n:Int)<=i then some (i+n).toNat else none
def atI(xs:List α)(i:Int):Option α:=(ixN xs.length i).bind λ j=>xs[j]?
theorem uR{i:Int}(h:ixN n i=some j):seqIndex? i n=some j/\j < n/\-(n:Int)<=i/\i < n:=by
 unfold ixN at h;by_cases h0:0<=i
 ·rw [if_pos h0] at h;by_cases h1:i < n
  ·rw [if_pos h1] at h;have e:i.toNat=j:=bL h;exact ⟨by rw [seqIndex_of h0 h1,e],by omega,by omega,h1⟩
  ·rw [if_neg h1] at h;cases h
 ·rw [if_neg h0] at h;by_cases h1 : -(n:Int)<=i
  ·rw [if_pos h1] at h;have e:(i+n).toNat=j:=bL h;exact ⟨by rw [seqIndex_neg (by omega) h1,e],by omega,h1,by omega⟩
  ·rw [if_neg h1] at h;cases h
theorem sH{xs:List α}{i:Int}{v:α}(h:atI xs i=some v):∃ j,seqIndex? i xs.length=some j/\xs[j]?=some v/\j < xs.length/\-(xs.length:Int)<=i/\i < xs.length:=by
 unfold atI at h;cases e:ixN xs.length i with
 | none=>rw [e] at h;cases h
 | some j=>
  rw [e] at h;obtain ⟨h1,h2,h3,h4⟩:=uR e;exact ⟨j,h1,h,h2,h3,h4⟩
theorem ef{xs:List α}{v:α}(h:xs[j]?=some v):atI xs (j:Int)=some v:=by
 have hj:j < xs.length:=(al_gs.mp h).1;have e:ixN xs.length (j:Int)=some j:=by
  unfold ixN;rw [if_pos (by omega),if_pos (by omega)];simp
 unfold atI;rw [e];exact h
theorem kE(xs:List α)(v:α):atI (xs++[v]) (-1)=some v:=by
 have hl:(xs++[v]).length=xs.length+1:=by simp
 have e:ixN (xs++[v]).length (-1)=some xs.length:=by
  unfold ixN;rw [hl,if_neg (by decide),if_pos (by omega)]
  congr 1
  omega
 unfold atI;rw [e];show (xs++[v])[xs.length]?=some v;simp
def zB(b:Expr):Prop:=∀ o i,subscripted b false o i=operate [o,i] (getItem o i)
def IxR(X:Cx)(r:R2):Prop:=
 ∀ (value slice:Expr) (pins:List (Addr × Obj)) (s:Shared) (σ:St) (H:Hp) (x y:V) (v u:Value) (Q:VK),Inv X pins σ H s->RelV x v->RelV y u->r x y H Q->
  subscripted slice false v u=operate [v,u] (getItem v u)->wpAny (model X.prog X.w) X.A (subscriptTail value slice v u) (EP X pins σ Q) X.xe s
def MtR(X:Cx)(id:String)(r:V->List V->Hp->VK->Prop):Prop:=
 ∀ (pins:List (Addr × Obj)) (s:Shared) (σ:St) (H:Hp) (x:V) (xs:List V) (v:Value) (us:List Value) (Q:VK),Inv X pins σ H s->RelV x v->Vals xs us->r x xs H Q->
  wpAny (model X.prog X.w) X.A (call (.builtin id) (v::us)) (EP X pins σ Q) X.xe s
section
variable {a b:Expr} {tb:TE}
theorem IxR.or{r r':R2}(h:IxR X r)(h':IxR X r'):IxR X (λ x y H Q=>r x y H Q\/r' x y H Q):=by
 intro value slice pins s σ H x y v u Q I rx ry q hs;rcases q with q | q
 ·exact h value slice pins s σ H x y v u Q I rx ry q hs
 ·exact h' value slice pins s σ H x y v u Q I rx ry q hs
theorem MtR.or{id:String}(h:MtR X id r)(h':MtR X id r'):MtR X id (λ x xs H Q=>r x xs H Q\/r' x xs H Q):=by
 intro pins s σ H x xs v us Q I rx rs q;rcases q with q | q
 ·exact h pins s σ H x xs v us Q I rx rs q
 ·exact h' pins s σ H x xs v us Q I rx rs q
theorem aP{r:R2}(hr:IxR X r)(ha:PE X a ta)(hb:PE X b tb)(hs:zB b):PE X (.Subscript a b pos) (tOp r ta tb):=by
 intro pins s σ H Q I h;exact Subscript_ (m8 ha hb I h λ v u s2 x y H2 I2 rx ry q=>hr a b pins s2 σ H2 x y v u Q I2 rx ry q (hs _ _))
inductive wq (K:W.Frag) (x:V) (y:V) (H:Hp) (Q:VK):Prop
 | i (p xs i v:_) (_:x = .ref p) (_:y = .int i) (_:SqL K H p xs) (_:atI xs i=some v) (_:Q v H)
inductive jU (K:W.Frag) (x:V) (y:V) (H:Hp) (Q:VK):Prop
 | i (p xs i v:_) (_:x = .ref p) (_:y = .int i) (_:SqT K H p xs) (_:atI xs i=some v) (_:Q v H)
theorem uS:IxR X (wq X.K):=by
 intro value slice pins s σ H x y v u Q I rx ry h hs;obtain ⟨p,xs,i,z,rfl,rfl,hq,he,q⟩:=h;cases rx;obtain ⟨t,rfl⟩:=ry;obtain ⟨its,r,pl,hz⟩:=I.list hq;obtain ⟨j,h1,h2,h3,h4,h5⟩:=sH he;obtain ⟨w,ew,rw'⟩:=r.get h2;have hl:=r.length;have hn:=hJ;have fin:EP X pins σ Q w s:=⟨z,H,I,rw',q⟩
 by_cases h0:0<=i
 ·have hj:i.toNat=j:=by
   rw [seqIndex_of h0 h5] at h1;exact bL h1
  exact item_listR pl.isList h0 (by omega) (by rw [hj];simpa using ew) fin hs
 ·have hj:(i+(its.toArray.size:Int)).toNat=j:=by
   rw [seqIndex_neg (by omega) h4] at h1;rw [aT,← hl];exact bL h1
  exact subscriptTail_builtinR (x:=w) pl.isList.typeIs slot_list_getitem.lookup
   (wpAny_getItem_list_neg (Q:=λ r s'=>r=w/\EP X pins σ Q r s') pl.isList (by omega) (by rw [aT] <;> omega) (by omega) (by rw [hj];simpa using ew) ⟨rfl,fin⟩) hs
theorem uT:IxR X (jU X.K):=by
 intro value slice pins s σ H x y v u Q I rx ry h hs;obtain ⟨p,xs,i,z,rfl,rfl,hq,he,q⟩:=h;cases rx;obtain ⟨t,rfl⟩:=ry;obtain ⟨its,r,pl,hz⟩:=I.tuple hq;obtain ⟨j,h1,h2,h3,h4,h5⟩:=sH he;obtain ⟨w,ew,rw'⟩:=r.get h2;have hl:=r.length;have hn:=hJ;have fin:EP X pins σ Q w s:=⟨z,H,I,rw',q⟩
 exact subscriptTail_builtinR (x:=w) pl.typeIs slot_tuple_getitem.lookup
  (getItem_tuple (j:=j) (Q:=λ r s'=>r=w/\EP X pins σ Q r s') pl (by omega) (by omega) (by rw [aT,← hl];exact h1) (by simpa using ew) ⟨rfl,fin⟩) hs
theorem zcP(its:List Value)(n j:Nat)(u:Value):Obj.mapSeq (·.setIfInBounds j u) { cls:=.type "list", data:=.seq its.toArray n }={ cls:=.type "list", data:=.seq (its.set j u).toArray n }:=by
 simp [Obj.mapSeq]
theorem Inv.lst{p:Addr}(I:Inv X pins σ H s)(h:H p=some (.lst xs)):
  ∃ (its:List Value) (n:Nat),Vals xs its/\s.heap.get? p=some { cls:=.type "list", data:=.seq its.toArray n }/\xs.length<=sizeLine:=by
 obtain ⟨z,its,n,r,e⟩:=I.hok p _ h;exact ⟨its,n,r,e,z⟩
theorem Inv.lstUpd{p:Addr}{n':Nat}{f:Obj->Obj}(I:Inv X pins σ H s)(h:H p=some (.lst xs))(ho:s.heap.get? p=some { cls:=.type "list", data:=.seq its.toArray n })(hf:f { cls:=.type "list", data:=.seq its.toArray n }={ cls:=.type "list", data:=.seq its'.toArray n' })(r:Vals ys its')(hz:ys.length<=sizeLine)(t:Nat):
  Inv X pins σ (upd H p (.lst ys)) { s with heap:=s.heap.update p f,toks:=t }:=by
 have e:(s.heap.update p f).get? p=some { cls:=.type "list", data:=.seq its'.toArray n' }:=by
  rw [Heap.get?_update_self f ho (by rw [hf] <;> rfl),hf]
 refine I.write (x:=p) (e:=p) (by rw [h];trivial) (.inl rfl) (λ b u hb q=>(Heap.get?_update_other _ _ (Ne.symm hb)).trans q) ⟨_,e⟩ ?_;exact ⟨hz,its',n',r,e⟩
inductive zgL (o:V) (i:V) (v:V) (H:Hp) (Q:Hp->Prop):Prop
 | i (p xs k j:_) (_:o = .ref p) (_:i = .int k) (_:H p=some (.lst xs)) (_:ixN xs.length k=some j) (_:Q (upd H p (.lst (xs.set j v))))
theorem zhZ:sx X zgL:=by
 intro pins s σ H o i v ov iv u Q I ro ri rv h;obtain ⟨p,xs,k,j,rfl,rfl,hp,hj,q⟩:=h;cases ro;obtain ⟨t,rfl⟩:=ri;obtain ⟨its,n,r,ho,hz⟩:=I.lst hp;obtain ⟨h1,h2,h3,h4⟩:=uR hj;have hl:=r.length;have hn:=hJ;have I':Inv X pins σ (upd H p (.lst (xs.set j v))) { s with heap:=s.heap.update p (Obj.mapSeq (·.setIfInBounds j u)) }:=
  I.lstUpd hp ho (zcP its n j u) (r.set rv j) (by rw [List.length_set];exact hz) s.toks
 by_cases h0:0<=k
 ·have hk:k.toNat=j:=by
   rw [seqIndex_of h0 h4] at h1;exact bL h1
  exact W.ki_setAt ho h0 (by omega) (by rw [aT,← hl];exact h4) (by rw [hk];exact ⟨_,I',q⟩)
 ·have hk:(k+(its.toArray.size:Int)).toNat=j:=by
   rw [seqIndex_neg (by omega) h3] at h1;rw [aT,← hl];exact bL h1
  exact W.ki_setBack ho (by omega) (by rw [aT,← hl];exact h3) (by omega) (by rw [hk];exact ⟨_,I',q⟩)
theorem tO(n:Nat)(i:Int):(if (1:Int) > 0 then max 0 (min (if i < 0 then i+n else i) (n:Int)) else max (-1) (min (if i < 0 then i+n else i) ((n:Int) - 1)))=((HT.sIx n 0 (some i):Nat):Int):=by
 rw [if_pos (by decide)];show _=((if i < 0 then (i+(n:Int)).toNat else min i.toNat n:Nat):Int)
 by_cases h:i < 0
 ·rw [if_pos h,if_pos h,Int.min_eq_left (by omega),Int.max_comm];exact (Int.ofNat_toNat _).symm
 ·rw [if_neg h,if_neg h];obtain ⟨k,rfl⟩:=Int.eq_ofNat_of_zero_le (Int.not_lt.mp h);rw [Int.toNat_natCast];rcases Nat.le_total k n with z | z
  ·rw [Nat.min_eq_left z,Int.min_eq_left (Int.ofNat_le.mpr z)];exact Int.max_eq_right (Int.natCast_nonneg _)
  ·rw [Nat.min_eq_right z,Int.min_eq_right (Int.ofNat_le.mpr z)];exact Int.max_eq_right (Int.natCast_nonneg _)
theorem zh5(lo hi:Option Int)(n:Nat):(sliceBounds lo hi none n).1=((HT.sIx n 0 lo:Nat):Int)/\(sliceBounds lo hi none n).2.1=((HT.sIx n n hi:Nat):Int)/\(sliceBounds lo hi none n).2.2=1:=by
 refine ⟨?_,?_,rfl⟩
 ·cases lo with
  | none=>rfl
  | some i=>exact tO n i
 ·cases hi with
  | none=>rfl
  | some i=>exact tO n i
theorem zh4(its:List Value)(lo hi:Option Int):slicePick its.toArray lo hi none=((its.drop (HT.sIx its.length 0 lo)).take (HT.sIx its.length its.length hi - HT.sIx its.length 0 lo)).toArray:=by
 obtain ⟨h1,h2,h3⟩:=zh5 lo hi its.toArray.size;unfold slicePick;rw [h1,h2,h3];simp only [sliceRange_one,pick_run,aT] <;> rfl
inductive wy (K:W.Frag) (x:V) (lo:Option Int) (hi:Option Int) (H:Hp) (Q:VK):Prop
 | i (a xs:_) (_:x = .ref a) (_:SqL K H a xs) (_:∀ p,H p=none->Q (.ref p) (upd H p (.lst (cH xs lo hi))))
theorem zh1:SlR X (wy X.K):=by
 intro pins s σ H x v vl vu lo hi sl Q I rx hs pl pu h;obtain ⟨a,xs,rfl,hx,q⟩:=h;cases rx;obtain ⟨its,r,ht,hz⟩:=I.list hx;have hlen:=r.length;refine ⟨"list", _,slot_list_getitem.lookup,ht.isList.typeIs,?_⟩;refine wpAny_getItem_list_slice ht.isList hs pl pu .none (by simp) ?_ (by rw [aT] <;> omega);rw [zh4,← hlen];refine ⟨.ref s.heap.objs.size,_,I.laid (t':=s.toks) (o:=.lst (cH xs lo hi)) (λ b ob q=>bf _ q) (az _) ?_,rfl,q _ (I.hok.fresh (az _))⟩;exact ⟨Nat.le_trans (tV xs lo hi) hz,_,0,(r.drop (HT.sIx xs.length 0 lo)).take (HT.sIx xs.length xs.length hi - HT.sIx xs.length 0 lo),Heap.get?_push_size _ rfl⟩
def b9:V->Bool
 | .non=>true
 | .bl _=>true
 | .int _=>true
 | .str _=>true
 | _=>false
def eqV:V->V->Bool
 | .non,.non=>true
 | .bl a,.bl b=>a == b
 | .bl a,.int b=>(if a then 1 else 0) == b
 | .int a,.bl b=>a == (if b then 1 else 0)
 | .int a,.int b=>a == b
 | .str a,.str b=>a == b
 | _,_=>false
theorem kR{y x:V}(ry:RelV y u)(rx:RelV x v)(fy:b9 y=true)(fx:b9 x=true):SeqAt.EqAt A s u v (eqV y x):=by
 cases y with
 | non=>
  cases ry;cases x with
  | non=>cases rx;exact SeqAt.EqAt.same _
  | bl b=>cases rx;exact SeqAt.EqAt.none_bool b
  | int b=>obtain ⟨t,rfl⟩:=rx;exact SeqAt.EqAt.none_int b t
  | str b=>obtain ⟨t,rfl⟩:=rx;exact SeqAt.EqAt.none_str b t
  | _=>exact absurd (show false=true from fx) bC
 | bl a=>
  cases ry;cases x with
  | non=>cases rx;exact SeqAt.EqAt.bool_none a
  | bl b=>cases rx;exact SeqAt.EqAt.bool_bool a b
  | int b=>obtain ⟨t,rfl⟩:=rx;exact SeqAt.EqAt.bool_int a b t
  | str b=>obtain ⟨t,rfl⟩:=rx;exact SeqAt.EqAt.bool_str a b t
  | _=>exact absurd (show false=true from fx) bC
 | int a=>
  obtain ⟨t',rfl⟩:=ry;cases x with
  | non=>cases rx;exact SeqAt.EqAt.int_none a t'
  | bl b=>cases rx;exact SeqAt.EqAt.int_bool a t' b
  | int b=>obtain ⟨t,rfl⟩:=rx;exact SeqAt.EqAt.int_int a t' b t
  | str b=>obtain ⟨t,rfl⟩:=rx;exact SeqAt.EqAt.int_str a t' b t
  | _=>exact absurd (show false=true from fx) bC
 | str a=>
  obtain ⟨t',rfl⟩:=ry;cases x with
  | non=>cases rx;exact SeqAt.EqAt.str_none a t'
  | bl b=>cases rx;exact SeqAt.EqAt.str_bool a t' b
  | int b=>obtain ⟨t,rfl⟩:=rx;exact SeqAt.EqAt.str_int a t' b t
  | str b=>obtain ⟨t,rfl⟩:=rx;exact SeqAt.EqAt.str_str a t' b t
  | _=>exact absurd (show false=true from fx) bC
 | _=>exact absurd (show false=true from fy) bC
def eqU(x:V)(u:Value):Bool:=match u with
 | .none=>eqV .non x
 | .bool b=>eqV (.bl b) x
 | .int i _=>eqV (.int i) x
 | .str z _=>eqV (.str z) x
 | _=>false
theorem jy{x y:V}(r:RelV y u)(f:b9 y=true):eqU x u=eqV y x:=by
 cases y with
 | non=>cases r;rfl
 | bl b=>cases r;rfl
 | int i=>obtain ⟨t,rfl⟩:=r;rfl
 | str z=>obtain ⟨t,rfl⟩:=r;rfl
 | _=>exact absurd (show false=true from f) bC
theorem jr{x:V}:∀ {xs:List V} {us:List Value},Vals xs us->xs.all b9=true->us.any (eqU x)=xs.any λ y=>eqV y x
 | _,_,.nil,_=>rfl
 | y::xs,u::us,.cons r t,f=>by
  rw [List.all_cons,Bool.and_eq_true] at f;rw [List.any_cons,List.any_cons,jy r f.1,jr t f.2]
theorem gz{A:Around}{s:Shared}{x:V}{v:Value}(rx:RelV x v)(fx:b9 x=true):∀ {xs:List V} {us:List Value},Vals xs us->xs.all b9=true->∀ u∈us,SeqAt.EqAt A s u v (eqU x u)
 | _,_,.nil,_=>λ u hu=>by cases hu
 | y::xs,u::us,.cons r t,f=>λ u' hu=>by
  rw [List.all_cons,Bool.and_eq_true] at f;rcases al_mc.mp hu with rfl | hu
  ·rw [jy r f.1];exact kR r rx f.1 fx
  ·exact gz rx fx t f.2 u' hu
def inV(x:V)(xs:List V):Bool:=xs.any λ y=>eqV y x
inductive rIn (K:W.Frag) (neg:Bool) (x:V) (y:V) (H:Hp) (Q:VK):Prop
 | i (p xs:_) (_:y = .ref p) (_:(SqL K H p xs\/SqT K H p xs)) (_:b9 x=true) (_:xs.all b9=true) (_:Q (.bl (if neg then !inV x xs else inV x xs)) H)
theorem zfL:OpR X (compareOp .In) (rIn X.K false):=by
 intro pins s σ H x y v u Q I rx ry h;obtain ⟨p,xs,rfl,hq,fx,fs,q⟩:=h;cases ry;rcases hq with hq | hq
 ·obtain ⟨its,r,pl,hz⟩:=I.list hq;refine SeqAt.in_listAt (eqU x) pl.isList (λ w hw=>gz rx fx r fs w (by simpa using hw)) ⟨.bl _,H,I,rfl,?_⟩;rw [show its.toArray.any (eqU x)=its.any (eqU x) by simp,jr r fs];exact q
 ·obtain ⟨its,r,pl,hz⟩:=I.tuple hq;refine SeqAt.in_tupleAt (eqU x) pl (λ w hw=>gz rx fx r fs w (by simpa using hw)) ⟨.bl _,H,I,rfl,?_⟩;rw [show its.toArray.any (eqU x)=its.any (eqU x) by simp,jr r fs];exact q
theorem vQ:OpR X (compareOp .NotIn) (rIn X.K true):=by
 intro pins s σ H x y v u Q I rx ry h;obtain ⟨p,xs,rfl,hq,fx,fs,q⟩:=h;cases ry;rcases hq with hq | hq
 ·obtain ⟨its,r,pl,hz⟩:=I.list hq;refine SeqAt.notIn_listAt (eqU x) pl.isList (λ w hw=>gz rx fx r fs w (by simpa using hw)) ⟨.bl _,H,I,rfl,?_⟩;rw [show its.toArray.any (eqU x)=its.any (eqU x) by simp,jr r fs];exact q
 ·obtain ⟨its,r,pl,hz⟩:=I.tuple hq;refine SeqAt.notIn_tupleAt (eqU x) pl (λ w hw=>gz rx fx r fs w (by simpa using hw)) ⟨.bl _,H,I,rfl,?_⟩;rw [show its.toArray.any (eqU x)=its.any (eqU x) by simp,jr r fs];exact q
theorem call_len_seq:CallR X (.builtin "len") (λ xs H Q=>∃ p ys,xs=[.ref p]/\(SqL X.K H p ys\/SqT X.K H p ys)/\Q (.int ys.length) H):=by
 intro pins s σ H xs us Q I r h;obtain ⟨p,ys,rfl,hq,q⟩:=h;obtain ⟨u,rfl,rx⟩:=dk r;cases rx;have hn:=hJ;rcases hq with hq | hq
 ·obtain ⟨its,r',pl,hz⟩:=I.list hq;have hlen:=r'.length;exact Calls.call_len_list pl.isList (by simp only [aT] <;> omega) ⟨.int ys.length,H,I.tok _,⟨s.toks+1,by rw [aT,hlen]⟩,q⟩
 ·obtain ⟨its,r',pl,hz⟩:=I.tuple hq;have hlen:=r'.length;exact len_tuple pl (by simp only [aT] <;> omega) ⟨.int ys.length,H,I.tok _,⟨s.toks+1,by rw [aT,hlen]⟩,q⟩
theorem ni:CallR X (.builtin "len") (λ xs H Q=>∃ z,xs=[.str z]/\z.length<=sizeLine/\Q (.int z.length) H):=by
 intro pins s σ H xs us Q I r h;obtain ⟨z,rfl,hz,q⟩:=h;obtain ⟨u,rfl,t,rfl⟩:=dk r;have hn:=hJ;exact len_str (by omega) ⟨.int z.length,H,I.tok _,⟨_,rfl⟩,q⟩
theorem CallR.or{f:Value}{r r':List V->Hp->VK->Prop}(h:CallR X f r)(h':CallR X f r'):CallR X f (λ xs H Q=>r xs H Q\/r' xs H Q):=by
 intro pins s σ H xs us Q I rs q;rcases q with q | q
 ·exact h pins s σ H xs us Q I rs q
 ·exact h' pins s σ H xs us Q I rs q
theorem call_list_of:CallR X (.type "list") (λ xs H Q=>∃ p ys,xs=[.ref p]/\(SqL X.K H p ys\/SqT X.K H p ys)/\∀ l,H l=none->Q (.ref l) (upd H l (.lst ys))):=by
 intro pins s σ H xs us Q I r h;obtain ⟨p,ys,rfl,hq,q⟩:=h;obtain ⟨u,rfl,rx⟩:=dk r;cases rx;have fin:∀ (its:List Value),Vals ys its->ys.length<=sizeLine->∀ (h':Heap) (c':Nat),(∀ b o',s.heap.get? b=some o'->h'.get? b=some o')->
   h'.get? s.heap.objs.size=some { cls:=.type "list", dict:=none,data:=.seq its.toArray c',slots:=#[] }->EP X pins σ Q (.ref s.heap.objs.size) { s with heap:=h' }:=λ its r' hz h' c' kp e=>
  ⟨.ref s.heap.objs.size,_,I.laid (t':=s.toks) kp (az _) (show ObjOk X.prog X.w _ h' _ (.lst ys) from ⟨hz,its,c',r',e⟩),rfl,q _ (I.hok.fresh (az _))⟩
 rcases hq with hq | hq
 ·obtain ⟨its,r',pl,hz⟩:=I.list hq;have hlen:=r'.length;obtain ⟨o,ho,hc,n,hd⟩:=pl.isList;exact call_list_seq p (.inl rfl) ho hc hd (λ h' c' kp e=>fin its r' hz h' c' kp e) (by simp only [aT] <;> omega)
 ·obtain ⟨its,r',pl,hz⟩:=I.tuple hq;have hlen:=r'.length;obtain ⟨o,ho,hc,n,hd⟩:=pl;exact call_list_seq p (.inr rfl) ho hc hd (λ h' c' kp e=>fin its r' hz h' c' kp e) (by simp only [aT] <;> omega)
theorem call_tuple_of:CallR X (.type "tuple") (λ xs H Q=>∃ p ys,xs=[.ref p]/\((SqL X.K H p ys/\∀ l,H l=none->Q (.ref l) (upd H l (.tup ys)))\/(SqT X.K H p ys/\Q (.ref p) H))):=by
 intro pins s σ H xs us Q I r h;obtain ⟨p,ys,rfl,h⟩:=h;obtain ⟨u,rfl,rx⟩:=dk r;cases rx;rcases h with ⟨hq,q⟩ | ⟨hq,q⟩
 ·obtain ⟨its,r',pl,hz⟩:=I.list hq;have hlen:=r'.length;refine call_tuple_list pl.isList (λ h' kp=>?_) (by simp only [aT] <;> omega);have I1:Inv X pins σ H { s with heap:=h' }:=I.kept (t':=s.toks) kp;have I2:Inv X pins σ (upd H h'.objs.size (.tup ys)) { s with heap:=h'.push { cls:=.type "tuple", data:=.seq its.toArray } }:=
   I1.laid (t':=s.toks) (λ b o e=>bf _ e) (az _) (show ObjOk X.prog X.w _ _ _ (.tup ys) from ⟨hz,its,r',IsTup.new _ _⟩)
  exact ⟨.ref h'.objs.size,_,I2,rfl,q _ (I1.hok.fresh (az _))⟩
 ·obtain ⟨its,r',pl,hz⟩:=I.tuple hq;exact call_tuple_same pl ⟨.ref p,H,I,rfl,q⟩
def tyV(K:W.Frag)(T:String)(x:V)(H:Hp):Prop:=match x with
 | .str _=>T = "str"
 | .int _=>T = "int"
 | .ref p=>(T = "list" /\ ∃ xs,SqL K H p xs)\/(T = "tuple" /\ ∃ o,K.lookup p=some o/\o.cls = .type "tuple" /\ o.dict=none)\/
   (T = "dict" /\ ((∃ kvs,H p=some (.dK kvs))\/∃ kvs,H p=some (.dT kvs)))\/(T = "set" /\ ∃ S n,H p=some (.set S n))
 | _=>False
theorem yg{T:String}{x:V}(I:Inv X pins σ H s)(r:RelV x v)(ty:tyV X.K T x H):
  s.TypeIs v T/\∀ a,v = .ref a->∃ ob,s.heap.get? a=some ob/\ob.dict=none:=by
 cases x with
 | str z=>
  obtain ⟨t,rfl⟩:=r;cases (show T = "str" from ty);exact ⟨typeIs_str s z t,λ _ e=>nomatch e⟩
 | int i=>
  obtain ⟨t,rfl⟩:=r;cases (show T = "int" from ty);exact ⟨typeIs_int s i t,λ _ e=>nomatch e⟩
 | ref p=>
  cases r;rcases ty with ⟨rfl,xs,hq⟩ | ⟨rfl,o,hk,hc,hd⟩ | ⟨rfl,hk⟩ | ⟨rfl,S,n,hk⟩
  ·obtain ⟨its,_,pl,_⟩:=I.list hq;refine ⟨pl.isList.typeIs,λ a e=>?_⟩;cases e;obtain ⟨o,n,e,c,hd,_⟩:=pl;exact ⟨o,e,hd⟩
  ·refine ⟨⟨o,I.kIn p o hk,hc⟩,λ a e=>?_⟩;cases e;exact ⟨o,I.kIn _ o hk,hd⟩
  ·have z:∃ o,s.heap.get? p=some o/\o.ExactDict:=by
    rcases hk with ⟨kvs,hk⟩ | ⟨kvs,hk⟩
    ·obtain ⟨_,_,_,_,o,_,_,e,ex,_⟩:=I.hok p _ hk;exact ⟨o,e,ex⟩
    ·obtain ⟨_,_,_,_,o,_,_,e,ex,_⟩:=I.hok p _ hk;exact ⟨o,e,ex⟩
   obtain ⟨o,e,ex⟩:=z;refine ⟨⟨o,e,ex.1⟩,λ a e2=>?_⟩;cases e2;exact ⟨o,e,ex.2.1⟩
  ·obtain ⟨o,_,_,_,e,ex,_⟩:=I.hok p _ hk;refine ⟨⟨o,e,ex.1⟩,λ a e2=>?_⟩;cases e2;exact ⟨o,e,ex.2.1⟩
 | _=>exact False.elim ty
def zii(K:W.Frag)(T:String)(r:V->List V->Hp->VK->Prop)(to:TE):TE:=λ σ H Q=>to σ H λ x H1=>tyV K T x H1/\r x [] H1 Q
def tBM(K:W.Frag)(T:String)(r:V->List V->Hp->VK->Prop)(to:TE)(t:TA):TE:=λ σ H Q=>to σ H λ x H1=>tyV K T x H1/\t σ H1 λ xs H2=>r x xs H2 Q
variable {o:Expr} {t:TA} {T id:String}
theorem zfW(pa:PlainAttrs T)(slot:Slot T name id)(hty:typeOf (.builtin id)=pure (.type "method_descriptor"))(hm:MtR X id r)(ho:PE X o to)(hbase:attributeBase o name X.env (eval o X.env)=eval o X.env:=by rfl)(hline:(apos.endLine == cpos.line)=true:=by rfl):PE X (.Call (.Attribute o name apos) [] [] cpos) (zii X.K T r to):=by
 intro pins s σ H Q I h;refine wpAny_Call_method0_late hbase hline (thn (ho pins s σ H _ I h) λ v s1 ⟨x,H1,I1,r1,ty,q1⟩=>?_);obtain ⟨h1,h2⟩:=yg I1 r1 ty;exact ⟨T,id,pa,slot,hty,h1,h2,Calls.callWith_builtin rfl (PySem.evalArgs_none (hm pins s1 σ H1 x [] v [] Q I1 r1 .nil q1))⟩
theorem oH(pa:PlainAttrs T)(slot:Slot T name id)(hty:typeOf (.builtin id)=pure (.type "method_descriptor"))(hm:MtR X id r)(ho:PE X o to)(ha:PA X (e::es) t)(hbase:attributeBase o name X.env (eval o X.env)=eval o X.env:=by rfl)(hfew:((backTo cpos (starEach (e::es) X.env)).all (λ x=>!x.1) && (backToKw cpos (keywordEach [] X.env)).all (λ x=>x.1.isSome)
   && decide ((e::es).length+([]:List Keyword).length+(if ([]:List Keyword).isEmpty then 0 else 1) < 30))=true:=by rfl)(hline:(apos.endLine == cpos.line)=true:=by rfl)(hs:starEach (e::es) X.env=(false,eval e X.env)::starEach es X.env:=by rfl)(hplain:(backTo cpos (starEach es X.env)).any (·.1)=false:=by rfl):
  PE X (.Call (.Attribute o name apos) (e::es) [] cpos) (tBM X.K T r to t):=by
 intro pins s σ H Q I h;refine wpAny_Call_method_late hbase hfew hline rfl (thn (ho pins s σ H _ I h) λ v s1 ⟨x,H1,I1,r1,ty,q1⟩=>?_);obtain ⟨h1,h2⟩:=yg I1 r1 ty;refine ⟨T,id,pa,slot,hty,h1,h2,?_⟩;have hA:=ha cpos pins s1 σ H1 _ I1 q1;rw [hs] at hA ⊢;refine Calls.callWith_builtin (by show (false || (backTo cpos (starEach es X.env)).any (·.1))=false;rw [hplain] <;> rfl) (Calls.evalArgs_plain ?_);exact thn hA λ us s2 ⟨vs,H2,I2,r2,q2⟩=>hm pins s2 σ H2 x vs v us Q I2 r1 r2 q2
end
def MtM(X:Cx)(id:String)(r:V->List V->Hp->VK->Prop):Prop:=
 ∀ (pins:List (Addr × Obj)) (s:Shared) (σ:St) (H:Hp) (x:V) (xs:List V) (v:Value) (us:List Value) (Q:VK),Inv X pins σ H s->RelV x v->Vals xs us->r x xs H Q->
  wpAny (model X.prog X.w) X.A (call (.builtin id) (v::us)) (EP X pins σ Q) X.xe s
theorem Vals.one:∀ {x:V} {us:List Value},Vals [x] us->∃ u,us=[u]/\RelV x u
 | _,_,.cons r .nil=>⟨_,rfl,r⟩
theorem Vals.two{x y:V}{us:List Value}(h:Vals [x,y] us):∃ u v,us=[u,v]/\RelV x u/\RelV y v:=ji h
theorem Vals.zero:∀ {us:List Value},Vals [] us->us=[]
 | _,.nil=>rfl
theorem Vals.dropLast(h:Vals xs us):Vals xs.dropLast us.dropLast:=by
 induction h with
 | nil=>exact .nil
 | cons r t ih=>
  cases t with
  | nil=>exact .nil
  | cons q t'=>exact .cons r ih
theorem Vals.reverse(h:Vals xs us):Vals xs.reverse us.reverse:=by
 induction h with
 | nil=>exact .nil
 | cons r t ih=>rw [List.reverse_cons,List.reverse_cons];exact Vals.append ih (.cons r .nil)
theorem Vals.rep{xs:List V}{us:List Value}(h:Vals xs us):∀ k:Nat,Vals (List.replicate k xs).flatten (List.replicate k us).flatten
 | 0=>.nil
 | k+1=>by
  rw [List.replicate_succ,List.replicate_succ,List.flatten_cons,List.flatten_cons];exact Vals.append h (Vals.rep h k)
theorem uA(its:List Value):∀ (k:Nat) (acc:List Value),
  List.foldl (λ x1 x2=>x1++x2) acc.toArray (List.replicate k its.toArray)=(acc++(List.replicate k its).flatten).toArray
 | 0,acc=>by simp
 | k+1,acc=>by
  have e:acc.toArray++its.toArray=(acc++its).toArray:=by simp
  have e2:(acc++its)++(List.replicate k its).flatten=acc++(List.replicate (k+1) its).flatten:=by
   rw [List.replicate_succ,List.flatten_cons,List.append_assoc]
  rw [← e2,← uA its k (acc++its),← e,List.replicate_succ,List.foldl_cons]
section
variable {l:Addr} {zs:List V}
theorem Inv.lset{f:Array Value->Array Value}(I:Inv X pins σ H s)(hH:H l=some (.lst xs))(e:s.heap.get? l=some { cls:=.type "list", data:=.seq its.toArray n })(hf:f its.toArray=its'.toArray)(hv:Vals ys its')(hz:ys.length<=sizeLine):
  Inv X pins σ (upd H l (.lst ys)) { s with heap:=s.heap.update l (Obj.mapSeq f),toks:=t' }:=by
 have q:=PySem.IsL.update e f;rw [hf] at q;refine I.write (x:=l) (e:=l) (by rw [hH];exact trivial) (.inl rfl) (λ b' u hb hu=>(Heap.get?_update_other s.heap (Obj.mapSeq f) (Ne.symm hb)).trans hu) ⟨_,q⟩ ?_;exact ⟨hz,its',_,hv,q⟩
theorem Inv.lnew(I:Inv X pins σ H s)(hv:Vals ys its)(hz:ys.length<=sizeLine):
  Inv X pins σ (upd H s.heap.objs.size (.lst ys)) { s with heap:=s.heap.push { cls:=.type "list", data:=.seq its.toArray },toks:=t' }:=
 I.laid (λ _ _ q=>bf _ q) (az _) ⟨hz,its,0,hv,Heap.get?_push_size _ rfl⟩
theorem Inv.fresh(I:Inv X pins σ H s):H s.heap.objs.size=none:=I.hok.fresh (az _)
theorem Inv.lstM(I:Inv X pins σ H s)(hH:H l=some (.lst xs)):xs.length<=sizeLine/\∃ (its:List Value) (n:Nat),Vals xs its/\xs.length=its.length/\s.heap.get? l=some { cls:=.type "list", data:=.seq its.toArray n }:=by
 obtain ⟨z,its,n,r,e⟩:=I.hok l _ hH;exact ⟨z,its,n,r,r.length,e⟩
theorem vH(h:n<=sizeLine):Builtin.List.listTooLong n=false:=by
 unfold Builtin.List.listTooLong;exact aU (by omega)
end
inductive wn (x:V) (vs:List V) (H:Hp) (Q:VK):Prop
 | i (l xs y:_) (_:x = .ref l) (_:vs=[y]) (_:H l=some (.lst xs)) (_:xs.length < sizeLine) (_:Q .non (upd H l (.lst (xs++[y]))))
theorem fe:MtM X "list.append" wn:=by
 intro pins s σ H x vs v us Q I rx rv h;obtain ⟨l,xs,y,rfl,rfl,hH,hz,q⟩:=h;cases rx;obtain ⟨u,rfl,ru⟩:=rv.one;obtain ⟨z,its,n,r,hl,e⟩:=I.lstM hH;refine call_meets F.slot_list_append ⟨_,e,rfl⟩ F.entry_list_append (F.args_list_append_2 _ _) (PySem.list_append l its.toArray n u (by rw [aT];omega)) ⟨e,?_⟩;refine ⟨.non,_,I.lset (its':=its++[u]) hH e (by simp) (r.append (.cons ru .nil)) ?_,rfl,q⟩;rw [bn,d5];omega
inductive zgx (x:V) (vs:List V) (H:Hp) (Q:VK):Prop
 | i (l b xs zs:_) (_:x = .ref l) (_:vs=[.ref b]) (_:H l=some (.lst xs)) (_:H b=some (.lst zs)) (_:xs.length+zs.length<=sizeLine) (_:Q .non (upd H l (.lst (xs++zs))))
theorem oq:MtM X "list.extend" zgx:=by
 intro pins s σ H x vs v us Q I rx rv h;obtain ⟨l,b,xs,zs,rfl,rfl,hH,hB,hz,q⟩:=h;cases rx;obtain ⟨u,rfl,ru⟩:=rv.one;cases ru;obtain ⟨z,its,n,r,hl,e⟩:=I.lstM hH;obtain ⟨z2,its2,n2,r2,hl2,e2⟩:=I.lstM hB;have hsz:its.toArray.size+its2.toArray.size<=sizeLine:=by rw [aT,aT];omega
 have hlong:¬ (!its.toArray.isEmpty && Builtin.List.listTooLong (its.toArray.size+its2.toArray.size))=true:=by
  rw [vH hsz,Bool.and_false];exact bC
 refine call_meets F.slot_list_extend ⟨_,e,rfl⟩ F.entry_list_extend (F.args_list_extend_2 _ _)
  (AutoSeq1.list_extend_list_list_0 l its.toArray n b its2.toArray n2 hlong (by rw [aT];omega) (by omega)) ⟨e,e2,?_⟩
 refine ⟨.non,_,I.lset (its':=its++its2) hH e (by simp) (r.append r2) ?_,rfl,q⟩;rw [bn];omega
inductive lI (x:V) (y:V) (H:Hp) (Q:VK):Prop
 | i (l b xs zs:_) (_:x = .ref l) (_:y = .ref b) (_:H l=some (.lst xs)) (_:H b=some (.lst zs)) (_:xs.length+zs.length<=sizeLine) (_:∀ p,H p=none->Q (.ref p) (upd H p (.lst (xs++zs))))
theorem fP:OpR X (binaryOp .Add) lI:=by
 intro pins s σ H x y v u Q I rx ry h;obtain ⟨l,b,xs,zs,rfl,rfl,hH,hB,hz,q⟩:=h;cases rx;cases ry;obtain ⟨z,its,n,r,hl,e⟩:=I.lstM hH;obtain ⟨z2,its2,n2,r2,hl2,e2⟩:=I.lstM hB;refine PySem.P.add_list e e2 ?_ (by rw [aT,aT];omega);have ea:its.toArray++its2.toArray=(its++its2).toArray:=by simp
 rw [ea];exact ⟨.ref _,_,I.lnew (t':=s.toks) (r.append r2) (by rw [bn];omega),rfl,q _ I.fresh⟩
inductive ww (x:V) (y:V) (H:Hp) (Q:VK):Prop
 | i (l k xs:_) (_:x = .ref l) (_:y = .int k) (_:H l=some (.lst xs)) (_ : -(2 ^ 63)<=k) (_:k < 2 ^ 63) (_:xs.length * k.toNat<=sizeLine) (_:∀ p,H p=none->Q (.ref p) (upd H p (.lst (List.replicate k.toNat xs).flatten)))
theorem u6(xs:List α)(k:Nat):(List.replicate k xs).flatten.length=k * xs.length:=by
 induction k with
 | zero=>simp
 | succ k ih=>rw [List.replicate_succ,List.flatten_cons,bn,ih,Nat.succ_mul,Nat.add_comm]
theorem jO:OpR X (binaryOp .Mult) ww:=by
 intro pins s σ H x y v u Q I rx ry h;obtain ⟨l,k,xs,rfl,rfl,hH,h1,h2,hz,q⟩:=h;cases rx;obtain ⟨t,rfl⟩:=ry;obtain ⟨z,its,n,r,hl,e⟩:=I.lstM hH;have hlen:its.toArray.size * k.toNat<=sizeLine:=by rw [aT,← hl];exact hz
 have hcap:¬ its.toArray.size * k.toNat > (2 ^ 63 - 1) / 8:=by
  have:(sizeLine:Nat)<=(2 ^ 63 - 1) / 8:=by decide
  omega
 have hfit:¬ (!Builtin.List.listFitsIndex k)=true:=by
  rw [fitsIndex_both h1 h2];exact bC
 have hlong:¬ Builtin.List.listTooLong (its.toArray.size * k.toNat)=true:=by
  rw [vH hlen];exact bC
 have hnew:List.foldl (λ x1 x2=>x1++x2) #[] (List.replicate (if its.toArray.isEmpty=true then 0 else k.toNat) its.toArray)=(List.replicate k.toNat its).flatten.toArray:=by
  have f0:∀ m:Nat,List.foldl (λ x1 x2=>x1++x2) #[] (List.replicate m its.toArray)=(List.replicate m its).flatten.toArray:=λ m=>by
   have:=uA its m [];rw [List.nil_append] at this;exact this
  rw [f0];cases its with
  | nil=>simp
  | cons a r'=>rw [if_neg (by simp)]
 refine wpAny_binaryOp_repeat_ref (T := "list") (U := "int") (by decide) ⟨_,e,rfl⟩ (λ s'=>typeIs_int s' k t) noFill_list_mul F.fills_int_mul F.slot_int_rmul repeat_list F.slot_int_index.lookup
  (call_meets F.slot_int_rmul (typeIs_int s k t) F.entry_int_rmul (F.args_int_rmul_2 _ _) (int___rmul___int_list k t l its.toArray n)
   ⟨e,rfl,⟨_,e,rfl⟩,call_meets F.slot_list_mul ⟨_,e,rfl⟩ F.entry_list_mul (F.args_list_mul_2 _ _) (AutoListH.list___mul___list_int_3 l its.toArray n k t hfit hcap hlong) ⟨e,?_⟩⟩)
 rw [hnew];exact ⟨.ref _,_,I.lnew (t':=s.toks) (r.rep k.toNat) (by rw [u6,Nat.mul_comm];exact hz),rfl,q _ I.fresh⟩
section
variable [DecidableEq κ]
def bJ(kvs:List (κ × V))(k:κ):Option V:=(kvs.find? λ kv=>decide (kv.1=k)).map (·.2)
def bO(kvs:List (κ × V))(k:κ)(v:V):List (κ × V):=
 if (kvs.any λ kv=>decide (kv.1=k))=true then kvs.map (λ kv=>if kv.1=k then (kv.1,v) else kv) else kvs++[(k,v)]
def ue(kvs:List (κ × V))(k:κ):List (κ × V):=kvs.filter λ kv=>decide (kv.1≠k)
theorem fq{p:κ × V}{r:List (κ × V)}{k:κ}(e:p.1=k):bJ (p::r) k=some p.2:=by simp [bJ,List.find?_cons,e]
theorem eQ{p:κ × V}{r:List (κ × V)}{k:κ}(e:¬ p.1=k):bJ (p::r) k=bJ r k:=by simp [bJ,List.find?_cons,e]
theorem jh(k:κ):∀ kvs:List (κ × V),(kvs.any λ kv=>decide (kv.1=k))=(bJ kvs k).isSome
 | []=>rfl
 | p::r=>by
  rw [List.any_cons];by_cases e:p.1=k
  ·simp only [fq e,aV e,Bool.true_or,Option.isSome_some]
  ·rw [eQ e,aU e,Bool.false_or];exact jh k r
theorem yi(k j:κ)(y:V):∀ kvs:List (κ × V),bJ (kvs.map λ kv=>if kv.1=k then (kv.1,y) else kv) j=(bJ kvs j).map λ x=>if j=k then y else x
 | []=>rfl
 | p::r=>by
  have ih:=yi k j y r;rw [bE];by_cases h:p.1=k
  ·rw [if_pos h];by_cases e:p.1=j
   ·rw [fq (p:=(p.1,y)) e,fq e,Option.map_some,if_pos (e.symm.trans h)]
   ·rw [eQ (p:=(p.1,y)) e,eQ e,ih]
  ·rw [if_neg h];by_cases e:p.1=j
   ·rw [fq (p:=p) e,fq e,Option.map_some,if_neg (λ z=>h (e.trans z))]
   ·rw [eQ (p:=p) e,eQ e,ih]
theorem yj(k j:κ)(y:V):∀ kvs:List (κ × V),bJ kvs k=none->bJ (kvs++[(k,y)]) j=if j=k then some y else bJ kvs j
 | [],_=>by
  by_cases e:k=j
  ·rw [if_pos e.symm];exact fq (p:=(k,y)) e
  ·rw [if_neg (λ z=>e z.symm)];exact eQ (p:=(k,y)) e
 | p::r,hn=>by
  rw [List.cons_append];have hk:¬ p.1=k:=λ z=>by rw [fq z] at hn;cases hn
  rw [eQ hk] at hn;have ih:=yj k j y r hn;by_cases e:p.1=j
  ·rw [fq e,fq e,if_neg (λ z=>hk (e.trans z))]
  ·rw [eQ e,eQ e,ih]
theorem zji(kvs:List (κ × V))(k j:κ)(y:V):bJ (bO kvs k y) j=if j=k then some y else bJ kvs j:=by
 unfold bO;by_cases a:(kvs.any λ kv=>decide (kv.1=k))=true
 ·rw [if_pos a,yi];rw [jh] at a;by_cases e:j=k
  ·obtain ⟨x,hx⟩:=Option.isSome_iff_exists.mp a;rw [if_pos e,e,hx,Option.map_some,if_pos rfl]
  ·rw [if_neg e];cases bJ kvs j with
   | none=>rfl
   | some x=>rw [Option.map_some,if_neg e]
 ·rw [if_neg a];refine yj k j y kvs ?_;rw [jh] at a;cases q:bJ kvs k with
  | none=>rfl
  | some x=>rw [q] at a;exact (a rfl).elim
theorem jG(kvs:List (κ × V))(k:κ)(v:V):(bO kvs k v).length<=kvs.length+1:=by
 unfold bO
 split
 ·rw [ae];omega
 ·rw [bn,bY,List.length_nil];omega
theorem zgs{kvs:List (κ × V)}{k:κ}(v:V)(h:bJ kvs k=none):bO kvs k v=kvs++[(k,v)]:=by
 unfold bO;rw [jh,h];exact if_neg (by decide)
theorem RelO.isSome_eq{o:Option V}{u:Option Value}(r:RelO o u):o.isSome=u.isSome:=by
 cases o with
 | none=>cases u with
  | none=>rfl
  | some _=>exact (show False from r).elim
 | some _=>cases u with
  | none=>exact (show False from r).elim
  | some _=>rfl
theorem RelO.getD{o:Option V}{u:Option Value}{d:V}{d':Value}(r:RelO o u)(rd:RelV d d'):RelV (o.getD d) (u.getD d'):=by
 cases o with
 | none=>cases u with
  | none=>exact rd
  | some _=>exact (show False from r).elim
 | some _=>cases u with
  | none=>exact (show False from r).elim
  | some _=>exact r
theorem KV.val{kvs:List (κ × V)}{vs:List (κ × Value)}(r:KV kvs vs)(k:κ):RelO (bJ kvs k) (valueAt vs k):=by
 unfold KV at r;induction r with
 | nil=>exact True.intro
 | @cons p q ps qs h t ih=>
  obtain ⟨h1,h2⟩:=h;by_cases e:p.1=k
  ·have e':q.1=k:=h1.symm.trans e;have b:valueAt (q::qs) k=some q.2:=by simp [valueAt,List.find?_cons,e']
   rw [fq e,b];exact h2
  ·have e':¬ q.1=k:=λ z=>e (h1.trans z);have b:valueAt (q::qs) k=valueAt qs k:=by simp [valueAt,List.find?_cons,e']
   rw [eQ e,b];exact ih
theorem KV.any{kvs:List (κ × V)}{vs:List (κ × Value)}(r:KV kvs vs)(k:κ):(kvs.any λ kv=>decide (kv.1=k))=vs.any λ kv=>decide (kv.1=k):=by
 unfold KV at r;induction r with
 | nil=>rfl
 | cons h t ih=>rw [List.any_cons,List.any_cons,ih,h.1]
theorem KV.repl{kvs:List (κ × V)}{vs:List (κ × Value)}(r:KV kvs vs)(k:κ){y:V}(ry:RelV y u):
  KV (kvs.map λ kv=>if kv.1=k then (kv.1,y) else kv) (vs.map λ kv=>if kv.1=k then (kv.1,u) else kv):=by
 unfold KV at r ⊢;induction r with
 | nil=>exact .nil
 | @cons p q ps qs h t ih=>
  rw [bE,bE];refine .cons ?_ ih;obtain ⟨h1,h2⟩:=h;by_cases e:p.1=k
  ·rw [if_pos e,if_pos (h1.symm.trans e)];exact ⟨h1,ry⟩
  ·rw [if_neg e,if_neg (λ z=>e (h1.trans z))];exact ⟨h1,h2⟩
theorem KV.put{kvs:List (κ × V)}{vs:List (κ × Value)}(r:KV kvs vs)(k:κ){y:V}(ry:RelV y u):KV (bO kvs k y) (stored vs k u):=by
 unfold bO stored;rw [r.any k];by_cases e:(vs.any λ kv=>decide (kv.1=k))=true
 ·rw [if_pos e,if_pos e];exact r.repl k ry
 ·rw [if_neg e,if_neg e];exact Paired.snoc r ⟨rfl,ry⟩
theorem KV.drop{kvs:List (κ × V)}{vs:List (κ × Value)}(r:KV kvs vs)(k:κ):KV (ue kvs k) (without vs k):=by
 unfold KV at r ⊢;unfold ue without;induction r with
 | nil=>exact .nil
 | @cons p q ps qs h t ih=>
  obtain ⟨h1,h2⟩:=h;rw [List.filter_cons,List.filter_cons];by_cases e:p.1=k
  ·have a:¬ decide (p.1≠k)=true:=by simp [e]
   have b:¬ decide (q.1≠k)=true:=by simp [h1.symm.trans e]
   rw [if_neg a,if_neg b];exact ih
  ·have e':¬ q.1=k:=λ z=>e (h1.trans z);have a:decide (p.1≠k)=true:=by simp [e]
   have b:decide (q.1≠k)=true:=by simp [e']
   rw [if_pos a,if_pos b];exact .cons ⟨h1,h2⟩ ih
theorem KV.keys{kvs:List (κ × V)}{vs:List (κ × Value)}(r:KV kvs vs):kvs.map (·.1)=vs.map (·.1):=by
 unfold KV at r;induction r with
 | nil=>rfl
 | cons h t ih=>rw [bE,bE,ih,h.1]
theorem KV.length{kvs:List (κ × V)}{vs:List (κ × Value)}(r:KV kvs vs):kvs.length=vs.length:=Paired.length r
end
theorem hG{k:Key}(r:RelV (kV k) u):(cO P w).is k u=true:=by
 cases k with
 | inl i=>cases i with
  | none=>cases (show u=Value.none from r);rfl
  | some i=>obtain ⟨t,e⟩:=(show ∃ t,u=Value.int i t from r);subst e;exact zc5 P w i t
 | inr x=>obtain ⟨t,e⟩:=(show ∃ t,u=Value.str x t from r);subst e;exact zc6 P w x t
theorem uQ{P:Program}{w:World}:∀ {ks:List Key} {us:List Value},Vals (ks.map kV) us->ItemsAre (cO P w) ks us
 | [],_,r=>by rw [List.map_nil] at r;cases r;exact .nil
 | k::ks,_,r=>by
  rw [bE] at r;cases r with
  | cons h t=>exact .cons (hG h) (uQ t)
abbrev KT(H:Hp):List (List Key × V)->List (List Key × Addr × Value)->Prop:=Paired λ p q=>p.1=q.1/\H q.2.1=some (.tup (p.1.map kV))/\RelV p.2 q.2.2
theorem KT.val{xs:List (List Key × Addr × Value)}(r:KT H kvs xs)(k:List Key):RelO (bJ kvs k) ((atKey xs k).map (·.2)):=by
 induction r with
 | nil=>exact True.intro
 | @cons p q ps qs h t ih=>
  obtain ⟨h1,_,h2⟩:=h;by_cases e:p.1=k
  ·have e':q.1=k:=h1.symm.trans e;have b:atKey (q::qs) k=some q.2:=by simp [atKey,List.find?_cons,e']
   rw [fq e,b];exact h2
  ·have e':¬ q.1=k:=λ z=>e (h1.trans z);have b:atKey (q::qs) k=atKey qs k:=by simp [atKey,List.find?_cons,e']
   rw [eQ e,b];exact ih
theorem KT.repl{xs:List (List Key × Addr × Value)}(r:KT H kvs xs)(k:List Key){y:V}(ry:RelV y u):
  KT H (kvs.map λ kv=>if kv.1=k then (kv.1,y) else kv) (xs.map (putAt k u)):=by
 induction r with
 | nil=>exact .nil
 | @cons p q ps qs h t ih=>
  rw [bE,bE];refine .cons ?_ ih;obtain ⟨h1,h2,h3⟩:=h;unfold putAt;by_cases e:p.1=k
  ·rw [if_pos e,if_pos (h1.symm.trans e)];exact ⟨h1,h2,ry⟩
  ·rw [if_neg e,if_neg (λ z=>e (h1.trans z))];exact ⟨h1,h2,h3⟩
theorem KT.put{xs:List (List Key × Addr × Value)}(r:KT H kvs xs)(k:List Key){y:V}(hb:H b=some (.tup (k.map kV)))(ry:RelV y u):
  KT H (bO kvs k y) (storedH xs k b u):=by
 have e:(kvs.any λ kv=>decide (kv.1=k))=(atKey xs k).isSome:=by
  rw [jh,(r.val k).isSome_eq,Option.isSome_map]
 unfold bO storedH;rw [e];by_cases q:(atKey xs k).isSome=true
 ·rw [if_pos q,if_pos q];exact r.repl k ry
 ·rw [if_neg q,if_neg q];exact Paired.snoc r ⟨rfl,hb,ry⟩
theorem KT.keeps{xs:List (List Key × Addr × Value)}(r:KT H kvs xs)(ht:∀ b ys,H b=some (.tup ys)->H' b=some (.tup ys)):KT H' kvs xs:=
 Paired.mapP r λ _ _ z=>⟨z.1,ht _ _ z.2.1,z.2.2⟩
theorem wD{u:HO}(ok:HOk P w H h)(e:Rd H a u):ObjOk P w H h a u:=e.ok ok
theorem kQ{kvs:List (Key × V)}(ok:HOk P w H h)(e:Rd H a (.dK kvs)):kvs.length<=sizeLine/\(a == sysModules)=false/\∃ vs,KV kvs vs/\h.DictOf (cO P w) a vs:=
 show ObjOk P w H h a (.dK kvs) from wD ok e
theorem kP{kvs:List (Key × V)}(ok:HOk P w H h)(e:H a=some (.dK kvs)):kvs.length<=sizeLine/\(a == sysModules)=false/\∃ vs,KV kvs vs/\h.DictOf (cO P w) a vs:=kQ ok (.inl e)
theorem oa{ks:List Key}(ok:HOk P w H h)(e:H a=some (.tup (ks.map kV))):(tupleKind (cO P w)).is h ks a:=by
 obtain ⟨_,its,r,o,h1,h2,n,h3⟩:=(show ObjOk P w H h a (.tup (ks.map kV)) from ok a _ e)
 exact ⟨o,its.toArray,n,h1,h2,h3,by simpa using uQ r⟩
theorem nB(ok:HOk P w H h)(e:Rd H a (.dT kvs)):kvs.length<=sizeLine/\(a == sysModules)=false/\
  ∃ xs,KT H kvs xs/\h.DictOfH (tupleKind (cO P w)) a xs:=by
 obtain ⟨z,y,xs,r,o,es,ep,h1,h2,h3,h4,h5⟩:=(show ObjOk P w H h a (.dT kvs) from wD ok e)
 refine ⟨z,y,xs,r,o,es,ep,h1,h2,h3,h4,λ x hx=>?_,h5⟩;have all:∀ {l:List (List Key × V)} {m:List (List Key × Addr × Value)},KT H l m->∀ x∈m,(tupleKind (cO P w)).is h x.1 x.2.1:=by
  intro l m q;induction q with
  | nil=>intro x hx;exact nomatch hx
  | @cons p q ps qs hq t ih=>
   intro x hx;rcases al_mc.mp hx with e | hx
   ·subst e;exact oa ok (by rw [← hq.1];exact hq.2.1)
   ·exact ih x hx
 exact all r x hx
theorem zaM(ok:HOk P w H h)(e:H a=some (.dT kvs)):kvs.length<=sizeLine/\(a == sysModules)=false/\
  ∃ xs,KT H kvs xs/\h.DictOfH (tupleKind (cO P w)) a xs:=nB ok (.inl e)
def DGet(H:Hp)(a:Addr)(y:V)(r:Option V):Prop:=
 (∃ kvs k,Rd H a (.dK kvs)/\y=kV k/\r=bJ kvs k)\/∃ kvs k b,Rd H a (.dT kvs)/\y = .ref b/\H b=some (.tup (k.map kV))/\r=bJ kvs k
def DPut(H:Hp)(a:Addr)(y v:V)(H':Hp):Prop:=
 (∃ kvs k,H a=some (.dK kvs)/\y=kV k/\kvs.length < sizeLine/\H'=upd H a (.dK (bO kvs k v)))\/
 ∃ kvs k b,H a=some (.dT kvs)/\y = .ref b/\H b=some (.tup (k.map kV))/\kvs.length < sizeLine/\H'=upd H a (.dT (bO kvs k v))
theorem DGet.k{H:Hp}{a:Addr}{kvs:List (Key × V)}{k:Key}(e:H a=some (.dK kvs)):DGet H a (kV k) (bJ kvs k):=.inl ⟨kvs,k,.inl e,rfl,rfl⟩
theorem DGet.t{k:List Key}(e:H a=some (.dT kvs))(eb:H b=some (.tup (k.map kV))):DGet H a (.ref b) (bJ kvs k):=.inr ⟨kvs,k,b,.inl e,rfl,eb,rfl⟩
theorem DPut.k{H:Hp}{a:Addr}{kvs:List (Key × V)}{k:Key}{v:V}(e:H a=some (.dK kvs))(hl:kvs.length < sizeLine):DPut H a (kV k) v (upd H a (.dK (bO kvs k v))):=.inl ⟨kvs,k,e,rfl,hl,rfl⟩
theorem DPut.t{k:List Key}{v:V}(e:H a=some (.dT kvs))(eb:H b=some (.tup (k.map kV)))(hl:kvs.length < sizeLine):
  DPut H a (.ref b) v (upd H a (.dT (bO kvs k v))):=.inr ⟨kvs,k,b,e,rfl,eb,hl,rfl⟩
section
variable {y v:V} {r:Value} {o:Option V}
theorem Inv.big(I:Inv X pins σ H s):sysModules < s.heap.objs.size:=by
 have h:mainGlobals < s.heap.objs.size:=(I.mod.glob.keeps I.bk).lt;exact Nat.lt_trans (by decide) h
theorem zaG(hu:A.units+1 < cLine)(I:Inv X pins σ H s)(g:DGet H a y (some v))(ry:RelV y u)(h:∀ w' s',Inv X pins σ H s'->RelV v w'->Q w' s'):
  wpAny (model X.prog X.w) A (getItem (.ref a) u) Q E s:=by
 rcases g with ⟨kvs,k,e,ey,l⟩ | ⟨kvs,k,b,e,ey,eb,l⟩
 ·subst ey;obtain ⟨z,hd,vs,rel,dd⟩:=kQ I.hok e;obtain ⟨w',hw,rw'⟩:=RelO.some_of (v:=v) (o:=valueAt vs k) (by rw [l];exact rel.val k);exact wpAny_getItem_of (hG ry) dd.mapOf hw (h w' _ (I.tok _) rw')
 ·subst ey;cases (show u=Value.ref b from ry);obtain ⟨z,hd,xs,rel,dd⟩:=nB I.hok e;obtain ⟨w',hw,rw'⟩:=RelO.some_of (v:=v) (o:=(atKey xs k).map (·.2)) (by rw [l];exact rel.val k);obtain ⟨p,hp,hp2⟩:=Option.map_eq_some_iff.mp hw;refine wpAny_getItem_heap (tupleKind_room_in1 hu) (oa I.hok eb) dd hp ?_;rw [hp2];exact h w' _ (I.tok _) rw'
theorem kO{ob:HO}(I:Inv X pins σ H s)(mu:Mut (H a))(hs:Heap.SameBut a s.heap h')(he:∃ q,h'.get? a=some q)(new:ObjOk X.prog X.w (upd H a ob) h' a ob):
  Inv X pins σ (upd H a ob) { s with heap:=h',toks:=t' }:=
 I.write (x:=a) (e:=a) mu (.inl rfl) (λ b q hb z=>(hs.2 b hb).trans z) he new
theorem jw{kvs:List (Key × V)}{vs:List (Key × Value)}(z:kvs.length<=sizeLine)(hd:(a == sysModules)=false)(rel:KV kvs vs)(dd:h'.DictOf (cO P w) a vs):
  ObjOk P w H' h' a (.dK kvs):=⟨z,hd,vs,rel,dd⟩
theorem zaI{Q:Unit->Shared->Prop}(hu:A.units+1 < cLine)(I:Inv X pins σ H s)(g:DPut H a y v H')(ry:RelV y u)(rv:RelV v r)(h:∀ s',Inv X pins σ H' s'->Q () s'):
  wpAny (model X.prog X.w) A (setItem (.ref a) u r) Q E s:=by
 rcases g with ⟨kvs,k,e,ey,l,eH⟩ | ⟨kvs,k,b,e,ey,eb,l,eH⟩
 ·subst ey eH;obtain ⟨z,hd,vs,rel,dd⟩:=kP I.hok e;have hz:vs.length<=sizeLine:=by rw [← rel.length];exact z
  have hl:(bO kvs k v).length<=sizeLine:=by have:=jG kvs k v;omega
  refine wpAny_setItem_pairs (hsz:=hz) (hG ry) dd λ h' dd' hs=>h _ ?_;have he:∃ q,h'.get? a=some q:=let ⟨q,_,_,hq,_⟩:=dd';⟨q,hq⟩;exact kO I (by rw [e];exact True.intro) hs he (jw hl hd (rel.put k rv) dd')
 ·subst ey eH;cases (show u=Value.ref b from ry);obtain ⟨z,hd,xs,rel,dd⟩:=zaM I.hok e;have hz:xs.length<=sizeLine:=by rw [← Paired.length rel];exact z
  have hl:(bO kvs k v).length<=sizeLine:=by have:=jG kvs k v;omega
  refine wpAny_setItem_heap (hsz:=hz) (tupleKind_room_in1 hu) (oa I.hok eb) dd λ h' dd' hs=>h _ ?_;obtain ⟨q,es,ep,hq,h2,h3,h4,_,h5⟩:=dd';refine kO I (by rw [e];exact True.intro) hs ⟨q,hq⟩ ⟨hl,hd,_,(rel.put k eb rv).keeps λ c ys ec=>?_,q,es,ep,hq,h2,h3,h4,h5⟩;rw [aj (eC ec e (λ z=>nomatch z))];exact ec
end
section
variable {kvs:List (Key × V)} {k:Key}
theorem zaH(I:Inv X pins σ H s)(e:Rd H a (.dK kvs))(h:∀ t s',Inv X pins σ H s'->Q (.int kvs.length t) s'):wpAny (model X.prog X.w) A (call (.builtin "len") [.ref a]) Q E s:=by
 obtain ⟨z,hd,vs,rel,dd⟩:=kQ I.hok e;refine call_len_dict hd dd (by rw [← rel.length];rw [sizeLine_eq] at z;omega) ?_;rw [← rel.length];exact h _ _ (I.tok _)
end
def kq(i:Expr):Prop:=∀ ov iv,subscripted i false ov iv=operate [ov,iv] (getItem ov iv)
theorem rO{slice:Expr}{T id:String}(hl:typeLookup (.type T) "__getitem__" = pure (some (.builtin id)))(hs:kq slice)(h:wpAny (model prog w) A (eval value env) (λ o s₁=>wpAny (model prog w) A (eval slice env) (λ i s₂=>s₂.TypeIs o T/\wpAny (model prog w) A (getItem o i) Q E s₂) E s₁) E s):
  wpAny (model prog w) A (eval (.Subscript value slice pos) env) Q E s:=by
 refine Subscript_ (wpAny_mono h (λ o s₁ h₁=>wpAny_mono h₁ (λ i s₂ h₂=>?_) λ _ _ x=>x) λ _ _ x=>x);obtain ⟨hT,h₂⟩:=h₂;unfold subscriptTail;refine ao ?_;rw [getitemInPython_of_ne hT.not_modules];refine ao (wpAny_specialOf hT hl ?_);have fin:wpAny (model prog w) A (subscripted slice false o i) (λ r s₃=>wpAny (model prog w) A (letTemporaryGo value o r >>= λ _=>pure r) Q E s₃) E s₂:=by
  rw [hs o i];exact wpAny_operating (wpAny_mono h₂ (λ r s₃ h₃=>ao (wpAny_letTemporaryGo (aL h₃))) λ _ _ x=>x)
 first
  | exact aL (ao fin)
  | exact ao (aL (ao fin))
  | exact ao fin
theorem zaK{y:V}{o:Option V}(I:Inv X pins σ H s)(g:DGet H a y o):s.TypeIs (.ref a) "dict" := by
 rcases g with ⟨kvs,k,e,_,_⟩ | ⟨kvs,k,b,e,_,_,_⟩
 ·obtain ⟨_,_,vs,_,dd⟩:=kQ I.hok e;exact dd.typeIs
 ·obtain ⟨_,_,xs,_,dd⟩:=nB I.hok e;exact dd.typeIs
inductive zin (Q:VK) (x:V) (y:V) (H2:Hp):Prop
 | i (a v:_) (_:x = .ref a) (_:DGet H2 a y (some v)) (_:Q v H2)
def xV(td ty:TE):TE:=λ σ H Q=>td σ H λ x H1=>ty σ H1 λ y H2=>zin Q x y H2
inductive zg6 (D:d3) (σ:St) (v:V) (x:V) (y:V) (H3:Hp):Prop
 | i (a H4:_) (_:x = .ref a) (_:DPut H3 a y v H4) (_:D.nx σ H4)
def wI(td ty tv:TE):TS:=λ D σ H=>tv σ H λ v H1=>td σ H1 λ x H2=>ty σ H2 λ y H3=>zg6 D σ v x y H3
section
variable {o i:Expr} {ty:TE}
theorem oJ(hu:X.A.units+1 < cLine)(ho:PE X o td)(hi:PE X i ty)(hs:kq i):PE X (.Subscript o i pos) (xV td ty):=by
 intro pins s σ H Q I h;refine rO F.slot_dict_getitem.lookup hs (thn (ho pins s σ H _ I h) λ u s1 ⟨x,H1,I1,rx,q1⟩=>thn (hi pins s1 σ H1 _ I1 q1) λ iv s2 ⟨y,H2,I2,ry,a,v,ex,g,q2⟩=>?_);subst ex;obtain rfl:u=Value.ref a:=rx;exact ⟨zaK I2 g,zaG hu I2 g ry λ w' s3 I3 rw'=>⟨v,H2,I3,rw',q2⟩⟩
theorem zgi(hu:X.A.units+1 < cLine)(ho:PE X o td)(hi:PE X i ty)(hv:PE X value tv)(hs:swapsWith value (some (.Subscript o i pos')) pos.line X.env=pure false):
  PS X (.Assign [.Subscript o i pos'] value pos) (wI td ty tv):=by
 intro pins s σ H D I h;refine wpAny_Assign_Subscript (thn (hv pins s σ H _ I h) λ r s1 ⟨v,H1,I1,rv,q1⟩=>thn (ho pins s1 σ H1 _ I1 q1) λ u s2 ⟨x,H2,I2,rx,q2⟩=>thn (hi pins s2 σ H2 _ I2 q2) λ iv s3 ⟨y,H3,I3,ry,a,H4,ex,g,q3⟩=>?_) hs;subst ex;obtain rfl:u=Value.ref a:=rx;exact zaI hu I3 g ry rv λ s4 I4=>⟨σ,H4,I4,q3⟩
end
theorem ud(h:Heap)(hb:sysModules < h.objs.size):ObjOk P w H (h.push { cls:=.type "dict", data:=.dict #[] }) h.objs.size (.dK []):=
 ⟨Nat.zero_le _,beq_eq_false_iff_ne.mpr (Ne.symm (be hb)),[],.nil,Heap.DictOf.new h⟩
def zio:TE:=λ _ H Q=>∀ p,H p=none->Q (.ref p) (upd H p (.dK []))
theorem vU:PE X (.Dict [] [] pos) zio:=λ pins s σ H Q I h=>
 wpAny_Dict_empty ⟨.ref s.heap.objs.size,_,I.laid (a:=s.heap.objs.size) (o:=.dK []) (t':=s.toks) (λ _ _ q=>bf _ q) (az _) (ud s.heap I.big),rfl,h _ (I.hok.fresh (az _))⟩
def rT:List (TE × TE)->St->Hp->(List (V × V)->Hp->Prop)->Prop
 | [],_,H,Q=>Q [] H
 | (tk,tv)::r,σ,H,Q=>tk σ H λ x H1=>tv σ H1 λ y H2=>rT r σ H2 λ ps H3=>Q ((x,y)::ps) H3
abbrev VV:List (V × V)->List (Value × Value)->Prop:=Paired λ p q=>RelV p.1 q.1/\RelV p.2 q.2
def PPs(X:Cx)(pos:Pos)(keys:List (Option Expr))(values:List Expr)(trs:List (TE × TE)):Prop:=
 ∀ (pins:List (Addr × Obj)) (s:Shared) (σ:St) (H:Hp) (Q:List (V × V)->Hp->Prop),Inv X pins σ H s->rT trs σ H Q->
  wpAny (model X.prog X.w) X.A (evalPairs (pairTrees keys values X.env pos)) (λ vs s'=>∃ ps H',Inv X pins σ H' s'/\VV ps vs/\Q ps H') X.xe s
theorem zgf   : PPs X pos [] [] []:=λ pins s σ H Q I h=>pairTrees_nil_walk ⟨[],H,I,.nil,h⟩
theorem zge{k v:Expr}{vs:List Expr}{tk:TE}(hk:PE X k tk)(hv:PE X v tv)(hr:PPs X pos ks vs trs):
  PPs X pos (some k::ks) (v::vs) ((tk,tv)::trs):=λ pins s σ H Q I h=>
 pairTrees_cons_walk (thn (hk pins s σ H _ I h) λ u s1 ⟨x,H1,I1,rx,q1⟩=>thn (hv pins s1 σ H1 _ I1 q1) λ w2 s2 ⟨y,H2,I2,ry,q2⟩=>
  thn (hr pins s2 σ H2 _ I2 q2) λ ws s3 ⟨ps,H3,I3,rel,q3⟩=>⟨(x,y)::ps,H3,I3,.cons ⟨rx,ry⟩ rel,q3⟩)
def hV(kvs more:List (Key × V)):List (Key × V):=more.foldl (λ acc kv=>bO acc kv.1 kv.2) kvs
theorem KV.merge:∀ {more:List (Key × V)} {rs:List (Key × Value)} {kvs:List (Key × V)} {vs:List (Key × Value)},KV more rs->KV kvs vs->KV (hV kvs more) (merged vs rs):=by
 intro more rs kvs vs r;unfold KV at r;induction r generalizing kvs vs with
 | nil=>intro q;exact q
 | @cons p q ps qs h t ih=>
  intro r0;have e:KV (bO kvs p.1 p.2) (stored vs q.1 q.2):=by
   have:=r0.put p.1 h.2;rw [← h.1];exact this
  exact ih e
theorem u7:∀ (more kvs:List (Key × V)),(hV kvs more).length<=kvs.length+more.length
 | [],kvs=>by show kvs.length<=kvs.length+0;omega
 | p::r,kvs=>by
  have h1:=u7 r (bO kvs p.1 p.2);have h2:=jG kvs p.1 p.2;show (hV (bO kvs p.1 p.2) r).length<=_;rw [bY];omega
theorem tL{P:Program}{w:World}:∀ {kvs:List (Key × V)} {ws:List (Value × Value)},VV (kvs.map λ kv=>(kV kv.1,kv.2)) ws->∃ rs,Carries (cO P w) ws rs/\KV kvs rs
 | [],_,r=>by rw [List.map_nil] at r;cases r;exact ⟨[],True.intro,.nil⟩
 | p::kvs,_,r=>by
  rw [bE] at r;cases r with
  | @cons a b as bs h t=>
   obtain ⟨rs,c,q⟩:=tL (P:=P) (w:=w) t;obtain ⟨b1,b2⟩:=b;exact ⟨(p.1,b2)::rs,⟨hG h.1,rfl,c⟩,.cons ⟨rfl,h.2⟩ q⟩
def rQ(trs:List (TE × TE)):TE:=λ σ H Q=>∀ p,H p=none->rT trs σ (upd H p (.dK [])) λ ps H2=>H2 p=some (.dK [])/\∃ kvs:List (Key × V),ps=kvs.map (λ kv=>(kV kv.1,kv.2))/\kvs.length<=15/\Q (.ref p) (upd H2 p (.dK (hV [] kvs)))
theorem zf1{keys:List (Option Expr)}(h:PPs X pos keys values trs)(hall:keys.all (·.isSome)=true)(hl:keys.length=values.length)(h0:keys≠[])(h15:keys.length<=15):PE X (.Dict keys values pos) (rQ trs):=by
 intro pins s σ H Q I q;have hn:=I.hok.fresh (az s.heap.objs.size);have I1:=I.laid (a:=s.heap.objs.size) (o:=.dK []) (h':=s.heap.push { cls:=.type "dict", data:=.dict #[] }) (t':=s.toks) (λ _ _ q=>bf _ q) (az _) (ud s.heap I.big);refine wpAny_Dict_walk (knd:=cO X.prog X.w) hall hl h0 h15 (thn (h pins _ σ _ _ I1 (q _ hn)) λ ws s2 ⟨ps,H2,I2,rel,e,kvs,ep,lk,q2⟩=>?_);subst ep;obtain ⟨rs,c,rk⟩:=tL (P:=X.prog) (w:=X.w) rel;obtain ⟨z,hd,vs0,r0,dd⟩:=kP I2.hok e;cases r0;refine ⟨rs,c,dd,λ h' dd' hs=>⟨.ref s.heap.objs.size,_,?_,rfl,q2⟩⟩;have hz:(hV [] kvs).length<=sizeLine:=by
  have h1:=u7 kvs [];rw [List.length_nil] at h1;rw [sizeLine_eq];omega
 have he:∃ q,h'.get? s.heap.objs.size=some q:=let ⟨q,_,_,hq,_⟩:=dd';⟨q,hq⟩;exact kO I2 (by rw [e];exact True.intro) hs he (jw hz hd (rk.merge .nil) dd')
section
variable {y d:V} {r:Value} {o:Option V}
end
section
variable {o f:Expr} {ty tx:TE}
end
section
variable {kvs:List (Key × V)}
end
section
variable {y:V}
end
namespace Att
open PySem PySem.W PySem.Calls PyProof.Rows
theorem zbL{P:Params}: ∀ (ns:List Int) (vs:List Value),WellAll P h vs (ns.map WData.int)->IntsAre vs ns:=by
 intro ns;induction ns with
 | nil=>
  intro vs w;rw [List.map_nil] at w;cases w;exact .nil
 | cons n ns ih=>
  intro vs w;rw [bE] at w;cases w with
  | cons a b=>
   cases a;exact .cons _ _ (ih _ b)
theorem zhY{l:OpenLaw}(hn:l.most=some n){P:Params}{args:List WData}{vals:List Value}(hpre:l.row.toRowW.claim.pre args=true)(hwl:WellAll P h vals args):
  ∃ a vs ns,vals=[Value.ref a]/\args=[WData.list (ns.map WData.int)]/\h.get? a=some { cls:=.type "list", data:=.seq vs.toArray }/\IntsAre vs ns/\ns.length<=n:=by
 have hsh:WShape.hasAll [] args [.list .int]=true:=(pre_splitW hpre).1;have hc:l.pre.holds [] { args:=args }=true:=(pre_splitW hpre).2;obtain ⟨d,r,rfl,h1,h2⟩:=hasAllW_cons hsh;obtain rfl:=hasAllW_nil h2;obtain ⟨xs,rfl,h3⟩:=hasW_list h1;obtain ⟨ns,rfl⟩:=items_int h3;have hlen:ns.length<=n:=by
  unfold OpenLaw.pre at hc;have h4:(WTm.not (.lt (.lit (.int (n:Int))) (.len (.arg 0)))).holds [] { args:=[.list (ns.map .int)] }=true:=by
   have h4:=(holds_andW hc).1;rw [hn] at h4;exact h4
  have h5:=condW_of h4 (w_not (w_lt w_lit (w_len_list (w_arg rfl))));rw [ae] at h5;refine Nat.le_of_not_lt λ q=>?_;have q':(n:Int) < ((ns.length:Nat):Int):=by omega
  first
   | (rw [aV q'] at h5;exact absurd h5 (by decide))
   | (simp at h5;omega)
 cases hwl with
 | cons w1 w2=>
  cases w2;cases w1 with
  | list ho hall=>exact ⟨_,_,ns,rfl,rfl,ho,zbL ns _ hall,hlen⟩
theorem zgc(l:OpenLaw)(args:List WData):l.row.toRowW.claim.post args (.bool true) args=true:=
 postW_of (r:=l.row.toRowW) (X:=(true == true))
  (show WShape.has [] (.bool true) .bool=true by first | rfl | decide | simp [WShape.has,WShape.arms,WShape.armsAll])
  (show (WTm.eq .res (.lit (.bool true))).value [] { args:=args,res:=some (.bool true),after:=args }=some (.bool (true == true)) from w_eq_bool (w_res rfl) w_lit) rfl
theorem attach_call{l:OpenLaw}{d:DefRec}(hn:l.most=some n)(hdf:d.params.defaults=[])(call:∀ (w:World) (s₀ s₁:Shared) (mg mb:Str->Option Value) (fa:Addr) (o:Obj) (pm cd doc:Value) (a:Addr) (vs:List Value) (ns:List Int),
   Ground q loose [] XP w s₀ mg mb s₁.heap->YP w s₁.heap->
   s₁.heap.get? fa=some o->o.data = .func (docDef d.name d.params d.body d.scope pm cd doc)->s₁.heap.CodeRec cd d.name->mg d.name=some (.ref fa)->
   s₁.heap.get? a=some { cls:=.type "list", data:=.seq vs.toArray }->IntsAre vs ns->ns.length<=n->s₁.gens = #[]->
   codeAny (model l.prog w) callerA (.call (.ref fa) ⟨[.ref a],[]⟩) (λ r s'=>r = .ok (.ret (.bool true))/\OldK s₁.heap s'.heap/\s'.os=s₁.os/\AllBare s'.gens) s₁):
  WalkO q loose XP YP l.row.toRowW d [] (λ f vs=>PySem.call f vs):=by
 intro w s₀ s₁ mg mb G Y fa o pm cd doc dV kV ho hd hcd hD hmg hg args vals as hpre hlay hrd hwl hlo;obtain rfl:dV = .none:=Dflts.none hD hdf;obtain rfl:kV = .none:=Dflts.noKw hD;obtain ⟨a,vs,ns,rfl,rfl,hobj,hints,hlen⟩:=zhY hn hpre hwl;refine enter_call (codeAny_mono (call w s₀ s₁ mg mb fa o pm cd doc a vs ns G Y ho (fd_plain hd) hcd hmg hobj hints hlen hg) λ r s' hq=>?_);obtain ⟨rfl,h2,h3,h4⟩:=hq;exact ⟨.inl ⟨.bool true,.bool true,[],rfl,λ _=>rfl,.bool true,zgc l _,λ _=>⟨List.Pairwise.nil,λ _ hm=>(nomatch hm)⟩⟩,h2,h3,h4⟩
section
variable {K:Frag}
end
end Att
theorem yo:∀ {vs:List Value} {ns:List Int},IntsAre vs ns->Vals (ns.map V.int) vs
 | _,_,.nil=>.nil
 | _,_,.cons n t h=>.cons ⟨t,rfl⟩ (yo h)
def cI(s:Stmt)(j:Nat):Stmt:=match s with
 | .ClassDef _ _ _ body _ _ _ _ _ _ _=>body.getD j (.Pass ⟨0,0,0,0⟩)
 | _=>.Pass ⟨0,0,0,0⟩
def dr(s:Stmt):Arguments:=match s with
 | .FunctionDef _ a _ _ _ _ _ _ _ _=>a
 | _=>{ posonlyargs:=[],args:=[],vararg:=none,kwonlyargs:=[],kw_defaults:=[],kwarg:=none,defaults:=[] }
def cS(s:Stmt):List Stmt:=match s with
 | .FunctionDef _ _ b _ _ _ _ _ _ _=>b
 | _=>[]
def av(s:Stmt):Scope:=match s with
 | .FunctionDef _ _ _ _ _ _ sc _ _ _=>sc
 | _=>{ kind:=.function,names:=[],isGenerator:=false,isCoroutine:=false }
abbrev CX0:CXT:=λ _ _ _ _ _ _=>False
abbrev E0:XK:=λ _ _ _=>False
theorem ax  : cV CX0 X E0:=λ _ _ _ _ _ _ _ h=>h.elim
structure Fun (K:W.Frag) (x qual:Str) (st:Stmt) (f:Addr) (fd:FuncData):Prop where
 ex:∃ (oc:Value) (od:Option Addr) (kV doc pm:Value) (an:Option Addr) (cdv ct:Value) (osl:Array (Option Value)),
  fd=W.fnOf x qual (dr st) (cS st) (av st) .none kV doc pm an cdv ct/\K.lookup f=some ⟨oc,od,.func fd,osl⟩/\W.codeIn K cdv qual=true
 kp:W.keepIn K (.ref f)=true
theorem Fun.ok{f:Addr}{k:Nat}(F:Fun K x qual st f fd)(S:aC N ps (av st))(len:∀ vs H Q E,sp vs H Q E->vs.length=ps.length)(hbody:∀ (cdv:Value) (A:Around) (outer:List Env) (s:Shared) (H:Hp) (vs:List V) (Q:VK) (E:XK),Room k (A.deeper (envOfC qual (av st) s.heap.objs.size f cdv))->sp vs H Q E->
   ∃ t,PSs (c4 CX0 P w K mg base N qual (av st) f cdv A outer s H E).nox (cS st) t/\t { nx:=λ _ H'=>Q .non H',rt:=Q } (fR N vs) H):FnOk P w K mg base CX0 (k+1) f fd ps sp:=by
 obtain ⟨oc,od,kV,doc,pm,an,cdv,ct,osl,rfl,lk,hcd⟩:=F.ex;refine nF lk hcd S len λ A outer s H vs Q E hr hsp=>?_;obtain ⟨t,h,q⟩:=hbody cdv A outer s H vs Q E hr hsp;exact ⟨t,h.nox,q⟩
theorem Fun.binds{f:Addr}(F:Fun K x qual st f fd)(h:∀ (kV doc pm:Value) (an:Option Addr) (cdv ct:Value) (us:List Value),us.length=ps.length->bindArgs (W.fnOf x qual (dr st) (cS st) (av st) .none kV doc pm an cdv ct) ⟨us,[]⟩=pure (ps.zip us)):Binds K fd ps []:=by
 obtain ⟨oc,od,kV,doc,pm,an,cdv,ct,osl,rfl,lk,hcd⟩:=F.ex;exact .all (h kV doc pm an cdv ct)
theorem kU{f:Addr}{kV:Value}(l:K.lookup f=some ⟨oc,od,.func (W.fnOf x qual (dr st) (cS st) (av st) .none kV doc pm an cdv ct),osl⟩)(c:W.codeIn K cdv qual=true)(k:W.keepIn K (.ref f)=true):Fun K x qual st f (W.fnOf x qual (dr st) (cS st) (av st) .none kV doc pm an cdv ct):=⟨⟨oc,od,kV,doc,pm,an,cdv,ct,osl,rfl,l,c⟩,k⟩
theorem ge{k:Nat}(hr:Room k A):A.units+1 < cLine:=Nat.lt_of_le_of_lt (Nat.add_le_add_left (by decide:1<=64) _) hr.units
theorem aY(h:n<=1000):n < sizeLine:=Nat.lt_of_le_of_lt h (by decide)
theorem pv(i:Nat)(hN:X.N[i]?=some x:=by rfl)(hv:Vis X.env.scope x:=by first | exact Or.inl rfl | exact Or.inr (Or.inl rfl) | exact Or.inr (Or.inr rfl))(hd:(x == ("__debug__" : Str))=false:=by decide)(hcd:(x == ("__classdict__" : Str))=false:=by decide):PE X (.Name x pos) (cf i):=zf4 hN hv hd hcd
theorem kI:CallR X (.builtin "len") (λ xs H Q=>∃ a kvs,xs=[V.ref a]/\H a=some (.dK kvs)/\Q (.int kvs.length) H):=by
 intro pins s σ H xs us Q I r h;obtain ⟨a,kvs,rfl,ha,q⟩:=h;obtain ⟨u,rfl,ru⟩:=dk r;cases ru;exact zaH I (.inl ha) λ t s' I'=>⟨.int kvs.length,H,I',⟨t,rfl⟩,q⟩
theorem au{A:Prop}(h:B):if false=true then A else B:=by
 rw [if_neg bC];exact h
theorem aA{A:Prop}(h:A):if true=true then A else B:=by
 rw [if_pos rfl];exact h
theorem g9{c A:Prop}[Decidable c](h1:c->A)(h2:¬ c->B):if c then A else B:=by
 by_cases h:c
 ·rw [if_pos h];exact h1 h
 ·rw [if_neg h];exact h2 h
def Same(H H':Hp):Prop:=∀ b o,H b=some o->H' b=some o
theorem Same.refl(H:Hp):Same H H:=λ _ _ h=>h
theorem Same.trans(a:Same H H1)(b:Same H1 H2):Same H H2:=λ c o h=>b c o (a c o h)
theorem Same.free(e:Same H H'){l:Addr}(h:H' l=Option.none):H l=Option.none:=by
 cases q:H l with
 | none=>rfl
 | some o=>
  rw [e l o q] at h;cases h
theorem Same.seq(e:Same H H')(h:SqL K H a xs):SqL K H' a xs:=by
 rcases h with (h | ⟨o,h⟩) | h
 ·exact .inl (.inl (e _ _ h))
 ·exact .inl (.inr ⟨o,e _ _ h⟩)
 ·exact .inr h
section
variable [DecidableEq κ]
end
def eh(cells:List (Str × Addr)):List (Str × NameKind)->List (Str × Addr)->List (Str × Addr)
 | [],acc=>acc
 | (n,k)::r,acc=>if (k == NameKind.free)=true then eh cells r ((n,(cells.lookup n).getD 0)::acc) else eh cells r acc
theorem nj(cells:List (Str × Addr)):∀ (l:List (Str × NameKind)) (acc:List (Str × Addr)) (x:Str) (c:Addr),
  (eh cells l acc).lookup x=some c->((x,NameKind.free)∈l/\c=(cells.lookup x).getD 0)\/acc.lookup x=some c
 | [],_,_,_,h=>.inr h
 | (n,k)::r,acc,x,c,h=>by
  unfold eh at h
  split at h
  ·rename_i hk
   have hk:k=NameKind.free:=by simpa using hk
   rcases nj cells r _ x c h with ⟨m,e⟩ | e
   ·exact .inl ⟨bV _ m,e⟩
   ·rw [List.lookup_cons] at e
    split at e
    ·rename_i hx
     have hx:x=n:=by simpa using hx
     subst hx;exact .inl ⟨by rw [hk];exact cG,(bL e).symm⟩
    ·exact .inr e
  ·rcases nj cells r acc x c h with ⟨m,e⟩ | e
   ·exact .inl ⟨bV _ m,e⟩
   ·exact .inr e
theorem kJ(cells:List (Str × Addr)):∀ (l:List (Str × NameKind)) (acc:List (Str × Addr)) (x:Str),
  ((x,NameKind.free)∈l\/∃ c,acc.lookup x=some c)->∃ c,(eh cells l acc).lookup x=some c
 | [],_,_,h=>by
  rcases h with h | h
  ·cases h
  ·exact h
 | (n,k)::r,acc,x,h=>by
  unfold eh
  split
  ·rename_i hk
   refine kJ cells r _ x ?_;rcases h with h | ⟨c,h⟩
   ·rcases al_mc.mp h with h | h
    ·injection h with h1 h2
     exact .inr ⟨(cells.lookup n).getD 0,by rw [h1,List.lookup_cons];simp⟩
    ·exact .inl h
   ·right;rw [List.lookup_cons]
    split
    ·exact ⟨_,rfl⟩
    ·exact ⟨c,h⟩
  ·rename_i hk
   refine kJ cells r _ x ?_;rcases h with h | h
   ·rcases al_mc.mp h with h | h
    ·injection h with h1 h2
     exact absurd (by rw [← h2];rfl) hk
    ·exact .inl h
   ·exact .inr h
theorem zax(h:∀ x,(x,NameKind.free)∈scope.names->∃ c,env.cells.lookup x=some c):
  closureFor scope env=pure (eh env.cells scope.names []):=by
 have key:∀ (l:List (Str × NameKind)) (acc:List (Str × Addr)) (f:Str × NameKind->List (Str × Addr)->Sem (ForInStep (List (Str × Addr)))),
   (∀ n k cs,f (n,k) cs=if (k == NameKind.free)=true then cellOf env n >>= λ c=>pure (.yield ((n,c)::cs)) else pure (.yield cs))->
   (∀ x,(x,NameKind.free)∈l->∃ c,env.cells.lookup x=some c)->(forIn l acc f:Sem (List (Str × Addr)))=pure (eh env.cells l acc):=by
  intro l;induction l with
  | nil=>intro acc f _ _;rfl
  | cons p r ih=>
   intro acc f hf hl;obtain ⟨n,k⟩:=p;rw [List.forIn_cons,hf];unfold eh;by_cases hk:(k == NameKind.free)=true
   ·rw [if_pos hk,if_pos hk];have hk':k=NameKind.free:=by simpa using hk
    obtain ⟨c,hc⟩:=hl n (by rw [hk'];exact cG);rw [show cellOf env n=pure c from by unfold cellOf;rw [hc],pure_bind,pure_bind,hc];exact ih _ f hf λ x hx=>hl x (bV _ hx)
   ·rw [if_neg hk,if_neg hk,pure_bind];exact ih _ f hf λ x hx=>hl x (bV _ hx)
 unfold closureFor;refine (congrArg (λ t:Sem (List (Str × Addr))=>t >>= λ cs=>pure cs) (key scope.names [] _ ?_ h)).trans ?_
 ·intro n k cs;rfl
 ·rw [pure_bind]
def r9(M:Model)(A:Around)(E:Value->Shared->Prop)(C:Addr)(x:Value)(s':Shared):Prop:=
 ∃ m,s'.heap.Ns C m/\∀ h',Heap.SameBut C s'.heap h'->∀ ce:Env,ce.locals=C->wpAny M A (passOn "comprehension.variables-let-go" x ce:Sem Value) (λ _ _=>False) E { s' with heap:=h' }
def bo(X:Cx)(N:List Str)(scope:Scope)(C:Addr)(fp:List Addr)(s:Shared)(H:Hp):Cx where
 prog:=X.prog
 w:=X.w
 K:=X.K
 mg:=X.mg
 base:=X.base
 A:=X.A
 N:=N
 s₀:=s
 H₀:=H
 env:=compEnvC scope (eh X.env.cells scope.names []) C X.env
 outer:=X.stack
 stack:=X.stack
 ex:=fp
 fn:=λ _=>false
 calm:=X.calm
 pn:=[]
 xe:=notedBy (model X.prog X.w) X.A (compEnvC scope (eh X.env.cells scope.names []) C X.env) (r9 (model X.prog X.w) X.A X.xe C)
structure CompScope (X:Cx) (N:List Str) (scope:Scope) (fr:List (Option Nat)):Prop where
 kind:scope.kind = .function
 nocell:(scope.names.all λ x=>decide (x.2≠.cell))=true
 locs:(scope.names.all λ x=>decide (x.2 = .local->scope.names.lookup x.1=some .local))=true
 free:(scope.names.all λ x=>decide (x.2 = .free->X.env.scope.names.lookup x.1=some .cell))=true
 len:fr.length=N.length
 pl:((List.range N.length).all λ i=>match fr[i]? with
  | some (some j)=>decide (X.N[j]?=N[i]?/\∃ x,N[i]?=some x/\scope.names.lookup x=some .free)
  | _=>true)=true
def stC(fr:List (Option Nat))(σ:St):St:=fr.map λ o=>o.bind λ j=>(σ[j]?).join
def Wk(σ σ2:St):Prop:=σ2.length=σ.length/\∀ (i:Nat) v,σ[i]?=some (some v)->σ2[i]?=some (some v)
theorem Wk.set{v:V}(h:σ[i]?=some none):Wk σ (σ.set i (some v)):=by
 refine ⟨by simp,λ j w hj=>?_⟩;by_cases e:i=j
 ·subst e;rw [h] at hj;cases hj
 ·rw [List.getElem?_set_ne e];exact hj
theorem Wk.refl(σ:St):Wk σ σ:=⟨rfl,λ _ _ h=>h⟩
theorem Wk.trans{σ σ1 σ2:St}(a:Wk σ σ1)(b:Wk σ1 σ2):Wk σ σ2:=⟨b.1.trans a.1,λ i v h=>b.2 i v (a.2 i v h)⟩
def fW(X:Cx)(ifs:List Expr)(t:TT):Prop:=
 ∀ (pins:List (Addr × Obj)) (s:Shared) (σ:St) (H:Hp) (Q:Bool->Hp->Prop),Inv X pins σ H s->t σ H Q->
  wpAny (model X.prog X.w) X.A (forIn ifs true λ c r=>if r=true then do let ok ← isTrue c X.env (eval c X.env);pure (ForInStep.yield ok) else pure (ForInStep.yield r)) (TP X pins σ Q) X.xe s
def lW:TT:=λ _ H Q=>Q true H
theorem bS  : fW X [] lW:=λ _ _ _ H _ I h=>wpAny_tests_nil ⟨H,I,h⟩
theorem fz{c:Expr}{t:TT}(h:PT X c t):fW X [c] t:=λ pins s σ H Q I q=>wpAny_tests_one (h pins s σ H Q I q)
theorem zay{target:Expr}{it acc:Value}(I:Nat->Shared->Prop)(Ex:Value->Shared->Prop)(hEx:∀ e s',Ex e s'->notedBy (model prog w) A env (λ x s''=>R (.error x) s'') e s')(turn:∀ n s,I n s->wpAny (model prog w) A (pyNext it) (λ r s₁=>match r with
   | none=>R (.ok .next) s₁
   | some v=>wpAny (model prog w) A (letOwnedTupleGo target it v) (λ _ s₁'=>wpAny (model prog w) A (assign target env v) (λ _ s₂=>
     wpAny (model prog w) A (forIn ifs true λ c r=>if r=true then do let ok ← isTrue c env (eval c env);pure (ForInStep.yield ok) else pure (ForInStep.yield r)) (λ ok s₃=>
      if ok=true then wpAny (model prog w) A (eval elt env) (λ x s₄=>
       wpAny (model prog w) A (call (.builtin "list.append") [acc,x]) (λ _ s₅=>∃ m,m < n/\I m s₅) Ex s₄) Ex s₃
      else ∃ m,m < n/\I m s₃) Ex s₂) Ex s₁') Ex s₁) Ex s)(n:Nat)(h:I n s):
  codeAny (model prog w) A (.compLoop (.ListComp elt [⟨target,iter,ifs,0⟩] scope pos) 0 it acc env) R s:=by
 refine codeAny_loop rfl I (λ n s hI=>?_) n h;show wpAny _ A ((compTurn (.ListComp elt [⟨target,iter,ifs,0⟩] scope pos) 0 it acc env).onRaise (λ x=>do noteFrame x env;theTreesLotGoes x)) _ _ s;refine wpAny_noted (wpAny_mono (E:=Ex) ?_ (λ _ _ q=>q) hEx);rw [compTurn_list];refine ao (wpAny_standAt (ao (wpAny_mono (turn n s hI) (λ r s₁ h₁=>?_) λ _ _ h'=>h')));cases r with
 | none=>exact aL h₁
 | some v=>
  refine ao (wpAny_mono h₁ (λ _ s₁' h₁'=>?_) λ _ _ h'=>h');refine ao (wpAny_mono h₁' (λ _ s₂ h₂=>ao (wpAny_mono h₂ (λ ok s₃ h₃=>?_) λ _ _ h'=>h')) λ _ _ h'=>h');cases ok with
  | false=>exact aL ⟨rfl,h₃⟩
  | true=>
   exact ao (ao (wpAny_mono h₃ (λ x s₄ h₄=>ao (wpAny_mono h₄ (λ _ s₅ h₅=>aL (aL ⟨rfl,h₅⟩)) λ _ _ h'=>h')) λ _ _ h'=>h'))
theorem vf{env:Env}:∀ {names:List (Str × NameKind)} {x:Str},names.lookup x=some .free->
  (names.map λ (n,k)=>if (k == NameKind.free && env.scope.kind == .function && env.kindOf n == some .cell) then (n,NameKind.cell) else (n,k)).lookup x=some .cell\/
  (names.map λ (n,k)=>if (k == NameKind.free && env.scope.kind == .function && env.kindOf n == some .cell) then (n,NameKind.cell) else (n,k)).lookup x=some .free
 | [],_,h=>by simp at h
 | (n,k)::r,x,h=>by
  have ih:=@vf env r x;rw [bE];rw [List.lookup_cons] at h;by_cases hx:x=n
  ·subst hx;have hk:k = .free:=by simpa using h
   subst hk;dsimp only
   split
   ·left;simp
   ·right;simp
  ·have hb:(x == n)=false:=by simpa using hx
   rw [hb] at h;rcases ih h with q | q
   ·left;dsimp only
    split <;> (rw [List.lookup_cons,hb];exact q)
   ·right;dsimp only
    split <;> (rw [List.lookup_cons,hb];exact q)
theorem vh{env:Env}:∀ {names:List (Str × NameKind)} {x:Str},
    ((names.map λ (n,k)=>if (k == NameKind.free && env.scope.kind == .function && env.kindOf n == some .cell) then (n,NameKind.cell) else (n,k)).lookup x=some .cell\/
     (names.map λ (n,k)=>if (k == NameKind.free && env.scope.kind == .function && env.kindOf n == some .cell) then (n,NameKind.cell) else (n,k)).lookup x=some .free)->
    (x,NameKind.free)∈names\/(x,NameKind.cell)∈names
  | [],_,h=>by simp at h
  | (n,k)::r,x,h=>by
    have ih:=@vh env r x;rw [bE] at h;by_cases hx:x=n
    · subst hx
      dsimp only at h
      split at h
      · rename_i hk
        simp at hk;exact .inl (by rw [hk.1.1];exact cG)
      · simp at h
        rcases h with h | h
        · exact .inr (by rw [h];exact cG)
        · exact .inl (by rw [h];exact cG)
    · have hb:(x == n)=false:=by simpa using hx
      have:(r.map λ (n,k)=>if (k == NameKind.free && env.scope.kind == .function && env.kindOf n == some .cell) then (n,NameKind.cell) else (n,k)).lookup x=some .cell\/
          (r.map λ (n,k)=>if (k == NameKind.free && env.scope.kind == .function && env.kindOf n == some .cell) then (n,NameKind.cell) else (n,k)).lookup x=some .free:=by
        dsimp only at h
        split at h <;> (rw [List.lookup_cons,hb] at h;exact h)
      rcases ih this with q | q
      · exact .inl (bV _ q)
      · exact .inr (bV _ q)
theorem CompScope.cell{fr:List (Option Nat)}(S:CompScope X N scope fr):∀ x∈scope.names,x.2≠.cell:=λ x hx=>
 of_decide_eq_true (al_ae.mp S.nocell x hx)
theorem CompScope.loc{fr:List (Option Nat)}(S:CompScope X N scope fr):∀ x∈scope.names,x.2 = .local->scope.names.lookup x.1=some .local:=λ x hx=>
 of_decide_eq_true (al_ae.mp S.locs x hx)
theorem CompScope.fre{fr:List (Option Nat)}(S:CompScope X N scope fr):∀ x,(x,NameKind.free)∈scope.names->X.env.scope.names.lookup x=some .cell:=λ x hx=>
 of_decide_eq_true (al_ae.mp S.free _ hx) rfl
theorem CompScope.get{fr:List (Option Nat)}(S:CompScope X N scope fr)(h:fr[i]?=some (some j))(hx:N[i]?=some x):
  X.N[j]?=some x/\scope.names.lookup x=some .free:=by
 have hi:i < N.length:=(al_gs.mp hx).1;have q:=al_ae.mp S.pl i (List.mem_range.mpr hi);rw [h] at q;obtain ⟨a,y,b,c⟩:=of_decide_eq_true q;rw [hx] at a b;cases b;exact ⟨a,c⟩
theorem zaD{fr:List (Option Nat)}{h₁:Heap}{oD:Obj}(S:CompScope X N scope fr)(I:Inv X pins σ H s2)(f2:∀ b∈fp,eU X pins H b)(hfp:∀ b∈fp,b < s2.heap.objs.size)(old:∀ b o,s2.heap.get? b=some o->h₁.get? b=some o)(hD:h₁.get? s2.heap.objs.size=some oD)(hDd:∀ v,oD.data≠.cell v)(hns:h₁.Ns (s2.heap.objs.size+1) m):
  Inv (bo X N scope (s2.heap.objs.size+1) fp s2 H) [(s2.heap.objs.size,oD)] (stC fr σ) H { s2 with heap:=h₁,toks:=t' }:=by
 have hcl:∀ x c,(eh X.env.cells scope.names []).lookup x=some c->X.env.cells.lookup x=some c:=λ x c e=>by
  rcases nj _ _ _ x c e with ⟨m,q⟩ | q
  ·obtain ⟨c',hc'⟩:=I.ok.has x (.inl (S.fre x m));rw [hc'] at q ⊢;rw [q];rfl
  ·cases q
 have frS:∀ b∈frs X.stack,b≠s2.heap.objs.size+1/\b≠s2.heap.objs.size:=λ b hb=>by
  obtain ⟨_,o,ho,_⟩:=I.stack.mem hb;have:=aS ho;exact ⟨be (Nat.lt_succ_of_lt this),be this⟩
 have celllt:∀ x c,X.env.cells.lookup x=some c->c < s2.heap.objs.size:=λ x c e=>by
  obtain ⟨v,q⟩:=I.cell x c e;exact q.lt
 refine ⟨⟨I.ok.mod,S.kind,I.ok.glob,I.ok.blt,Nat.le_succ _,λ x y c h1 h2=>I.ok.inj x y c (hcl x c h1) (hcl y c h2),λ x hx=>?_,λ x c hf=>Bool.noConfusion hf,I.ok.hd,I.ok.frames,.inl rfl,λ b hb=>⟨?_,λ x c e=>?_⟩,
   I.bs,Nat.le_trans I.ok.bsz I.sz,λ b o e hb=>?_,λ b hb hs=>?_,I.stack,I.stkFree⟩,
  rfl,I.bare,Un.kept old,⟨m,hns,λ i x v h1 h2 h3=>?_⟩,λ x c e=>?_,I.hok.fresh (Nat.le_succ _),λ x c e=>I.freeC x c (hcl x c e),λ p hp=>?_,I.hok.kept old,?_⟩
 ·refine kJ _ _ _ x (.inl ?_);rcases vh hx with q | q
  ·exact q
  ·exact absurd rfl (S.cell _ q)
 ·have:=hfp b hb;exact be (Nat.lt_succ_of_lt this)
 ·exact (f2 b hb).2.2.2.2.1 x c (hcl x c e)
 ·have q:=f2 b hb;rcases q.2.2.2.1 with z | z
  ·exact I.ok.noex b o e z
  ·have:=(I.ok.bs b o e).1;exact absurd (bU (aS this) z) (Nat.lt_irrefl _)
 ·rcases al_mc.mp (I.stkSub b hs) with z | z
  ·exact (f2 b hb).2.1 z
  ·exact (f2 b hb).2.2.1 z
 ·-- the names of the def around it
  unfold stC at h2;rw [aH] at h2;cases e:fr[i]? with
  | none=>rw [e] at h2;cases h2
  | some o=>
   rw [e] at h2;cases o with
   | none=>cases h2
   | some j=>
    have h2':(σ[j]?).join=some v:=bL h2;obtain ⟨a,b⟩:=S.get e h1;have hσ:σ[j]?=some (some v):=by
     cases q:σ[j]? with
     | none=>rw [q] at h2';cases h2'
     | some o=>rw [q] at h2';cases o with
      | none=>cases h2'
      | some w=>cases h2';rfl
    have hfree:(x,NameKind.free)∈scope.names:=PySem.mem_of_lookup b;have hk:=S.fre x hfree;obtain ⟨mX,hnX,hlX⟩:=I.loc;obtain ⟨u,r,l⟩:=hlX j x v a hσ (.inr (.inl hk));refine ⟨u,r,.inr ⟨?_,?_⟩⟩
    ·exact vf b
    ·rcases l with ⟨k,_⟩ | ⟨_,c,ec,z⟩
     ·have k':X.env.scope.names.lookup x=some .local:=k;rw [hk] at k';cases k'
     ·obtain ⟨c',hc'⟩:=kJ X.env.cells scope.names [] x (.inl hfree);have:=hcl x c' hc';rw [ec] at this;cases this;obtain ⟨o,ho,hd⟩:=z;exact ⟨c,hc',o,old c o ho,hd⟩
 ·obtain ⟨v,o,ho,hd⟩:=I.cell x c (hcl x c e);exact ⟨v,o,old c o ho,hd⟩
 ·have e:p=(s2.heap.objs.size,oD):=by simpa [bo] using hp
  subst e;refine ⟨hD,I.hok.fresh (az _),?_,λ z=>(frS _ z).2 rfl,hDd⟩;exact be (Nat.lt_succ_self _)
 ·unfold stC;rw [ae];exact S.len
theorem zaB{σc:St}{k:Nat}(I:Inv X pins σ H s2)(f2:∀ b∈fp,eU X pins H b)(I':Inv (bo X N scope (s2.heap.objs.size+1) fp s2 H) [(s2.heap.objs.size,{ cls:=.type "list", data:=.seq its.toArray k })] σc H' s')(rv:Vals acc its)(hz:acc.length<=sizeLine):
  Inv X pins σ (upd H' s2.heap.objs.size (.lst acc)) s':=by
 obtain ⟨hp1,hp2,hp3,hp4,_⟩:=I'.pin (s2.heap.objs.size,{ cls:=.type "list", data:=.seq its.toArray k }) (by simp [bo]);have hp1:s'.heap.get? s2.heap.objs.size=some { cls:=.type "list", data:=.seq its.toArray k }:=hp1;have hp2:H' s2.heap.objs.size=none:=hp2;have ne:∀ b o,s2.heap.get? b=some o->b≠s2.heap.objs.size:=λ b o e=>be (aS e);have neH:∀ b o,H b=some o->b≠s2.heap.objs.size:=λ b o e=>be (I.hok.lt e);have B:=I'.base;have u:Un (frs X.stack) fp H (upd H' s2.heap.objs.size (.lst acc)) s2.heap s'.heap:=
  ⟨B.keep,B.slot,λ b o e n hx=>by rw [aj (ne b o e)];exact B.free b o e n hx,B.there,λ b xs e=>by rw [aj (neH b _ e)];exact B.tups b xs e,
   λ b o w e=>by rw [aj (neH b _ e)];exact B.frzs b o w e,λ b ps e=>by rw [aj (neH b _ e)];exact B.tbls b ps e⟩
 have hok:HOk X.prog X.w (upd H' s2.heap.objs.size (.lst acc)) s'.heap:=λ b o e=>by
  by_cases hb:b=s2.heap.objs.size
  ·subst hb;rw [ag] at e;cases e;exact ⟨hz,its,k,rv,hp1⟩
  ·rw [aj hb] at e;exact (I'.hok b o e).stay (λ c w _ q=>q) (λ c q=>by rw [aj (aI q hp2)];exact q) λ c xs q=>by rw [aj (aI q hp2)];exact q
 have os:s'.os=s2.os:=I'.os;exact I.call' os u hok I'.bare λ b hb=>⟨(f2 b hb).2.2.2.1,(f2 b hb).2.1,λ x c e=>(f2 b hb).2.2.2.2.1 x c e,λ p hp=>(f2 b hb).2.2.2.2.2 p hp⟩
def lV(fr:List (Option Nat))(wi:TI)(g:TG)(tc:TT)(te:TE):TE:=λ σ H Q=>wi σ H λ J H1=>
  ∃ W:Nat->Nat->List V->Hp->Prop,(∃ m,W 0 m [] H1)/\∀ i m acc H,W i m acc H->
    (J.stop i H/\∀ p,H p=none->Q (.ref p) (upd H p (.lst acc)))\/
    (J.go i H/\acc.length < sizeLine/\∀ x H',J.yld i H x H'->g x (stC fr σ) H' λ σ2 H2=>Wk (stC fr σ) σ2/\tc σ2 H2 λ b H3=>
       if b=true then te σ2 H3 λ y H4=>∃ m',m' < m/\W (i+1) m' (acc++[y]) H4 else ∃ m',m' < m/\W (i+1) m' acc H3)
theorem tS{fr:List (Option Nat)}{tn:Nat->Heap->Prop}{W:Nat->Nat->List V->Hp->Prop}{m0:Nat}{RR:Value->Addr->Result->Shared->Prop}(S:CompScope X N scope fr)(hc:X.calm=true)(hb:PG (bo X N scope (s2.heap.objs.size+1) fp s2 H2) tg g/\fW (bo X N scope (s2.heap.objs.size+1) fp s2 H2) ifs tc/\PE (bo X N scope (s2.heap.objs.size+1) fp s2 H2) elt te)(I2:Inv X pins σ H2 s2)(T:gp X.prog X.w X.K tg J fp it tn)(st2:tn 0 s2.heap)(f2:∀ b∈fp,eU X pins H2 b)(w0:W 0 m0 [] H2)(turn:∀ i m acc H,W i m acc H->(J.stop i H/\Qe acc H)\/
      (J.go i H/\acc.length < sizeLine/\∀ x H',J.yld i H x H'->g x (stC fr σ) H' λ σ2 H2=>Wk (stC fr σ) σ2/\tc σ2 H2 λ b H3=>
       if b=true then te σ2 H3 λ y H4=>∃ m',m' < m/\W (i+1) m' (acc++[y]) H4 else ∃ m',m' < m/\W (i+1) m' acc H3))(hRR:∀ s' acc H' m,Inv X pins σ (upd H' s2.heap.objs.size (.lst acc)) s'->s'.heap.Ns (s2.heap.objs.size+1) m->H' s2.heap.objs.size=none->H' (s2.heap.objs.size+1)=none->Qe acc H'->RR (.ref s2.heap.objs.size) (s2.heap.objs.size+1) (.ok .next) s')(hRE:∀ x s',r9 (model X.prog X.w) X.A X.xe (s2.heap.objs.size+1) x s'->RR (.ref s2.heap.objs.size) (s2.heap.objs.size+1) (.error x) s'):
    wpAny (model X.prog X.w) X.A (newList []) (λ acc s₃=>wpAny (model X.prog X.w) X.A (newFunctionEnv scope X.env.globals (eh X.env.cells scope.names []) [] X.env.qual none .none (some X.env)) (λ cenv s₄=>
      codeAny (model X.prog X.w) X.A (.compStart (.ListComp elt [⟨tg,iter,ifs,0⟩] scope pos) 0 (.ref it) acc { cenv with scope:=relabel scope X.env }) (RR acc cenv.locals) s₄) E s₃) E s2:=by
  refine wpAny_newObj_type (wpAny_newFunctionEnv S.cell (by intro y hy;simp at hy) (λ h₁ hns₁ hsb₁=>?_) S.kind);dsimp only at hns₁ hsb₁ ⊢;rw [Heap.size_push] at hns₁ hsb₁ ⊢;have hfp:∀ b∈fp,b < s2.heap.objs.size:=λ b hb'=>by
    obtain ⟨o,ho,_⟩:=T.obj 0 _ st2 b hb';exact aS ho
  have old:∀ b o,s2.heap.get? b=some o->h₁.get? b=some o:=λ b o e=>
    hsb₁.extBut b o (be (Nat.lt_succ_of_lt (aS e))) (bf _ (bf _ e))
  have hD:h₁.get? s2.heap.objs.size=some { cls:=.type "list", data:=.seq ([]:List Value).toArray 0 }:=
    hsb₁.extBut _ _ (be (Nat.lt_succ_self _)) (bf _ (Heap.get?_push_size _ rfl))
  have I₁:=zaD (t':=s2.toks+([]:List (Str × Value)).length) S I2 f2 hfp old hD (λ v=>by intro z;cases z) hns₁;have st₁:tn 0 h₁:=T.keep 0 _ _ st2 λ b _ o e=>old b o e;have loop:codeAny (model X.prog X.w) X.A (.compLoop (.ListComp elt [⟨tg,iter,ifs,0⟩] scope pos) 0 (.ref it) (.ref s2.heap.objs.size) (bo X N scope (s2.heap.objs.size+1) fp s2 H2).env)
      (RR (.ref s2.heap.objs.size) (s2.heap.objs.size+1)) { s2 with heap:=h₁,toks:=s2.toks+([]:List (Str × Value)).length }:=by
    refine zay (λ n s'=>∃ i acc H' its k,Inv (bo X N scope (s2.heap.objs.size+1) fp s2 H2) [(s2.heap.objs.size,{ cls:=.type "list", data:=.seq its.toArray k })] (stC fr σ) H' s'/\
      Vals acc its/\acc.length<=sizeLine/\tn i s'.heap/\(∀ b∈fp,H' b=none)/\W i n acc H')
      (bo X N scope (s2.heap.objs.size+1) fp s2 H2).xe (λ e s' q=>wpAny_mono q (λ _ _ q=>hRE _ _ q) λ _ _ q=>hRE _ _ q) ?_ m0
      ⟨0,[],H2,[],0,I₁,.nil,Nat.zero_le _,st₁,λ b hb'=>(f2 b hb').1,w0⟩
    rintro n s3 ⟨i,acc,H3,its,k,I3,rv,hz,st3,fr3,w3⟩;have neD:∀ b∈fp,s2.heap.objs.size≠b:=λ b hb'=>Nat.ne_of_gt (hfp b hb');have stat:∀ {H':Hp} {ob:Obj},(∀ b∈fp,H' b=none)->∀ b∈fp,eU (bo X N scope (s2.heap.objs.size+1) fp s2 H2) [(s2.heap.objs.size,ob)] H' b:=λ {H' ob} hn b hb'=>
      ⟨hn b hb',(I₁.ok.exf b hb').1,I₁.ok.exfs b hb',.inl hb',(I₁.ok.exf b hb').2,λ p hp=>by
        have e:p=(s2.heap.objs.size,ob):=by simpa [bo] using hp
        subst e;exact neD b hb'⟩
    obtain ⟨hb1,hb2,hb3⟩:=hb;rcases turn i n acc H3 w3 with ⟨stop,qn⟩ | ⟨go,hlen,step⟩
    · refine wpAny_mono (T.done (bo X N scope (s2.heap.objs.size+1) fp s2 H2) rfl rfl rfl hc i _ s3 _ H3 (bo X N scope (s2.heap.objs.size+1) fp s2 H2).xe I3 (stat fr3) st3 stop) (λ r s4 ⟨hr,I4⟩=>?_) λ _ _ x=>x
      subst hr;obtain ⟨mC,hnC,_⟩:=I4.loc;exact hRR s4 acc H3 mC (zaB I2 f2 I4 rv hz) hnC (I4.pin (s2.heap.objs.size,{ cls:=.type "list", data:=.seq its.toArray k }) (by simp [bo])).2.1 I4.free qn
    · refine wpAny_mono (T.item (bo X N scope (s2.heap.objs.size+1) fp s2 H2) rfl rfl rfl hc i _ s3 _ H3 (bo X N scope (s2.heap.objs.size+1) fp s2 H2).xe I3 (stat fr3) st3 go) (λ r s4 ⟨u,hr,h4⟩=>?_) λ _ _ x=>x
      subst hr;refine wpAny_mono h4 (λ _ s5 ⟨x,H5,I5,r5,y5,st5,fr5⟩=>?_) λ _ _ x=>x;have I5':=I5.pinned (stat fr5) (T.obj _ _ st5);refine wpAny_mono (hb1 _ s5 _ H5 x u _ I5' r5 (step x H5 y5)) (λ _ s6 ⟨σ6,H6,I6,wk,q6⟩=>?_) λ _ _ x=>x;refine wpAny_mono (hb2 _ s6 σ6 H6 _ I6 q6) (λ b s7 ⟨H7,I7,q7⟩=>?_) λ _ _ x=>x;have tn_of:∀ {s8:Shared} {H8:Hp},Inv (bo X N scope (s2.heap.objs.size+1) fp s2 H2) ([(s2.heap.objs.size,{ cls:=.type "list", data:=.seq its.toArray k })]++jP fp s5.heap) σ6 H8 s8->tn (i+1) s8.heap/\∀ b∈fp,H8 b=none:=λ {s8 H8} I8=>by
        refine ⟨T.keep _ _ _ st5 λ b hb' o e=>(I8.pin (b,o) (List.mem_append_right _ (List.mem_append_right _ (lj hb' e)))).1,λ b hb'=>?_⟩;obtain ⟨o,e,d⟩:=T.obj _ _ st5 b hb';exact (I8.pin (b,o) (List.mem_append_right _ (List.mem_append_right _ (lj hb' e)))).2.1
      cases b with
      | false=>
        rw [if_neg bC] at q7 ⊢;obtain ⟨m',hm,w7⟩:=q7;obtain ⟨t7,f7⟩:=tn_of I7;exact ⟨m',hm,i+1,acc,H7,its,k,(I7.unpinned).weak wk.1.symm wk.2,rv,hz,t7,f7,w7⟩
      | true=>
        rw [if_pos rfl] at q7 ⊢;refine wpAny_mono (hb3 _ s7 σ6 H7 _ I7 q7) (λ y s8 ⟨yv,H8,I8,ry,m',hm,w8⟩=>?_) λ _ _ x=>x;obtain ⟨t8,f8⟩:=tn_of I8;obtain ⟨e8,n8,l8,nf8,d8⟩:=I8.pin (s2.heap.objs.size,{ cls:=.type "list", data:=.seq its.toArray k }) (by simp [bo]);have e8:s8.heap.get? s2.heap.objs.size=some { cls:=.type "list", data:=.seq its.toArray k }:=e8;have hl:acc.length=its.length:=rv.length;refine call_meets F.slot_list_append ⟨_,e8,rfl⟩ F.entry_list_append (F.args_list_append_2 _ _) (PySem.list_append s2.heap.objs.size its.toArray k y (by rw [aT];omega)) ⟨e8,?_⟩;have q:=PySem.IsL.update e8 (·.push y);have q':(s8.heap.update s2.heap.objs.size (Obj.mapSeq (·.push y))).get? s2.heap.objs.size=some { cls:=.type "list", data:=.seq (its++[y]).toArray (k+1) }:=by
          first
            | simpa using q
            | (rw [q];simp)
        have oth:∀ b o,b≠s2.heap.objs.size->s8.heap.get? b=some o->(s8.heap.update s2.heap.objs.size (Obj.mapSeq (·.push y))).get? b=some o:=λ b o hb' e=>
          (Heap.get?_update_other s8.heap _ (Ne.symm hb')).trans e
        have I8a:Inv (bo X N scope (s2.heap.objs.size+1) fp s2 H2) [] σ6 H8 s8:=I8.pins_of λ p hp=>absurd hp (by simp [bo]);have I9:=I8a.turned (t':=s8.toks) oth n8 l8 (.inr (az _)) (λ x c e z=>by
          obtain ⟨v,o,ho,hd⟩:=I8a.cell x c e;rw [z,e8] at ho;cases ho;cases hd) (λ p hp=>absurd hp (by simp [bo]))
        have I10:Inv (bo X N scope (s2.heap.objs.size+1) fp s2 H2) [(s2.heap.objs.size,{ cls:=.type "list", data:=.seq (its++[y]).toArray (k+1) })] σ6 H8 _:=I9.pins_of λ p hp=>by
          have e:p=(s2.heap.objs.size,{ cls:=.type "list", data:=.seq (its++[y]).toArray (k+1) }):=by simpa [bo] using hp
          subst e;exact ⟨q',n8,l8,nf8,λ v=>by intro z;cases z⟩
        refine ⟨m',hm,i+1,acc++[yv],H8,its++[y],k+1,I10.weak wk.1.symm wk.2,rv.append (.cons ry .nil),by rw [bn,d5];omega,?_,f8,w8⟩;exact T.keep _ _ _ t8 λ b hb' o e=>oth b o (Ne.symm (neD b hb')) e
  exact codeAny_compStart_list loop (T.self _ 0 _ _ _ st₁ loop)
theorem CompScope.clos{fr:List (Option Nat)}(S:CompScope X N scope fr)(I:Inv X pins σ H s):closureFor scope X.env=pure (eh X.env.cells scope.names []):=
 zax λ x hx=>I.ok.has x (.inl (S.fre x hx))
theorem tU{σ₀:St}(I:Inv X pins σ₀ H s2)(I':Inv X pins σ H' s')(hC:H' (s2.heap.objs.size+1)=none)(hs:Heap.SameBut (s2.heap.objs.size+1) s'.heap h'):Inv X pins σ H' { s' with heap:=h' }:=by
 obtain ⟨f1,f2,f3,f4,f5,f6⟩:=I.fpOk (H':=H') (b:=s2.heap.objs.size+1) (Nat.le_succ _) hC;exact I'.turned (t':=s'.toks) (λ b o hb e=>(hs.2 b hb).trans e) hC f2 f4 f5 f6
def sA(CX:CXT)(X:Cx)(N:List Str)(scope:Scope)(E:XK):Prop:=∀ (fp:List Addr) (s:Shared) (H:Hp) (pins:List (Addr × Obj)) (σ:St),Inv X pins σ H s->(∀ b∈fp,eU X pins H b)->
 cV CX (bo X N scope (s.heap.objs.size+1) fp s H) E
theorem zfZ{E:XK}{fr:List (Option Nat)}(S:CompScope X N scope fr)(hc:X.calm=true)(hp:sA CX X N scope E)(hi:PI X tg iter wi)(hb:∀ C fp s H,cV CX (bo X N scope C fp s H) E->PG (bo X N scope C fp s H) tg g/\fW (bo X N scope C fp s H) ifs tc/\PE (bo X N scope C fp s H) elt te)(hs:∀ x,foldedSetIterable iter X.env x=pure x:=by intro _;rfl):
  PE X (.ListComp elt [⟨tg,iter,ifs,0⟩] scope pos) (lV fr wi g tc te):=by
 intro pins s σ H Q I h;rw [eval_ListComp];refine wpAny_comprehension_free (use:=none) rfl hs (S.clos I) S.kind S.loc (thn (hi pins s σ H _ I h) λ v s1 h1=>thn h1 λ itv s2 h2=>?_);obtain ⟨it,fp,tn,J,H2,e,I2,T,st2,f2,W,⟨m0,w0⟩,turn⟩:=h2;subst e;refine tS (Qe:=λ acc H=>∀ p,H p=none->Q (.ref p) (upd H p (.lst acc))) (RR:=λ acc C=>compPost (model X.prog X.w) X.A X.xe none (EP X pins σ Q) acc C) S hc (hb _ _ _ _ (hp fp s2 H2 pins σ I2 f2)) I2 T st2 f2 w0 turn ?_ λ x s' q=>q;intro s' acc H' m I' hn hD hC q;refine ⟨m,hn,λ h' hs'=>⟨.ref s2.heap.objs.size,_,tU I2 I' ?_ hs',rfl,q _ hD⟩⟩;rw [aj (Nat.ne_of_gt (Nat.lt_succ_self _))];exact hC
theorem ly{fr:List (Option Nat)}(S:CompScope X N scope fr)(hc:X.calm=true)(hi:PI X tg iter wi)(hb:∀ C fp s H,PG (bo X N scope C fp s H) tg g/\fW (bo X N scope C fp s H) ifs tc/\PE (bo X N scope C fp s H) elt te)(hs:∀ x,foldedSetIterable iter X.env x=pure x:=by intro _;rfl):
  PE X (.ListComp elt [⟨tg,iter,ifs,0⟩] scope pos) (lV fr wi g tc te):=
 zfZ (CX:=λ _ _ _ _ _ _=>False) (E:=λ _ _ _=>False) S hc (λ _ _ _ _ _ _ _ _ _ _ _ _ _ _ q=>q.elim) hi (λ C fp s H _=>hb C fp s H) hs
theorem zgk{E:XK}{fr:List (Option Nat)}(hN:X.N.Nodup)(hi':X.N[i]?=some y)(hx:Loc X.env.scope y)(S:CompScope X N scope fr)(hc:X.calm=true)(hp:sA CX X N scope E)(hi:PI X tg iter wi)(hb:∀ C fp s H,cV CX (bo X N scope C fp s H) E->PG (bo X N scope C fp s H) tg g/\fW (bo X N scope C fp s H) ifs tc/\PE (bo X N scope C fp s H) elt te)(hsw:swapsWith (.ListComp elt [⟨tg,iter,ifs,0⟩] scope pos) (some (.Name y py)) spos.line X.env=pure true:=by rfl)(hf:X.fn y=true\/X.env.scope.names.lookup y=some .local:=by first | exact .inl rfl | exact .inr rfl | assumption)(hs:∀ x,foldedSetIterable iter X.env x=pure x:=by intro _;rfl):
  PS X (.Assign [.Name y py] (.ListComp elt [⟨tg,iter,ifs,0⟩] scope pos) spos) (j8 (lV fr wi g tc te) (dS i)):=by
 intro pins s σ H D I h;rw [exec_Assign_Name_used _ _ _ _ hsw];refine ao (wpAny_standAt (ao ?_));show wpAny _ X.A (do let _ ← comprehension (.ListComp elt [⟨tg,iter,ifs,0⟩] scope pos) scope X.env _ (newList []) false (eval iter X.env) (some (assign (.Name y py) X.env))) _ _ s;refine ao (wpAny_mono (wpAny_comprehension_free (use:=some (assign (.Name y py) X.env)) (Q:=λ _ s'=>SP X pins D .next s') rfl hs (S.clos I) S.kind S.loc
  (thn (hi pins s σ H _ I h) λ v s1 h1=>thn h1 λ itv s2 h2=>?_)) (λ _ s' hq=>aL (aL hq)) λ _ _ e=>e)
 obtain ⟨it,fp,tn,J,H2,e,I2,T,st2,f2,W,⟨m0,w0⟩,turn⟩:=h2;subst e;refine tS (Qe:=λ acc H=>∀ p,H p=none->dS i (.ref p) σ (upd H p (.lst acc)) D.nx) (RR:=λ acc C=>compPost (model X.prog X.w) X.A X.xe (some (assign (.Name y py) X.env)) (λ _ s'=>SP X pins D .next s') acc C) S hc (hb _ _ _ _ (hp fp s2 H2 pins σ I2 f2)) I2 T st2 f2 w0 turn ?_ λ x s' q=>q;intro s' acc H' m I' hn hD hC q;show wpAny _ X.A (assign (.Name y py) X.env (.ref s2.heap.objs.size)) _ _ _;refine wpAny_assign_Name (xP (v:=.ref s2.heap.objs.size) I' hN hi' hx rfl (λ s'' I'' hsb=>?_) hf);obtain ⟨a,hsb,ha⟩:=hsb;have hCa:s2.heap.objs.size+1≠a:=by
  rcases ha with ha | ha
  ·rw [ha];exact Nat.ne_of_gt (Nat.lt_succ_of_lt I2.lt)
  ·obtain ⟨v,o,ho,_⟩:=I2.cell y a ha;exact Nat.ne_of_gt (Nat.lt_succ_of_lt (aS ho))
 refine ⟨m,hn.sameBut hsb hCa,λ h' hs'=>⟨_,_,tU I2 I'' ?_ hs',q _ hD⟩⟩;rw [aj (Nat.ne_of_gt (Nat.lt_succ_self _))];exact hC
theorem zgj{fr:List (Option Nat)}(hN:X.N.Nodup)(hi':X.N[i]?=some y)(hx:Loc X.env.scope y)(S:CompScope X N scope fr)(hc:X.calm=true)(hi:PI X tg iter wi)(hb:∀ C fp s H,PG (bo X N scope C fp s H) tg g/\fW (bo X N scope C fp s H) ifs tc/\PE (bo X N scope C fp s H) elt te)(hsw:swapsWith (.ListComp elt [⟨tg,iter,ifs,0⟩] scope pos) (some (.Name y py)) spos.line X.env=pure true:=by rfl)(hf:X.fn y=true\/X.env.scope.names.lookup y=some .local:=by first | exact .inl rfl | exact .inr rfl | assumption)(hs:∀ x,foldedSetIterable iter X.env x=pure x:=by intro _;rfl):
  PS X (.Assign [.Name y py] (.ListComp elt [⟨tg,iter,ifs,0⟩] scope pos) spos) (j8 (lV fr wi g tc te) (dS i)):=
 zgk (CX:=λ _ _ _ _ _ _=>False) (E:=λ _ _ _=>False) hN hi' hx S hc (λ _ _ _ _ _ _ _ _ _ _ _ _ _ _ q=>q.elim) hi (λ C fp s H _=>hb C fp s H) hsw hf hs
def CXr(P:Program)(w:World):CXT:=λ outer H s E e s'=>
 ∃ (a:Addr) (cls a0:Value) (H':Hp) (B:Heap),e = .ref a/\s'.os=s.os/\AllBare s'.gens/\Heap.FlyingW B outer a cls a0 s'.heap/\H' a=none/\
  Un (frs outer) [] H H' s.heap s'.heap/\HOk P w H' B/\(∀ b o,s.heap.get? b=some o->b∉frs outer->∃ o',B.get? b=some o'/\(H b=none->o'=o))/\E cls none H'
theorem ObjOk.there(x:ObjOk P w H h a o):∃ ob,h.get? a=some ob:=by
 cases o with
 | lst xs=>obtain ⟨_,_,_,_,e⟩:=x;exact ⟨_,e⟩
 | tup xs=>obtain ⟨_,_,_,o,e,_⟩:=x;exact ⟨o,e⟩
 | dK kvs=>obtain ⟨_,_,_,_,o,_,_,e,_⟩:=x;exact ⟨o,e⟩
 | dT kvs=>obtain ⟨_,_,_,_,o,_,_,e,_⟩:=x;exact ⟨o,e⟩
 | set S n=>obtain ⟨o,_,_,_,e,_⟩:=x;exact ⟨o,e⟩
 | ins C dx fs=>obtain ⟨_,_,_,e,_⟩:=x;exact ⟨_,e⟩
 | own y=>exact x
 | xd fs=>obtain ⟨_,⟨o,_,_,e,_⟩,_⟩:=x;exact ⟨o,e⟩
 | rng lo hi=>obtain ⟨_,_,_,e⟩:=x;exact ⟨_,e⟩
 | frz ob u=>obtain ⟨e,_⟩:=x;exact ⟨_,e⟩
 | tbl ps=>exact ⟨_,x⟩
 | met f y=>exact ⟨_,x⟩
 | ext φ=>obtain ⟨_,e,_⟩:=x;exact e
theorem Un.fly{fs:List Addr}{B:Heap}(u:Un fs [] H H' h h1)(hB:B.StaysIn h2)(hu:h1.UpToSlots h2)(cond:∀ b o,h.get? b=some o->b∉fs->∃ o',B.get? b=some o'/\(H b=none->o'=o))(hf:∀ b∈fs,∃ o,h1.get? b=some o/\∀ vs,o.data≠.fields vs):Un fs [] H H' h h2 where
 keep:=λ b o e n hb _=>by
  obtain ⟨o',e',q⟩:=cond b o e hb;rw [← q n];exact hB b o' e'
 slot:=λ b o e n hb hx=>by
  obtain ⟨sl,e1⟩:=u.slot b o e n hb hx;obtain ⟨o1,e1',nf⟩:=hf b hb;rw [e1] at e1';cases e1';obtain ⟨sl2,e2⟩:=hu b _ e1 nf;exact ⟨sl2,e2⟩
 free:=u.free
 there:=λ b o e hx=>by
  by_cases hb:b∈fs
  ·obtain ⟨o1,e1,nf⟩:=hf b hb;obtain ⟨sl2,e2⟩:=hu b _ e1 nf;exact ⟨_,e2⟩
  ·obtain ⟨o',e',_⟩:=cond b o e hb;exact ⟨o',hB b o' e'⟩
 tups:=u.tups
 frzs:=u.frzs
 tbls:=u.tbls
def sB(X:Cx)(E:XK):Prop:=∀ (pins:List (Addr × Obj)) (σ:St) (H:Hp) (s:Shared) (h':Heap) (e:Addr) (cls:Value) (args:List Value),
 Inv X pins σ H s->Heap.MadeExcOf s.heap h' e cls args->E cls none H->X.xe (.ref e) { s with heap:=h' }
section
variable {f:Addr} {E:XK}
theorem fm:sB (c4 (CXr P w) P w K mg base N qual scope f cd A outer s H E) E:=by
 intro pins σ H1 s1 h' e cls args I hx hE;have hin:∀ env∈(c4 (CXr P w) P w K mg base N qual scope f cd A outer s H E).stack,∀ b,env.frame=some b->b∈frs (c4 (CXr P w) P w K mg base N qual scope f cd A outer s H E).stack:=
  λ env he b hb=>List.mem_filterMap.mpr ⟨env,he,hb⟩
 have nfr:∀ b o,H1 b=some o->b∉frs (c4 (CXr P w) P w K mg base N qual scope f cd A outer s H E).stack:=λ b o e hb=>by
  rw [I.stkFree b hb] at e;cases e
 have get:∀ b o,s1.heap.get? b=some o->b∉frs (c4 (CXr P w) P w K mg base N qual scope f cd A outer s H E).stack->(W.hideAll s1.heap (frs (c4 (CXr P w) P w K mg base N qual scope f cd A outer s H E).stack)).get? b=some o:=
  λ b o e hb=>W.hideAll_get _ e hb
 refine wpAny_leaves_madeW (base:=W.hideAll s1.heap (frs (c4 (CXr P w) P w K mg base N qual scope f cd A outer s H E).stack)) (h:=s1.heap) (env:=envOfC qual scope s.heap.objs.size f cd) (outer:=outer) I.ok.frames rfl (λ b o q=>W.of_hideAll _ q) (W.funFrames_hide I.stack hin) hx λ h2 t x1 x2 x3 x4=>?_
 -- the callee's own frame stands above its entry
 have notL:∀ b o,s.heap.get? b=some o->b∉frs outer->b∉frs (c4 (CXr P w) P w K mg base N qual scope f cd A outer s H E).stack:=λ b o e hb hs=>by
  rcases al_mc.mp (I.stkSub b hs) with z | z
  ·have:=aS e;exact absurd (bU this I.ok.above) (by rw [z];exact Nat.lt_irrefl _)
  ·exact hb z
 have B:=I.base;have cond:∀ b o,s.heap.get? b=some o->b∉frs outer->∃ o',(W.hideAll s1.heap (frs (c4 (CXr P w) P w K mg base N qual scope f cd A outer s H E).stack)).get? b=some o'/\(H b=none->o'=o):=λ b o e hb=>by
  obtain ⟨o',e1⟩:=B.there b o e (by intro z;exact absurd (show b∈([]:List Addr) from z) (by simp));refine ⟨o',get b o' e1 (notL b o e hb),λ n=>?_⟩;have:=B.keep b o e n hb (by intro z;exact absurd (show b∈([]:List Addr) from z) (by simp));rw [e1] at this;exact bL this
 refine ⟨e,cls,.ref t,H1,_,rfl,I.os,I.bare,x1,?_,?_,?_,cond,hE⟩
 ·cases q:H1 e with
  | none=>rfl
  | some o=>
   obtain ⟨ob,e1⟩:=(I.hok e o q).there;have:=hx.new;rw [e1] at this;cases this
 ·refine Un.fly (h1:=s1.heap) B x1.1 ((Heap.UpToSlots.of_keeps hx.keeps).trans x4) cond λ b hb=>?_;obtain ⟨_,o,ho,nf⟩:=I.funs.mem hb;exact ⟨o,ho,nf⟩
 ·exact λ b o e1=>(I.hok b o e1).stay (λ c u hc q=>get c u q (by
   rcases hc with z | z
   ·rw [z];exact nfr b o e1
   ·exact nfr c _ z)) (λ _ q=>q) λ _ _ q=>q
theorem c5:cV (CXr P w) (c4 (CXr P w) P w K mg base N qual scope f cd A outer s H E) E:=by
 rintro pins σ H1 s1 e s' I ⟨a,cls,a0,H',B,rfl,os,bare,hfl,ha,u,hok,cond,hE⟩;refine wpAny_leaves_onW (env:=envOfC qual scope s.heap.objs.size f cd) (outer:=outer) I.ok.frames rfl hfl λ h2 x1 x2=>?_;have u2:=u.fly x1.1 x2 cond λ b hb=>by
  obtain ⟨_,o,ho,nf⟩:=hfl.2.2.1.mem hb;exact ⟨o,ho,nf⟩
 have I2:=I.call' (s':={ s' with heap:=h2 }) os u2 (hok.kept x1.1) bare λ b hb=>absurd hb (by simp);refine ⟨a,cls,a0,H',B,rfl,I2.os,bare,x1,ha,I2.base,hok,λ b o e hb=>?_,hE⟩;have notL:b∉frs (c4 (CXr P w) P w K mg base N qual scope f cd A outer s H E).stack:=λ hs=>by
  rcases al_mc.mp (I.stkSub b hs) with z | z
  ·have:=aS e;exact absurd (bU this I.ok.above) (by rw [z];exact Nat.lt_irrefl _)
  ·exact hb z
 obtain ⟨o1,e1⟩:=I.base.there b o e (by intro z;exact absurd (show b∈([]:List Addr) from z) (by simp));obtain ⟨o',e',q⟩:=cond b o1 e1 notL;refine ⟨o',e',λ n=>?_⟩;have k:=I.base.keep b o e n hb (by intro z;exact absurd (show b∈([]:List Addr) from z) (by simp));rw [e1] at k;rw [q (I.base.free b o e n (by intro z;exact absurd (show b∈([]:List Addr) from z) (by simp)))];exact bL k
end
structure ExcC (K:W.Frag) (C:Addr):Prop where
 ex:W.excIn K C [.type "ValueError", .type "Exception", .type "BaseException", .type "object"] "ValueError.__new__" = true
theorem zcn{o:Option Obj}{f:Option Addr->ClassData->Array (Option Value)->Bool}(q:W.excIn.match_6 (λ _=>Bool) o f (λ _=>false)=true):∃ dd cd sl,o=some ⟨.type "type", dd,.cls cd,sl⟩/\f dd cd sl=true:=by
 rcases o with _ | ⟨cls,dd,data,sl⟩
 ·exact Bool.noConfusion q
 have e1:∃ tn,cls = .type tn:=by cases cls <;> first | exact ⟨_,rfl⟩ | exact Bool.noConfusion q
 obtain ⟨tn,rfl⟩:=e1;have e2:tn = "type" := by
  by_cases z:tn = "type"
  ·exact z
  ·unfold W.excIn.match_6 W.nsOkIn._sparseCasesOn_4 W.excIn._sparseCasesOn_6 at q;dsimp only at q;rw [dif_neg z] at q;exact Bool.noConfusion q
 subst e2;have e3:∃ cd,data = .cls cd:=by cases data <;> first | exact ⟨_,rfl⟩ | exact Bool.noConfusion q
 obtain ⟨cd,rfl⟩:=e3;exact ⟨dd,cd,sl,rfl,q⟩
inductive M1r (mro:List Value) (l:List (Option Value)) (g:Addr->List Value->Option Value->Option Value->Option Value->Option Value->String->Option Value->Bool):Prop
 | i (C' bm k0 k1 k2 k3 n k5:_) (_:mro = .ref C' :: bm) (_:l=[k0,k1,k2,k3,some (.builtin n),k5]) (_:g C' bm k0 k1 k2 k3 n k5=true)
theorem zcm{mro:List Value}{l:List (Option Value)}{g:Addr->List Value->Option Value->Option Value->Option Value->Option Value->String->Option Value->Bool}(q:W.excIn.match_1 (λ _ _=>Bool) mro l g (λ _ _=>false)=true):M1r mro l g:=by
 have e4:∃ C' bm,mro = .ref C' :: bm:=by
  rcases mro with _ | ⟨m,bm⟩
  ·exact Bool.noConfusion q
  ·cases m <;> first | exact ⟨_,_,rfl⟩ | exact Bool.noConfusion q
 obtain ⟨C',bm,rfl⟩:=e4;rcases l with _ | ⟨k0,_ | ⟨k1,_ | ⟨k2,_ | ⟨k3,_ | ⟨v,r⟩⟩⟩⟩⟩
 iterate 5 exact Bool.noConfusion q
 have e6:∃ n,v=some (.builtin n):=by
  rcases v with _ | v
  ·exact Bool.noConfusion q
  ·cases v <;> first | exact ⟨_,rfl⟩ | exact Bool.noConfusion q
 obtain ⟨n,rfl⟩:=e6;rcases r with _ | ⟨k5,_ | ⟨_,_⟩⟩
 ·exact Bool.noConfusion q
 ·exact ⟨C',bm,k0,k1,k2,k3,n,k5,rfl,rfl,q⟩
 ·exact Bool.noConfusion q
inductive ExcOb (h:Heap) (C:Addr):Prop
 | i (bm N nm q bs hdct sn sub ab col dd k0 k1 k2 k3 k5 mN:_) (_:h.get? C=some (excClassObj nm q C N bs bm hdct sn sub ab col dd k0 k1 k2 k3 k5 "ValueError.__new__")) (_:h.Ns N mN) (_:mN "__init__" = none) (_:OwnTail h [.type "ValueError", .type "Exception", .type "BaseException", .type "object"] bm)
theorem ExcOb.mk(X:K.In h){bm N nm q bs hdct sn sub ab col dd k0 k1 k2 k3 k5}(ho:K.lookup C=some (excClassObj nm q C N bs bm hdct sn sub ab col dd k0 k1 k2 k3 k5 "ValueError.__new__"))(ht:W.tailIn K [.type "ValueError", .type "Exception", .type "BaseException", .type "object"] bm=true)(hok:W.nsOkIn K N=true)(hni:W.nsIn K N "__init__" = some none):ExcOb h C:=
 ⟨bm,N,nm,q,bs,hdct,sn,sub,ab,col,dd,k0,k1,k2,k3,k5,_,X _ _ ho,.of_isNs (W.isNs_of_in X hok),W.nsMap_none_of_in X hok hni,W.tail_of_in X ht⟩
theorem ExcC.obj(c:ExcC K C)(X:K.In h):ExcOb h C:=by
 obtain ⟨dd,⟨nm,bs,mro,ns,qn,hd,sn,sub,ab,col,del⟩,⟨l⟩,ho,q⟩:=zcn c.ex;obtain ⟨C',bm,k0,k1,k2,k3,n,k5,rfl,rfl,q⟩:=zcm q;simp only [Bool.and_eq_true,beq_iff_eq,Bool.not_eq_true'] at q;obtain ⟨⟨⟨⟨⟨rfl,rfl⟩,rfl⟩,ht⟩,hok⟩,hni⟩:=q;exact .mk X ho ht hok hni
def ziM(E:XK)(C:Addr)(t:TA):TS:=λ _ σ H=>t σ H λ vs H1=>vs.length<=sizeLine/\E (.ref C) none H1
theorem fj{E:XK}{e0:Expr}{t:TA}(T:sB X E)(c:ExcC X.K C)(hc:X.calm=true)(hg:Gl X x)(hm:X.mg x=some (.ref C))(ha:PA X (e0::es) t)(hdb:(x == ("__debug__" : Str))=false:=by decide)(he:starEach (e0::es) X.env=(false,eval e0 X.env)::starEach es X.env:=by rfl)(hpl:(backTo cpos (starEach es X.env)).any (·.1)=false:=by rfl):
  PS X (.Raise (some (.Call (.Name x np) (e0::es) [] cpos)) none pos) (ziM E C t):=by
 intro pins s σ H D I h;obtain ⟨bm,Nn,nm,q,bs,hdct,sn,sub,ab,col,dd,k0,k1,k2,k3,k5,mN,hC,hN,hni,TL⟩:=c.obj I.ok.mod.kin;refine wpAny_Raise_call_subT (C:=C) (nm:=nm) (q:=q) (N:=Nn) (bs:=bs) (bm:=bm) (hdct:=hdct) (sn:=sn) (sub:=sub) (ab:=ab) (col:=col) (dd:=dd) (k0:=k0) (k1:=k1) (k2:=k2) (k3:=k3) (k5:=k5) (mN:=mN)
  F.excBase_ValueError (TL.hasType rfl) (I.ok.hd hc) (by rw [he];show (false || (backTo cpos (starEach es X.env)).any (·.1))=false;rw [hpl];rfl) hni (fw I hg hm ⟨rfl,?_⟩ hdb)
 have key:=ha cpos pins s σ H _ I h;rw [he] at key ⊢;refine Calls.evalArgs_plain (wpAny_mono key (λ us s2 ⟨vs,H2,I2,r2,hl,q2⟩=>⟨rfl,by rw [← r2.length];exact hl,I2.bk _ _ hC,hN.keeps I2.bk,TL.keeps I2.bk,λ h' e hx=>?_⟩) λ _ _ y=>y);exact T pins σ H2 s2 h' e _ _ I2 hx q2
def ft(a:Addr)(cls:Value):HO:=.ext λ h=>∃ o vs,h.get? a=some o/\o.cls=cls/\o.data = .fields vs
theorem zaQ{o:Obj}{vs:Array Value}(e:h.get? a=some o)(hc:o.cls=cls)(hd:o.data = .fields vs):ObjOk P w H h a (ft a cls):=
 ⟨⟨o,vs,e,hc,hd⟩,⟨o,e⟩,λ h1 h2 ⟨o',vs',e',c',d'⟩ k=>⟨o',vs',k o' e',c',d'⟩⟩
theorem Inv.track(I:Inv X pins σ H s)(hn:H a=none)(hs:X.s₀.heap.get? a=none)(hL:a≠X.env.locals)(hc:∀ x c,X.env.cells.lookup x=some c->c≠a)(hp:∀ p∈X.pn++pins,p.1≠a)(new:ObjOk X.prog X.w (upd H a o) s.heap a o):Inv X pins σ (upd H a o) s:=by
 have ne0:∀ b ob,X.s₀.heap.get? b=some ob->b≠a:=λ b ob e z=>by rw [z,hs] at e;cases e
 have neH:∀ b u,H b=some u->b≠a:=λ b u e z=>by rw [z,hn] at e;cases e
 refine ⟨I.ok,I.os,I.bare,⟨I.base.keep,I.base.slot,λ b ob e n hx=>by rw [aj (ne0 b ob e)];exact I.base.free b ob e n hx,I.base.there,λ b xs e=>?_,λ b ob u e=>?_,λ b ps e=>?_⟩,
  I.loc,I.cell,by rw [aj (Ne.symm hL)];exact I.free,λ x c e=>by rw [aj (hc x c e)];exact I.freeC x c e,λ p h=>?_,λ b u e=>?_,I.len⟩
 ·have q:=I.base.tups b xs e;rw [aj (neH b _ q)];exact q
 ·have q:=I.base.frzs b ob u e;rw [aj (neH b _ q)];exact q
 ·obtain ⟨m,q⟩:=I.base.tbls b ps e;exact ⟨m,by rw [aj (neH b _ q)];exact q⟩
 ·obtain ⟨q1,q2,q3⟩:=I.pin p h;exact ⟨q1,by rw [aj (hp p h)];exact q2,q3⟩
 ·by_cases hb:b=a
  ·subst hb;rw [ag] at e;cases e;exact new
  ·rw [aj hb] at e;exact (I.hok b u e).stay (λ c v _ q=>q) (λ c q=>by rw [aj (neH c _ q)];exact q) λ c xs q=>by rw [aj (neH c _ q)];exact q
theorem Inv.locals{h':Heap}{m':Str->Option Value}{σ':St}{t':Nat}(I:Inv X pins σ H s)(hs:Heap.SameBut X.env.locals s.heap h')(hn:h'.Ns X.env.locals m')(hl:σ'.length=σ.length)(hm:∀ (j:Nat) (y:Str) (v:V),X.N[j]?=some y->σ'[j]?=some (some v)->Vis X.env.scope y->∃ u,RelV v u/\sw X.env h' m' y u):Inv X pins σ' H { s with heap:=h',toks:=t' }:=by
 have neL:∀ b o,X.s₀.heap.get? b=some o->b≠X.env.locals:=λ b o e=>be (bU (aS e) I.ok.above);refine ⟨I.ok,I.os,I.bare,⟨λ b o e n hb hx=>(hs.2 b (neL b o e)).trans (I.base.keep b o e n hb hx),λ b o e n hb hx=>?_,I.base.free,λ b o e hx=>?_,I.base.tups,I.base.frzs,I.base.tbls⟩,
  ⟨m',hn,hm⟩,λ y c e=>?_,I.free,I.freeC,λ p hp=>?_,λ b u e=>?_,hl.trans I.len⟩
 ·obtain ⟨sl,q⟩:=I.base.slot b o e n hb hx;exact ⟨sl,(hs.2 b (neL b o e)).trans q⟩
 ·obtain ⟨o',q⟩:=I.base.there b o e hx;exact ⟨o',(hs.2 b (neL b o e)).trans q⟩
 ·obtain ⟨v,z⟩:=I.cell y c e;exact ⟨v,z.sameBut hs (I.cne y c e)⟩
 ·obtain ⟨q1,q2,q3,q4⟩:=I.pin p hp;exact ⟨(hs.2 p.1 q3).trans q1,q2,q3,q4⟩
 ·refine (I.hok b u e).stay (λ c v hc q=>(hs.2 c ?_).trans q) (λ _ q=>q) λ _ _ q=>q;rintro rfl;rcases hc with z | z
  ·rw [← z,I.free] at e;cases e
  ·rw [I.free] at z;cases z
theorem vq{n:Str}{Q:Unit->Shared->Prop}(I:Inv X pins σ H s)(hN:X.N.Nodup)(hi:X.N[i]?=some n)(hl:X.env.scope.names.lookup n=some .local)(h:∀ s',Inv X pins (σ.set i none) H s'->Q () s'):wpAny M A (do bindName X.env n .none;unbindBehindTheSuite X.env n pos) Q E s:=by
 refine ao (wpAny_bindName (j6 (v:=.non) I hN hi (.inl hl) rfl (λ s1 I1=>?_) (.inr hl)));have hiσ:i < σ.length:=by rw [I.len];exact (al_gs.mp hi).1
 unfold unbindBehindTheSuite;refine wpAny_onRaise ?_;obtain ⟨m,hn,hm⟩:=I1.loc;have hv:∃ u,m n=some u:=by
  obtain ⟨u,_,q⟩:=hm i n .non hi (by rw [List.getElem?_set_self hiσ]) (.inl hl);rcases q with ⟨_,q⟩ | ⟨k,_⟩
  ·exact ⟨u,q⟩
  ·have k:X.env.scope.names.lookup n=some .cell\/X.env.scope.names.lookup n=some .free:=k;rw [hl] at k;rcases k with k | k <;> cases k
 obtain ⟨u,hv⟩:=hv;refine wpAny_unbindName_local hl hn hv (by rw [I.ok.kind];rfl) λ h' u' hn' hs'=>h _ (I1.locals (t':=s1.toks) hs' hn' (by simp) λ j y v e1 e2 e3=>?_);have hj:j≠i:=λ z=>by
  subst z;rw [List.getElem?_set_self hiσ] at e2;cases e2
 rw [List.getElem?_set_ne (Ne.symm hj)] at e2;obtain ⟨u2,r2,q⟩:=hm j y v e1 (by rw [List.getElem?_set_ne (Ne.symm hj)];exact e2) e3;refine ⟨u2,r2,?_⟩;rcases q with ⟨k,e⟩ | ⟨k,c,e,z⟩
 ·refine .inl ⟨k,?_⟩;have:y≠n:=λ e=>hj (fO hN e1 (e ▸ hi));show (if y=n then u' else m y)=some u2;rw [if_neg this];exact e
 ·exact .inr ⟨k,c,e,z.sameBut hs' (I1.cne y c e)⟩
def gu(X:Cx)(pn:List (Addr × Obj))(xe:Value->Shared->Prop):Cx:={ X with pn:=pn,xe:=xe }
def gt(X:Cx)(a:Addr):Cx:={ X with A:=X.A.mark (some (.ref a)),calm:=false,xe:=λ _ _=>False }
section
variable {xe:Value->Shared->Prop}
theorem Cx.Ok.toTry(ok:X.Ok):(gu X pn xe).Ok:=
 ⟨ok.mod,ok.kind,ok.glob,ok.blt,ok.above,ok.inj,ok.has,ok.cab,ok.hd,ok.frames,ok.stk,ok.exf,ok.bs,ok.bsz,ok.noex,ok.exfs,ok.funs,ok.frf⟩
theorem Cx.Ok.ofTry(ok:(gu X pn xe).Ok):X.Ok:=
 ⟨ok.mod,ok.kind,ok.glob,ok.blt,ok.above,ok.inj,ok.has,ok.cab,ok.hd,ok.frames,ok.stk,ok.exf,ok.bs,ok.bsz,ok.noex,ok.exfs,ok.funs,ok.frf⟩
theorem Inv.toTry(I:Inv X pins σ H s):Inv (gu X (X.pn++pins) xe) [] σ H s:=
 ⟨I.ok.toTry,I.os,I.bare,I.base,I.loc,I.cell,I.free,I.freeC,λ p hp=>I.pin p (by simpa [gu] using hp),I.hok,I.len⟩
theorem Inv.ofTry(I:Inv (gu X (X.pn++pins) xe) pins' σ H s):Inv X pins σ H s:=
 ⟨I.ok.ofTry,I.os,I.bare,I.base,I.loc,I.cell,I.free,I.freeC,λ p hp=>I.pin p (List.mem_append_left _ hp),I.hok,I.len⟩
theorem Cx.Ok.toSuite(ok:X.Ok):(gt X a).Ok:=
 ⟨ok.mod,ok.kind,ok.glob,ok.blt,ok.above,ok.inj,ok.has,ok.cab,λ z=>Bool.noConfusion z,ok.frames,ok.stk,ok.exf,ok.bs,ok.bsz,ok.noex,ok.exfs,ok.funs,ok.frf⟩
theorem Cx.Ok.ofSuite(hd:X.calm=true->X.A.handled=none)(ok:(gt X a).Ok):X.Ok:=
 ⟨ok.mod,ok.kind,ok.glob,ok.blt,ok.above,ok.inj,ok.has,ok.cab,hd,ok.frames,ok.stk,ok.exf,ok.bs,ok.bsz,ok.noex,ok.exfs,ok.funs,ok.frf⟩
theorem Inv.toSuite(I:Inv X pins σ H s):Inv (gt X a) pins σ H s:=
 ⟨I.ok.toSuite,I.os,I.bare,I.base,I.loc,I.cell,I.free,I.freeC,I.pin,I.hok,I.len⟩
theorem Inv.ofSuite(hd:X.calm=true->X.A.handled=none)(I:Inv (gt X a) pins σ H s):Inv X pins σ H s:=
 ⟨I.ok.ofSuite hd,I.os,I.bare,I.base,I.loc,I.cell,I.free,I.freeC,I.pin,I.hok,I.len⟩
def ziU(K:W.Frag)(R:Addr)(nN i:Nat)(tb:XK->TS)(ts:TS):TS:=λ D σ H=>
 tb (λ cls _ H'=>W.exmOne K cls (.ref R)=some true/\∀ a,H' a=none->
  ts { nx:=λ σ2 H2=>D.nx (σ2.set i none) H2,rt:=D.rt } ((List.replicate nN none).set i (some (.ref a))) (upd H' a (ft a cls))) D σ H
theorem zgl{R:Addr}{n:Str}{hpos:Pos}{b0:Stmt}{suite:List Stmt}{tb:XK->TS}{ts:TS}(hst:X.stack=X.env::X.outer)(hfr:X.env.frame=some X.env.locals)(hex:X.ex=[])(hN:X.N.Nodup)(hi:X.N[i]?=some n)(hl:X.env.scope.names.lookup n=some .local)(hg:Gl X x)(hm:X.mg x=some (.ref R))(hb:∀ pn xe E,cV (CXr X.prog X.w) (gu X pn xe) E->PSs (gu X pn xe) body (tb E))(hs:∀ a,PSs (gt X a) (b0::suite) ts)(hdb:(x == ("__debug__" : Str))=false:=by decide):
  PS X (.Try body [.ExceptHandler (some (.Name x np)) (some n) (b0::suite) hpos] [] [] pos) (ziU X.K R X.N.length i tb ts):=by
 intro pins s σ H D I h;refine wpAny_Try_except ?_;have frames:X.A.frames=some (X.env::X.outer):=by rw [← hst];exact I.ok.frames
 have pass:cV (CXr X.prog X.w) (gu X (X.pn++pins) (λ e s₁=>wpAny (model X.prog X.w) X.A (noteFrame e X.env) (λ _ s₂=>wpAny (model X.prog X.w) X.A (setFlight e none) (λ _ s₃=>
   wpAny (model X.prog X.w) X.A (handleBy e X.env [.ExceptHandler (some (.Name x np)) (some n) (b0::suite) hpos]) (SP X pins D) X.xe s₃) X.xe s₂) X.xe s₁))
   (λ cls _ H'=>W.exmOne X.K cls (.ref R)=some true/\∀ a,H' a=none->
    ts { nx:=λ σ2 H2=>D.nx (σ2.set i none) H2,rt:=D.rt } ((List.replicate X.N.length none).set i (some (.ref a))) (upd H' a (ft a cls))):=by
  rintro pins' σ' H1 s1 e s' I' ⟨a,cls,a0,H',B,rfl,os,bare,hfl,ha,u,hok,cond,hE1,hE2⟩;have IX:Inv X pins σ' H1 s1:=I'.ofTry;have hfl':Heap.FlyingW B (X.env::X.outer) a cls a0 s'.heap:=hst ▸ hfl;have fr':∀ b∈frs X.stack,∃ o,s'.heap.get? b=some o/\∀ vs,o.data≠.fields vs:=λ b hb'=>by
   obtain ⟨_,o,ho,nf⟩:=hfl.2.2.1.mem hb';exact ⟨o,ho,nf⟩
  have fresh:s1.heap.get? a=none:=by
   cases q:s1.heap.get? a with
   | none=>rfl
   | some o=>
    by_cases hb':a∈frs X.stack
    ·obtain ⟨o',ho',nf⟩:=fr' a hb';obtain ⟨oe,vs,_,_,_,he,_,hd,_⟩:=hfl.2.2.2;rw [ho'] at he;cases he;exact absurd hd (nf vs)
    ·obtain ⟨o',e',_⟩:=cond a o q hb';have:=hfl.2.1;rw [e'] at this;cases this
  show wpAny (model X.prog X.w) X.A (noteFrame (.ref a) X.env) _ _ s';refine wpAny_looks_onW frames hfr hfl' λ h4 held4 sm4=>?_;refine wpAny_landsW held4 λ h5 fl5 sm5=>?_;have I5:Inv X pins σ' H' { s' with heap:=h5 }:=IX.call' (s':={ s' with heap:=h5 }) os (u.fly fl5.1 (sm4.trans sm5) cond fr') (hok.kept fl5.1) bare λ b z=>absurd z (by simp);obtain ⟨ob,hob,hobc⟩:=fl5.there;have I5s:Inv (gt X a) pins σ' H' { s' with heap:=h5 }:=I5.toSuite;refine wpAny_handleBy_cons (codeAny_handlers_test (fw I5s hg hm ?_ hdb)) (by intro q;cases q);refine (W.exm_one I5.kIn (hobc ▸ (W.Looks.ld hob).andThen .now) hE1).here ?_;show codeAny _ _ _ _ _;refine codeAny_handlers_suite_as ?_;refine lands_againW fl5 λ h6 fl6 sm6=>?_;have I6:Inv X pins σ' H' { s' with heap:=h6 }:=IX.call' (s':={ s' with heap:=h6 }) os (u.fly fl6.1 ((sm4.trans sm5).trans sm6) cond fr') (hok.kept fl6.1) bare λ b z=>absurd z (by simp);have I6w:Inv X pins (List.replicate X.N.length none) H' { s' with heap:=h6 }:=I6.weak (by rw [d7,I6.len]) λ j v e=>by
   rw [List.getElem?_replicate] at e
   split at e <;> cases e
  obtain ⟨oe,vs,_,_,_,he6,⟨hc6,_⟩,hd6,_⟩:=fl6.2.2.2;have I7:Inv X pins (List.replicate X.N.length none) (upd H' a (ft a cls)) { s' with heap:=h6 }:=by
   refine I6w.track ha ?_ ?_ (λ y c e z=>?_) (λ p hp z=>?_) (zaQ he6 hc6 hd6)
   ·cases q:X.s₀.heap.get? a with
    | none=>rfl
    | some o=>
     obtain ⟨o',e'⟩:=IX.base.there a o q (by rw [hex];simp);rw [fresh] at e';cases e'
   ·rintro rfl;obtain ⟨m,⟨o,_,_,ho,_⟩,_⟩:=IX.loc;rw [fresh] at ho;cases ho
   ·obtain ⟨v,o,ho,_⟩:=IX.cell y c e;rw [z,fresh] at ho;cases ho
   ·have:=(IX.pin p hp).1;rw [z,fresh] at this;cases this
  have I7s:Inv (gt X a) pins (List.replicate X.N.length none) (upd H' a (ft a cls)) { s' with heap:=h6 }:=I7.toSuite;refine j6 (X:=gt X a) (v:=.ref a) I7s hN hi (.inl hl) rfl (λ s8 I8=>?_) (.inr hl);refine wpAny_mono (hs a pins s8 _ _ _ I8 (hE2 a ha)) (λ f s9 q9=>?_) (λ _ _ z=>z.elim);cases f with
  | next=>
   obtain ⟨σ9,H9,I9,q⟩:=q9;exact vq (I9.ofSuite I.ok.hd) hN hi hl λ s10 I10=>⟨_,_,I10,q⟩
  | ret v=>
   obtain ⟨v9,σ9,H9,I9,rv,q⟩:=q9;exact vq (I9.ofSuite I.ok.hd) hN hi hl λ s10 I10=>⟨_,_,_,I10,rv,q⟩
  | brk=>
   obtain ⟨_,_,_,q⟩:=q9;exact False.elim q
  | cont=>
   obtain ⟨_,_,_,q⟩:=q9;exact False.elim q
 refine wpAny_mono (hb _ _ _ pass [] s σ H D I.toTry h) (λ f s1 q=>?_) λ e s1 q=>q;cases f with
 | next=>
  obtain ⟨σ1,H1,I1,q⟩:=q;exact wpAny_execs_nil ⟨σ1,H1,I1.ofTry,q⟩
 | ret v=>
  obtain ⟨v1,σ1,H1,I1,rv,q⟩:=q;exact ⟨v1,σ1,H1,I1.ofTry,rv,q⟩
 | brk=>
  obtain ⟨σ1,H1,I1,q⟩:=q;exact ⟨σ1,H1,I1.ofTry,q⟩
 | cont=>
  obtain ⟨σ1,H1,I1,q⟩:=q;exact ⟨σ1,H1,I1.ofTry,q⟩
end
structure gN (K:W.Frag) (C:Addr):Prop where
 cl:(W.clsIn K C).isSome=true
 ga:W.findIn K (.ref C) "__getattribute__" = some (some (.builtin "BaseException.__getattribute__"))
 gn:W.findIn K (.ref C) "__getattr__" = some none
 ca:W.findIn K (.ref C) "__class__" = some (some (.builtin "object.__class__"))
 cg:W.specialIn K (.builtin "object.__class__") "__get__" = some (some (.builtin "getset_descriptor.__get__"))
 ck:W.takesIn K (.builtin "object.__class__")=some true
 cm:W.mroIn K C (.type "object")=some true
 sb:W.subIn K (.ref C) (.type "BaseException")=some true
inductive ExcAt (x C:Addr) (h:Heap):Prop
 | i (o vs:_) (_:h.get? x=some o) (_:o.cls = .ref C) (_:o.data = .fields vs)
theorem ExcAt.ty{x:Addr}(p:ExcAt x C h):W.Looks M h (typeOf (.ref x)) (.ref C):=by
 obtain ⟨o,vs,e,hc,_⟩:=p;exact hc ▸ (W.Looks.ld e).andThen .now
section
open Builtin Builtin.ObjectAttr Builtin.Getset_descriptor
variable {x:Addr}
theorem zaR{Q:Option Value->Shared->Prop}(k:gN K C)(X:K.In s.heap)(I:ExcAt x C s.heap)(h:Q (some (.ref C)) { s with toks:=s.toks+1 }):
  wpAny (model prog w) A (getAttr? (.ref x) "__class__") Q E s:=by
 obtain ⟨hh,g,d,t,os⟩:=s;have L0:=I.ty (M:=model prog w);have L1:=W.looks_findIn (M:=model prog w) X k.ga;have L2:=W.looks_findIn (M:=model prog w) X k.gn;have L3:=W.looks_findIn (M:=model prog w) X k.ca;have L4:=W.looks_specialIn (M:=model prog w) X k.cg;have L5:=W.looks_takesIn (M:=model prog w) X k.ck;have L6:=W.looks_subIn (M:=model prog w) X k.sb;have L7:=W.looks_mroIn (M:=model prog w) X k.cm;unfold getAttr? getAttrBy? getAttrBy;refine ao (wpAny_mkText (ao (wpAny_attempt (wpAny_holding (ao (L0.at (ao (L1.at ?_))))))));dsimp only;have hx2:(Value.builtin "BaseException.__getattribute__" == Value.builtin "object.__getattribute__")=false:=by decide +kernel
 rw [if_neg (by rw [hx2,Bool.and_false];exact bC)];unfold getAttrByItsOwn hookBefore;refine ao ?_;rw [if_pos (show onTheHeap (Value.ref C)=true from rfl)];refine L2.at ?_;refine ao (wpAny_attempt (wpAny_holding ?_));unfold callGetattribute boundAndCalled;rw [if_neg (show ¬ ((false && onTheHeap (Value.builtin "BaseException.__getattribute__"))=true) from bC)];refine ao (wpAny_of_eq (F.attrBase_ValueError.ga.bind (.ref x)) ?_);dsimp only;refine wpAny_call (codeAny_call_builtin F.attrBase_ValueError.ga.plain F.entry_bexc_ga ?_);have hk:builtinKind "BaseException.__getattribute__" = some .slot:=by decide +kernel
 have hsplit:splitId "BaseException.__getattribute__" = some ("BaseException", "__getattribute__"):=by decide +kernel
 have ha:=F.args_bexc_ga (.ref x) (.str "__class__" t);simp only [checkBuiltinCall,hk,hsplit];refine ao ?_;unfold isInstance;refine ao (L0.at (L6.at ?_));rw [if_neg (show ¬ ((!true)=true) from bC)];refine wpAny_of_eq ha ?_;have LF:W.Looks (model prog w) hh (Builtin.ObjectAttr.find (.ref x) (.ref C) "__class__") (.bind (.builtin "getset_descriptor.__get__") (.builtin "object.__class__")):=
  L3.andThen (L4.andThen ((show W.Looks (model prog w) hh (Builtin.ObjectAttr.dataDescriptor? (some (.builtin "object.__class__")) (some (.builtin "getset_descriptor.__get__"))) (some (.builtin "getset_descriptor.__get__", .builtin "object.__class__")) from L5.andThen .now).andThen (W.Looks.tag .now)))
 unfold Builtin.«object.__getattribute__»;refine ao (wpAny_of_eq (a:=(Value.ref x,[Value.str "__class__" t])) rfl ?_);dsimp only;refine ao (wpAny_of_eq (a:=("__class__" : Str)) rfl ?_);refine ao (L0.at (ao (LF.at ?_)));dsimp only;refine ao (wpAny_holding (wpAny_call ?_));refine codeAny_call_builtin W.KF.slot_gs.plain W.KF.entry_gs
  (W.KF.slot_gs.check _ _ _ _ _ _ _ _ W.KF.type_class (W.KF.args_gs _ _ _) ?_)
 unfold Builtin.«getset_descriptor.__get__» descrGet;rw [W.dga_obj];refine ao (aL ?_);unfold descrGetter descrCheckInstance descrNameAndClass isInstance;simp only [W.KF.owner_class]
 repeat lk
 refine ⟨Code.quiet_builtin _ (by decide +kernel),?_⟩;refine codeAny_builtin W.KF.entry_class ?_;unfold Builtin.«object.__class__» shownTypeOf
 repeat lk
 exact h
theorem zcb(k:gN K C):W.KitX K (.ref x) (.ref C) (ExcAt x C) where
 ty:=λ _ _ _ p=>p.ty
 it:=λ M h X _=>by
  obtain ⟨cd,hc⟩:=Option.isSome_iff_exists.mp k.cl;unfold W.clsIn at hc
  split at hc
  ·rename_i ho
   intro A' Q' E' s' kp q;unfold isType loadHead;exact ao (wpAny_loadPart (kp _ _ (X _ _ ho)) (aL q))
  ·cases hc
 ne:=λ h tp dd its n sl X htp=>by
  obtain ⟨cd,hc⟩:=Option.isSome_iff_exists.mp k.cl;refine Bool.eq_false_iff.mpr λ q=>?_;have e:C=tp:=Value.ref.inj (beq_iff_eq.mp q);rw [← e] at htp;unfold W.clsIn at hc
  split at hc
  ·rename_i ho
   have z:=(X _ _ ho).symm.trans htp;cases z
  ·cases hc
 ca:=λ X I h=>zaR k X I h
end
inductive iG (K:W.Frag) (H:Hp) (x c:V) (b:Bool):Prop
 | i (cv:_) (_:sD cv=some c) (_:(∀ u,RelV c u->u=cv)) (_:((∃ t,d4 K H x t/\W.kitOne K t cv=some b)\/∃ a C,x = .ref a/\H a=some (ft a (.ref C))/\gN K C/\W.kitOne K (.ref C) cv=some b))
theorem call_isi:CallR X (.builtin "isinstance") (λ xs H Q=>∃ x c b,xs=[x,c]/\iG X.K H x c b/\Q (.bl b) H):=by
 intro pins s σ H xs us Q I rv h;obtain ⟨x,c,b,rfl,⟨cv,_,hcv,h1⟩,q⟩:=h;obtain ⟨u,w',rfl,rx,rc⟩:=ji rv;cases hcv _ rc;rcases h1 with ⟨t,ty,e⟩ | ⟨a,C,rfl,ha,k,e⟩
 ·exact zbR I rx ty e λ tk=>⟨.bl b,H,I.tok tk,rfl,q⟩
 ·cases (show u=Value.ref a from rx);obtain ⟨⟨o,vs,h2,h3,h4⟩,_⟩:=(show ObjOk X.prog X.w H s.heap a (ft a (.ref C)) from I.hok a _ ha)
  exact W.kia_one (zcb k) I.kIn ⟨o,vs,h2,h3,h4⟩ e (λ z=>nomatch z) λ tk=>⟨.bl b,H,I.tok tk,rfl,q⟩
theorem sF:∀ bs:List Bool,(List.range bs.length).all (λ i=>bs.getD i false)=bs.all id
 | []=>rfl
 | b::bs=>by
  rw [bY,List.range_succ_eq_map,List.all_cons,List.all_map,List.all_cons,← sF bs];rfl
theorem tF(hc:X.calm=true):CallR X (.builtin "all") (λ xs H Q=>∃ (p:Addr) (bs:List Bool),xs=[.ref p]/\SqL X.K H p (bs.map V.bl)/\Q (.bl (bs.all id)) H):=by
 intro pins s σ H xs us Q I rv h;obtain ⟨p,bs,rfl,hq,q⟩:=h;obtain ⟨u,rfl,ru⟩:=dk rv;cases ru;obtain ⟨its,r,pl,hz⟩:=I.list hq;have lt:p < s.heap.objs.size:=by
  obtain ⟨o,_,e,_⟩:=pl;exact aS e
 have hlen:bs.length=its.length:=by
  have:=r.length
  rwa [ae] at this
 refine call_all_walk (wpAny_pyIter_list pl.isList ?_);refine ⟨_,_,_,_,_,_,λ i=>bs.getD i false,rfl,Walks.list (A:=X.A.in1) (I.ok.hd hc) _ p (be lt) its.toArray,⟨⟨_,Heap.get?_push_size _ rfl,rfl,rfl⟩,pl.isList.push _⟩,?_,λ h' tk hk=>?_⟩
 ·intro i v s' Q' E' hv hQ;have hv:its[i]?=some v:=by simpa using hv
  have hi:i < bs.length:=by rw [hlen];exact (al_gs.mp hv).1
  obtain ⟨u,hu,ru⟩:=r.get (i:=i) (x:=V.bl bs[i]) (by simp [hi]);rw [hv] at hu;cases hu;cases (show v=Value.bool bs[i] from ru);have e:bs.getD i false=bs[i]:=by simp [List.getD,hi]
  have hQ:Q' (bs.getD i false) s':=hQ;rw [e] at hQ;exact aL hQ
 ·refine ⟨.bl (bs.all id),H,I.kept (t':=tk) λ b o e=>?_,?_,q⟩
  rotate_left
  ·show _=Value.bool _;rw [aT,← hlen,sF]
  ·exact hk b o (by simpa using be (aS e)) (bf _ e)
theorem zat(hc:X.calm=true):CallR X (.builtin "max") (λ xs H Q=>∃ (p:Addr) (ns:List Int) (M:Int),xs=[.ref p]/\SqL X.K H p (ns.map V.int)/\M∈ns/\(∀ a∈ns,a<=M)/\Q (.int M) H):=by
 intro pins s σ H xs us Q I rv h;obtain ⟨p,ns,M,rfl,hq,hM,hle,q⟩:=h;obtain ⟨u,rfl,ru⟩:=dk rv;cases ru;obtain ⟨its,r,pl,hz⟩:=I.list hq;have hi:=lg r;obtain ⟨ws,e⟩:=hi.allInts.items;have en:ns=ws.toList.map (·.1):=by
  have q1:=hi.numsOf;have q2:=nums_intItems ws;rw [← e] at q2;rw [← q1];exact q2
 have hne:0 < ws.size:=by
  have:ns.length=ws.size:=by rw [en,ae,Array.length_toList]
  rw [← this];exact List.length_pos_of_mem hM
 refine max_intList (I.ok.hd hc) (e ▸ pl.isList) hne λ v h' tk hv hk=>?_;obtain ⟨t,rfl⟩:=intItems_at hv;obtain ⟨h1,h2⟩:=argBest_gt (numAt ws) (ws.size - 1);have m1:numAt ws (argBest (λ i j=>decide (numAt ws i > numAt ws j)) (ws.size - 1))∈ns:=by
  rw [en,numAt_eq];exact getD_mem (by rw [ae,Array.length_toList];omega)
 have m2:∀ a∈ns,a<=numAt ws (argBest (λ i j=>decide (numAt ws i > numAt ws j)) (ws.size - 1)):=λ a ha=>by
  rw [en] at ha;obtain ⟨j,hj,rfl⟩:=mem_getD ha;rw [ae,Array.length_toList] at hj;rw [← numAt_eq];exact h2 j (by omega)
 have eM:numAt ws (argBest (λ i j=>decide (numAt ws i > numAt ws j)) (ws.size - 1))=M:=by
  have a1:=hle _ m1;have a2:=m2 _ hM;omega
 exact ⟨.int M,H,I.kept (t':=tk) hk,⟨t,by rw [eM]⟩,q⟩
theorem tJ(hc:X.calm=true):CallR X (.builtin "min") (λ xs H Q=>∃ (p:Addr) (ns:List Int) (M:Int),xs=[.ref p]/\SqL X.K H p (ns.map V.int)/\M∈ns/\(∀ a∈ns,M<=a)/\Q (.int M) H):=by
 intro pins s σ H xs us Q I rv h;obtain ⟨p,ns,M,rfl,hq,hM,hle,q⟩:=h;obtain ⟨u,rfl,ru⟩:=dk rv;cases ru;obtain ⟨its,r,pl,hz⟩:=I.list hq;have hi:=lg r;obtain ⟨ws,e⟩:=hi.allInts.items;have en:ns=ws.toList.map (·.1):=by
  have q1:=hi.numsOf;have q2:=nums_intItems ws;rw [← e] at q2;rw [← q1];exact q2
 have hne:0 < ws.size:=by
  have:ns.length=ws.size:=by rw [en,ae,Array.length_toList]
  rw [← this];exact List.length_pos_of_mem hM
 refine min_intList (I.ok.hd hc) (e ▸ pl.isList) hne λ v h' tk hv hk=>?_;obtain ⟨t,rfl⟩:=intItems_at hv;obtain ⟨h1,h2⟩:=argBest_lt (numAt ws) (ws.size - 1);have m1:numAt ws (argBest (λ i j=>decide (numAt ws i < numAt ws j)) (ws.size - 1))∈ns:=by
  rw [en,numAt_eq];exact getD_mem (by rw [ae,Array.length_toList];omega)
 have m2:∀ a∈ns,numAt ws (argBest (λ i j=>decide (numAt ws i < numAt ws j)) (ws.size - 1))<=a:=λ a ha=>by
  rw [en] at ha;obtain ⟨j,hj,rfl⟩:=mem_getD ha;rw [ae,Array.length_toList] at hj;rw [← numAt_eq];exact h2 j (by omega)
 have eM:numAt ws (argBest (λ i j=>decide (numAt ws i < numAt ws j)) (ws.size - 1))=M:=by
  have a1:=hle _ m1;have a2:=m2 _ hM;omega
 exact ⟨.int M,H,I.kept (t':=tk) hk,⟨t,by rw [eM]⟩,q⟩
theorem uh:∀ {x:V},b9 x=true->eqV x x=true
 | .non,_=>rfl
 | .bl b,_=>by simp [eqV]
 | .int i,_=>by simp [eqV]
 | .str z,_=>by simp [eqV]
def eA:List V->List V->Bool
 | [],[]=>true
 | x::xs,y::ys=>eqV x y && eA xs ys
 | _,_=>false
theorem jz:∀ {xs:List V},xs.all b9=true->eA xs xs=true
 | [],_=>rfl
 | x::xs,h=>by
  rw [List.all_cons,Bool.and_eq_true] at h;unfold eA;rw [uh h.1,jz h.2];rfl
theorem nC:∀ {xs ys:List V},xs.length≠ys.length->eA xs ys=false
 | [],[],h=>absurd rfl h
 | [],_::_,_=>rfl
 | _::_,[],_=>rfl
 | x::xs,y::ys,h=>by
  unfold eA;rw [nC (by simpa using h),Bool.and_false]
theorem nD:∀ {xs ys:List V},xs.length=ys.length->(List.range xs.length).all (λ j=>eqV (xs.getD j .non) (ys.getD j .non))=eA xs ys
 | [],[],_=>rfl
 | x::xs,y::ys,h=>by
  have h':xs.length=ys.length:=by simpa using h
  rw [bY,List.range_succ_eq_map,List.all_cons,List.all_map];unfold eA;rw [← nD h'];rfl
 | [],_::_,h=>by simp at h
 | _::_,[],h=>by simp at h
theorem zfJ(hu:X.A.units < cLine):OpR X (compareOp .Eq) (λ x y H Q=>∃ (p q:Addr) (xs ys:List V),x = .ref p/\y = .ref q/\SqL X.K H p xs/\SqL X.K H q ys/\xs.all b9=true/\ys.all b9=true/\Q (.bl (eA xs ys)) H):=by
 intro pins s σ H x y v u Q I rx ry h;obtain ⟨p,q,xs,ys,rfl,rfl,hp,hq,fx,fy,k⟩:=h;cases rx;cases ry;obtain ⟨its,r,pl,_⟩:=I.list hp;obtain ⟨its2,r2,pl2,_⟩:=I.list hq;have l1:=r.length;have l2:=r2.length;by_cases e:xs.length=ys.length
 ·refine SeqAt.eq_listAt (e:=λ j=>eqV (xs.getD j .non) (ys.getD j .non)) pl.isList pl2.isList (by rw [aT,aT];omega) hu (λ j h1 h2=>?_) ?_
  ·rw [aT] at h1 h2;obtain ⟨a,ha,ra⟩:=r.get (i:=j) (x:=xs[j]'(by omega)) (by simp);obtain ⟨b,hb,rb⟩:=r2.get (i:=j) (x:=ys[j]'(by omega)) (by simp);have ea:its.toArray[j]=a:=by
    have:its[j]?=some its[j]:=by simp
    rw [this] at ha;simpa using bL ha
   have eb:its2.toArray[j]=b:=by
    have:its2[j]?=some its2[j]:=by simp
    rw [this] at hb;simpa using bL hb
   rw [ea,eb];have g1:xs.getD j .non=xs[j]'(by omega):=by simp [List.getD,show j < xs.length by omega]
   have g2:ys.getD j .non=ys[j]'(by omega):=by simp [List.getD,show j < ys.length by omega]
   rw [g1,g2];exact kR ra rb (al_ae.mp fx _ (List.getElem_mem _)) (al_ae.mp fy _ (List.getElem_mem _))
  ·refine ⟨.bl (eA xs ys),H,I,?_,k⟩;show _=Value.bool _;rw [aT,← l1,nD e]
 ·refine SeqAt.eq_list_lengthsAt pl.isList pl2.isList (by rw [aT,aT];simp;omega) hu ⟨.bl (eA xs ys),H,I,?_,k⟩;rw [nC e];rfl
theorem zc8:MtR X "list.count" (λ x vs H Q=>∃ (p:Addr) (xs:List V) (y:V),x = .ref p/\vs=[y]/\H p=some (.lst xs)/\xs.all b9=true/\b9 y=true/\Q (.int (xs.countP λ z=>eqV z y)) H):=by
 intro pins s σ H x vs v us Q I rx rv h;obtain ⟨p,xs,y,rfl,rfl,hH,fx,fy,q⟩:=h;cases rx;obtain ⟨u,rfl,ru⟩:=rv.one;obtain ⟨z,its,n,r,hl,e⟩:=I.lstM hH;refine call_meets F.slot_list_count ⟨_,e,rfl⟩ F.entry_list_count (F.args_list_count_2 _ _) (SeqAt.list_countAt p its.toArray n none #[] u (eqU y)) ⟨e,λ w hw=>gz ru fy r fx w (by simpa using hw),?_⟩;refine ⟨.int (xs.countP λ z=>eqV z y),H,I.tok _,⟨s.toks,?_⟩,q⟩;have:∀ {xs:List V} {us:List Value},Vals xs us->xs.all b9=true->us.countP (eqU y)=xs.countP λ z=>eqV z y:=by
  intro xs us r;induction r with
  | nil=>intro _;rfl
  | @cons a b l1 l2 h t ih=>
   intro f;rw [List.all_cons,Bool.and_eq_true] at f;rw [List.countP_cons,List.countP_cons,ih f.2,jy h f.1]
 rw [show its.toArray.toList=its from rfl,this r fx]
theorem ou:MtR X "list.index" (λ x vs H Q=>∃ (p:Addr) (xs:List V) (y:V) (j:Nat),x = .ref p/\vs=[y]/\H p=some (.lst xs)/\xs.all b9=true/\b9 y=true/\
  (∃ z,xs[j]?=some z/\eqV z y=true)/\(∀ m z,m < j->xs[m]?=some z->eqV z y=false)/\Q (.int j) H):=by
 intro pins s σ H x vs v us Q I rx rv h;obtain ⟨p,xs,y,j,rfl,rfl,hH,fx,fy,⟨z0,hz0,ez0⟩,hno,q⟩:=h;cases rx;obtain ⟨u,rfl,ru⟩:=rv.one;obtain ⟨z,its,n,r,hl,e⟩:=I.lstM hH;have hj:j < xs.length:=(al_gs.mp hz0).1;have val:∀ (m:Nat) (hm:m < its.length),∃ zz,xs[m]?=some zz/\eqU y its[m]=eqV zz y:=λ m hm=>by
  have hm':m < xs.length:=by omega
  obtain ⟨a,ha,ra⟩:=r.get (i:=m) (x:=xs[m]) (by simp [hm']);have:its[m]?=some its[m]:=by simp
  rw [this] at ha;cases ha;exact ⟨xs[m],by simp [hm'],jy ra (al_ae.mp fx _ (List.getElem_mem _))⟩
 refine call_meets F.slot_list_index ⟨_,e,rfl⟩ F.entry_list_index (F.args_list_index_2 _ _) (SeqAt.list_indexAt p its.toArray n none #[] u (eqU y) j (by rw [aT];omega) ?_ ?_ ?_) ⟨e,λ w hw=>gz ru fy r fx w (by simpa using hw),?_⟩
 ·have:=hJ;have:(j:Int) < 2 ^ 62:=by
   have s1:sizeLine < 2 ^ 62:=by rw [sizeLine_eq];decide
   omega
  omega
 ·obtain ⟨zz,e1,e2⟩:=val j (by omega);rw [hz0] at e1;cases e1;simpa using e2.trans ez0
 ·intro m hm hlt;rw [aT] at hm;obtain ⟨zz,e1,e2⟩:=val m hm;simpa using e2.trans (hno m zz hlt e1)
 ·exact ⟨.int j,H,I.tok _,⟨_,rfl⟩,q⟩
theorem zi6(l:Addr)(items:Array Value)(n:Nat)(dd:Option Addr)(sl:Array (Option Value))(x:Value)(e:Value->Bool)(j:Nat)(hj:j < items.size)(hit:e items[j]=true)(hno:∀ m (hm:m < items.size),m < j->e items[m]=false):
  Meets (Builtin.«tuple.index» ⟨[.ref l,x],[]⟩)
   (λ A R s=>s.heap.get? l=some { cls:=.type "tuple", dict:=dd,data:=.seq items n,slots:=sl }/\(∀ y,y∈items->SeqAt.EqAt A.in1 s y x (e y))/\R (.ok (.ret (.int j s.toks))) { s with toks:=s.toks+1 }):=by
 intro prog w A R s h;obtain ⟨hp,g,d,tk,os⟩:=s;obtain ⟨hl,he,h⟩:=h;unfold Builtin.«tuple.index»;simp only [Std.Legacy.Range.forIn_eq_forIn_range']
 wp_walk using wpAny_loadPart' hl,wpAny_forIn_list _ (λ rest b s'=>b.1=none/\s'=⟨hp,g,d,tk,os⟩/\∃ i,i<=j/\rest=List.range' i (items.size - i)) _
 case turn=>
  rintro y rest b s' ⟨hb,rfl,i,hi,hr⟩;have hpos:i < items.size:=by omega
  rw [show items.size - i=(items.size - i - 1)+1 by omega,List.range'_succ] at hr;injection hr with h1 h2
  subst h1;have hg:items[y]?=some items[y]:=by simp [hpos]
  rw [hg];refine ao (he items[y] (Array.getElem_mem hpos) prog w _ _ ?_);by_cases hyj:y=j
  ·subst hyj;rw [hit]
   wp_walk
   exact h
  ·rw [hno y hpos (by omega)]
   wp_walk
   refine ⟨rfl,rfl,y+1,by omega,?_⟩;rw [h2];congr 1
 case fin=>
  rintro b s' ⟨_,rfl,i,hi,hr⟩;rw [show items.size - i=(items.size - i - 1)+1 by omega,List.range'_succ] at hr;cases hr
 case h=>
  exact ⟨rfl,rfl,0,Nat.zero_le _,by simp [Std.Legacy.Range.size]⟩
theorem mt_tindex:MtR X "tuple.index" (λ x vs H Q=>∃ (p:Addr) (xs:List V) (y:V) (j:Nat),x = .ref p/\vs=[y]/\SqT X.K H p xs/\xs.all b9=true/\b9 y=true/\
  (∃ z,xs[j]?=some z/\eqV z y=true)/\(∀ m z,m < j->xs[m]?=some z->eqV z y=false)/\Q (.int j) H):=by
 intro pins s σ H x vs v us Q I rx rv h;obtain ⟨p,xs,y,j,rfl,rfl,hH,fx,fy,⟨z0,hz0,ez0⟩,hno,q⟩:=h;cases rx;obtain ⟨u,rfl,ru⟩:=rv.one;obtain ⟨its,r,⟨o,eo,hc,n,hd⟩,hz⟩:=I.tuple hH;obtain ⟨oc,od,da,sl⟩:=o;dsimp only at hc hd;subst hc hd;have hl:=r.length;have hj:j < xs.length:=(al_gs.mp hz0).1;have val:∀ (m:Nat) (hm:m < its.length),∃ zz,xs[m]?=some zz/\eqU y its[m]=eqV zz y:=λ m hm=>by
  have hm':m < xs.length:=by omega
  obtain ⟨a,ha,ra⟩:=r.get (i:=m) (x:=xs[m]) (by simp [hm']);have:its[m]?=some its[m]:=by simp
  rw [this] at ha;cases ha;exact ⟨xs[m],by simp [hm'],jy ra (al_ae.mp fx _ (List.getElem_mem _))⟩
 refine call_meets F.slot_tuple_index ⟨_,eo,rfl⟩ F.entry_tuple_index (F.args_tuple_index_2 _ _) (zi6 p its.toArray n od sl u (eqU y) j (by rw [aT];omega) ?_ ?_) ⟨eo,λ w hw=>gz ru fy r fx w (by simpa using hw),?_⟩
 ·obtain ⟨zz,e1,e2⟩:=val j (by omega);rw [hz0] at e1;cases e1;simpa using e2.trans ez0
 ·intro m hm hlt;rw [aT] at hm;obtain ⟨zz,e1,e2⟩:=val m hm;simpa using e2.trans (hno m zz hlt e1)
 ·exact ⟨.int j,H,I.tok _,⟨_,rfl⟩,q⟩
theorem zc7:MtR X "int.bit_length" (λ x vs H Q=>∃ i:Int,x = .int i/\vs=[]/\Q (.int (Builtin.Int.intBits i)) H):=by
 intro pins s σ H x vs v us Q I rx rv h;obtain ⟨i,rfl,rfl,q⟩:=h;obtain ⟨t,rfl⟩:=rx;cases rv;exact call_gives F.slot_int_bit_length rfl F.entry_int_bit_length (F.args_int_bit_length_1 _) (PySem.AutoIntG2.int_bit_length_int_0 i t) ⟨.int _,H,I.tok _,⟨_,rfl⟩,q⟩
theorem bz{i:Int}(hm:∃ t,X.mg x=some (.int i t))(hg:Gl X x:=by rfl)(hd:(x == ("__debug__" : Str))=false:=by decide):PE X (.Name x pos) (tC (.int i)):=by
 obtain ⟨t,e⟩:=hm;exact vV hg e ⟨t,rfl⟩ hd
theorem dZ(hm:X.mg x=some (.ref a))(hg:Gl X x:=by rfl)(hd:(x == ("__debug__" : Str))=false:=by decide):PE X (.Name x pos) (tC (.ref a)):=
 vV hg hm rfl hd
theorem gH{n:String}(hm:X.mg x=none)(hv:bootBuiltins x=some (.type n))(hg:Gl X x:=by rfl)(hn:x ≠ "__name__" := by decide)(hd:(x == ("__debug__" : Str))=false:=by decide):PE X (.Name x pos) (tC (.ty n)):=
 zfV hg hm hv rfl hn hd
theorem g8{x:V}{T:String}{t:Value}{b:Bool}(ty:d4 K H x t)(e:W.kitOne K t (.type T)=some b):iG K H x (.ty T) b:=
 ⟨.type T,rfl,λ _ r=>r,.inl ⟨t,ty,e⟩⟩
theorem zbP{D:Addr}{b:Bool}(h:H a=some (ft a (.ref C)))(k:gN K C)(e:W.kitOne K (.ref C) (.ref D)=some b):iG K H (.ref a) (.ref D) b:=
 ⟨.ref D,rfl,λ _ r=>r,.inr ⟨a,C,rfl,h,k,e⟩⟩
theorem zbQ{T:String}{b:Bool}(h:H a=some (ft a (.ref C)))(k:gN K C)(e:W.kitOne K (.ref C) (.type T)=some b):iG K H (.ref a) (.ty T) b:=
 ⟨.type T,rfl,λ _ r=>r,.inr ⟨a,C,rfl,h,k,e⟩⟩
def CW(n:Nat)(Pv:Nat->List V->Hp->Prop)(i m:Nat)(acc:List V)(H:Hp):Prop:=m=n - i/\i<=n/\Pv i acc H
theorem cw{Pv:Nat->List V->Hp->Prop}(hi:i < n)(h:Pv (i+1) acc H):∃ m',m' < n - i/\CW n Pv (i+1) m' acc H:=⟨n - (i+1),by omega,rfl,hi,h⟩
theorem cD{fr:List (Option Nat)}(Pv:Nat->List V->Hp->Prop)(h0:Pv 0 [] H)(hl:∀ i acc H,i<=xs.length->Pv i acc H->SqL K H a xs/\acc.length<=i)(hz:xs.length<=sizeLine)(hs:∀ i x acc H,xs[i]?=some x->i < xs.length->Pv i acc H->g x (stC fr σ) H λ σ2 H2=>Wk (stC fr σ) σ2/\tc σ2 H2 λ b H3=>
   if b=true then te σ2 H3 λ y H4=>∃ m',m' < xs.length - i/\CW xs.length Pv (i+1) m' (acc++[y]) H4 else ∃ m',m' < xs.length - i/\CW xs.length Pv (i+1) m' acc H3)(hd:∀ acc H,Pv xs.length acc H->Qe acc H):
  ∃ W:Nat->Nat->List V->Hp->Prop,(∃ m,W 0 m [] H)/\∀ i m acc H,W i m acc H->
   ((Itl K a).stop i H/\Qe acc H)\/
   ((Itl K a).go i H/\acc.length < sizeLine/\∀ x H',(Itl K a).yld i H x H'->g x (stC fr σ) H' λ σ2 H2=>Wk (stC fr σ) σ2/\tc σ2 H2 λ b H3=>
    if b=true then te σ2 H3 λ y H4=>∃ m',m' < m/\W (i+1) m' (acc++[y]) H4 else ∃ m',m' < m/\W (i+1) m' acc H3):=by
 refine ⟨CW xs.length Pv,⟨xs.length,by simp,Nat.zero_le _,h0⟩,?_⟩;rintro i m acc H ⟨rfl,hi,p⟩;obtain ⟨q,ql⟩:=hl i acc H hi p;by_cases hlt:i < xs.length
 ·refine .inr ⟨⟨xs,xs[i],q,by simp [hlt]⟩,by omega,λ x H' y=>?_⟩;obtain ⟨e,y⟩:=y;subst e;exact hs i x acc _ (y xs q) hlt p
 ·have e:i=xs.length:=by omega
  subst e;exact .inl ⟨⟨xs,q,az _⟩,hd acc H p⟩
theorem kM{fr:List (Option Nat)}(Pv:Nat->List V->Hp->Prop)(h0:Pv 0 [] H)(hl:∀ i acc H,i<=xs.length->Pv i acc H->SqT K H a xs/\acc.length<=i)(hz:xs.length<=sizeLine)(hs:∀ i x acc H,xs[i]?=some x->i < xs.length->Pv i acc H->g x (stC fr σ) H λ σ2 H2=>Wk (stC fr σ) σ2/\tc σ2 H2 λ b H3=>
   if b=true then te σ2 H3 λ y H4=>∃ m',m' < xs.length - i/\CW xs.length Pv (i+1) m' (acc++[y]) H4 else ∃ m',m' < xs.length - i/\CW xs.length Pv (i+1) m' acc H3)(hd:∀ acc H,Pv xs.length acc H->Qe acc H):
  ∃ W:Nat->Nat->List V->Hp->Prop,(∃ m,W 0 m [] H)/\∀ i m acc H,W i m acc H->
   ((Itt K a).stop i H/\Qe acc H)\/
   ((Itt K a).go i H/\acc.length < sizeLine/\∀ x H',(Itt K a).yld i H x H'->g x (stC fr σ) H' λ σ2 H2=>Wk (stC fr σ) σ2/\tc σ2 H2 λ b H3=>
    if b=true then te σ2 H3 λ y H4=>∃ m',m' < m/\W (i+1) m' (acc++[y]) H4 else ∃ m',m' < m/\W (i+1) m' acc H3):=by
 refine ⟨CW xs.length Pv,⟨xs.length,by simp,Nat.zero_le _,h0⟩,?_⟩;rintro i m acc H ⟨rfl,hi,p⟩;obtain ⟨q,ql⟩:=hl i acc H hi p;by_cases hlt:i < xs.length
 ·refine .inr ⟨⟨xs,xs[i],q,by simp [hlt]⟩,by omega,λ x H' y=>?_⟩;obtain ⟨e,y⟩:=y;subst e;exact hs i x acc _ (y xs q) hlt p
 ·have e:i=xs.length:=by omega
  subst e;exact .inl ⟨⟨xs,q,az _⟩,hd acc H p⟩
theorem fJ{fr:List (Option Nat)}(Pv:Nat->List V->Hp->Prop)(h0:Pv 0 [] H)(hl:∀ i acc H,i<=n->Pv i acc H->acc.length<=i)(hz:n<=sizeLine)(hs:∀ i acc H,i < n->Pv i acc H->g (.int (lo+i)) (stC fr σ) H λ σ2 H2=>Wk (stC fr σ) σ2/\tc σ2 H2 λ b H3=>
   if b=true then te σ2 H3 λ y H4=>∃ m',m' < n - i/\CW n Pv (i+1) m' (acc++[y]) H4 else ∃ m',m' < n - i/\CW n Pv (i+1) m' acc H3)(hd:∀ acc H,Pv n acc H->Qe acc H):
  ∃ W:Nat->Nat->List V->Hp->Prop,(∃ m,W 0 m [] H)/\∀ i m acc H,W i m acc H->
   ((Itr lo n).stop i H/\Qe acc H)\/
   ((Itr lo n).go i H/\acc.length < sizeLine/\∀ x H',(Itr lo n).yld i H x H'->g x (stC fr σ) H' λ σ2 H2=>Wk (stC fr σ) σ2/\tc σ2 H2 λ b H3=>
    if b=true then te σ2 H3 λ y H4=>∃ m',m' < m/\W (i+1) m' (acc++[y]) H4 else ∃ m',m' < m/\W (i+1) m' acc H3):=by
 refine ⟨CW n Pv,⟨n,by simp,Nat.zero_le _,h0⟩,?_⟩;rintro i m acc H ⟨rfl,hi,p⟩;have ql:=hl i acc H hi p;by_cases hlt:i < n
 ·refine .inr ⟨hlt,by omega,λ x H' y=>?_⟩;obtain ⟨e,y⟩:=y;subst e y;exact hs i acc _ hlt p
 ·have e:i=n:=by omega
  subst e;exact .inl ⟨az _,hd acc H p⟩
theorem tT{A B:Hp->Prop}(h:A H):lW σ H (λ b H3=>if b=true then A H3 else B H3):=by
 have e:(if true=true then A H else B H)=A H:=if_pos rfl;show if true=true then A H else B H
 rw [e];exact h
theorem Fun.okX{f:Addr}{k:Nat}(F:Fun K x qual st f fd)(S:aC N ps (av st))(len:∀ vs H Q E,sp vs H Q E->vs.length=ps.length)(hbody:∀ (cdv:Value) (A:Around) (outer:List Env) (s:Shared) (H:Hp) (vs:List V) (Q:VK) (E:XK),Room k (A.deeper (envOfC qual (av st) s.heap.objs.size f cdv))->sp vs H Q E->
   ∃ t,PSs (c4 (CXr P w) P w K mg base N qual (av st) f cdv A outer s H E) (cS st) t/\t { nx:=λ _ H'=>Q .non H',rt:=Q } (fR N vs) H):FnOk P w K mg base (CXr P w) (k+1) f fd ps sp:=by
 obtain ⟨oc,od,kV,doc,pm,an,cdv,ct,osl,rfl,lk,hcd⟩:=F.ex;exact nF lk hcd S len λ A outer s H vs Q E hr hsp=>hbody cdv A outer s H vs Q E hr hsp
theorem aJ{p:Addr}(h:Same H H')(hp:H' p=none):Same H (upd H' p o):=λ b u e=>by
 rw [aj (aI (h b u e) hp)];exact h b u e
inductive Cal (P:Program) (w:World) (K:W.Frag) (mg:Str->Option Value) (base:Heap) (CX:CXT) (k:Nat) (x:Str) (ps:List Str) (sp:Sp):Prop
 | i (f fd:_) (_:FnOk P w K mg base CX k f fd ps sp) (_:mg x=some (.ref f)) (_:W.keepIn K (.ref f)=true) (_:Binds K fd ps [])
theorem Cal.pe{k:Nat}{E:XK}{t:TA}(C:Cal X.prog X.w X.K X.mg X.base CX k x ps sp)(hr:Room j X.A)(hx:cV CX X E)(ha:PA X (e::es) t)(hj:k<=j:=by decide)(hg:Gl X x:=by rfl)(hdb:(x == ("__debug__" : Str))=false:=by decide)(he:starEach (e::es) X.env=(false,eval e X.env)::starEach es X.env:=by rfl)(hpl:(backTo pos (starEach es X.env)).any (·.1)=false:=by rfl):
  PE X (.Call (.Name x p) (e::es) [] pos) (rP sp [] E t):=by
 obtain ⟨f,fd,G,hm,hk,hb⟩:=C;exact zfX G (hr.mono hj) hg hm hk hb .nil hx ha hdb he hpl
inductive bF (P:Program) (w:World) (K:W.Frag) (mg:Str->Option Value) (base:Heap) (CX:CXT) (k:Nat) (C:Addr) (m:Str) (ps:List Str) (sp:Sp):Prop
 | i (f fd:_) (_:FnOk P w K mg base CX k f fd ps sp) (_:iH K C m f) (_:Binds K fd ps [])
inductive jl (P:Program) (w:World) (K:W.Frag) (mg:Str->Option Value) (base:Heap) (CX:CXT) (k:Nat) (C:Addr) (ps:List Str) (sp:Sp):Prop
 | i (f fd:_) (_:FnOk P w K mg base CX k f fd ps sp) (_:Mk K C f) (_:Binds K fd ps [])
section
variable {a:Expr}
inductive ziT (K:W.Frag) (Q:Bool->Hp->Prop) (x:V) (H':Hp):Prop
 | i (p xs:_) (_:x = .ref p) (_:SqL K H' p xs) (_:Q (!xs.isEmpty) H')
def x5(K:W.Frag)(ta:TE):TT:=λ σ H Q=>ta σ H λ x H'=>ziT K Q x H'
theorem zgo(ha:PE X a ta)(he:∀ whole,isTrue a X.env whole=(do let v ← whole;standAt a.pos;holding [v] (truthy v)):=by intro _;rfl):PT X a (x5 X.K ta):=by
 intro pins s σ H Q I h;exact isTrue_plain (thn (ha pins s σ H _ I h) λ v s1 ⟨x,H1,I1,r1,p,xs,e,hq,q1⟩=>by
  subst e;exact yf pins s1 σ H1 (.ref p) v Q I1 r1 ⟨_,.inl ⟨xs,hq,rfl⟩,q1⟩) (he _)
structure Bx (p:Prop):Prop where
 go:p
inductive xU (t u:TS):d3->St->Hp->Prop
 | mk {D:d3} {σ:St} {H:Hp} (M:St->Hp->Prop) (h:t { D with nx:=M } σ H) (k:∀ σ' H',M σ' H'->u D σ' H'):xU t u D σ H
theorem wg{rest:List Stmt}{t u:TS}(h1:PS X st t)(h2:PSs X rest u):PSs X (st::rest) (xU t u):=by
 intro pins s σ H D I h;obtain ⟨M,h,k⟩:=h;refine wpAny_execs_cons (thn (h1 pins s σ H { D with nx:=M } I h) λ f s1 q=>?_);cases f with
 | next=>
  obtain ⟨σ',H',I',q⟩:=q;exact h2 pins s1 σ' H' D I' (k _ _ q)
 | ret v=>exact q
 | brk=>exact q
 | cont=>exact q
structure sC (c:TT) (tb:TS) (D:d3) (σ:St) (H:Hp):Prop where
 go:x6 c tb D σ H
theorem jR{c:Expr}(hp:PassesOwn (model X.prog X.w) X.A X.env X.xe)(hc:PT X c tc)(hb:PSs X body tb):PS X (.While c body [] pos) (sC tc tb):=
 λ pins s σ H D I h=>zgm hp hc hb pins s σ H D I h.go
inductive wiM (wi:TI) (σ:St) (H:Hp) (R:It->Hp->Prop):Prop
 | i (R':It->Hp->Prop) (_:wi σ H R') (_:∀ J H1,R' J H1->R J H1)
theorem PI.mono(h:PI X tg iter wi):PI X tg iter (wiM wi):=by
 intro pins s σ H R I q;obtain ⟨R',q,k⟩:=q;exact thn (h pins s σ H R' I q) λ v s1 q1=>thn q1 λ itv s2 ⟨it,fp,tn,J,H2,e,I2,T,st2,f2,r2⟩=>⟨it,fp,tn,J,H2,e,I2,T,st2,f2,k _ _ r2⟩
structure zj (J:It) (g:TG) (tb:TS) (D:d3) (σ:St) (H1:Hp):Prop where
 go:∃ W:Nat->Nat->St->Hp->Prop,(∃ m,W 0 m σ H1)/\∀ i m σ H,W i m σ H->
  (J.stop i H/\D.nx σ H)\/(J.go i H/\∃ N:St->Hp->Prop,(∀ σ' H',N σ' H'->∃ m',m' < m/\W (i+1) m' σ' H')/\∀ x H',J.yld i H x H'->g x σ H' λ σ2 H2=>tb { D with nx:=N,ct:=N,bk:=D.nx } σ2 H2)
def ziA(wi:TI)(g:TG)(tb:TS):TS:=λ D σ H=>wi σ H λ J H1=>zj J g tb D σ H1
theorem eD(hp:PassesOwn (model X.prog X.w) X.A X.env X.xe)(hc:X.calm=true)(hi:PI X tg iter wi)(hg:PG X tg g)(hb:PSs X body tb)(hs:∀ x,foldedSetIterable iter X.env x=pure x:=by intro _;rfl):PS X (.For tg iter body [] pos) (ziA wi g tb):=
 λ pins s σ H D I h=>wf hp hc hi.mono hg hb hs pins s σ H D I ⟨_,h,λ _ _ q=>q.go⟩
structure km (fr:List (Option Nat)) (J:It) (g:TG) (tc:TT) (te:TE) (σ:St) (H1:Hp) (Q:VK):Prop where
  go:∃ W:Nat->Nat->List V->Hp->Prop,(∃ m,W 0 m [] H1)/\∀ i m acc H,W i m acc H->
    (J.stop i H/\∀ p,H p=none->Q (.ref p) (upd H p (.lst acc)))\/
    (J.go i H/\acc.length < sizeLine/\∀ x H',J.yld i H x H'->g x (stC fr σ) H' λ σ2 H2=>Wk (stC fr σ) σ2/\tc σ2 H2 λ b H3=>
       if b=true then te σ2 H3 λ y H4=>∃ m',m' < m/\W (i+1) m' (acc++[y]) H4 else ∃ m',m' < m/\W (i+1) m' acc H3)
def xT(fr:List (Option Nat))(wi:TI)(g:TG)(tc:TT)(te:TE):TE:=λ σ H Q=>wi σ H λ J H1=>km fr J g tc te σ H1 Q
theorem cn{fr:List (Option Nat)}(S:CompScope X N scope fr)(hc:X.calm=true)(hi:PI X tg iter wi)(hb:∀ C fp s H,PG (bo X N scope C fp s H) tg g/\fW (bo X N scope C fp s H) ifs tc/\PE (bo X N scope C fp s H) elt te)(hs:∀ x,foldedSetIterable iter X.env x=pure x:=by intro _;rfl):
  PE X (.ListComp elt [⟨tg,iter,ifs,0⟩] scope pos) (xT fr wi g tc te):=
 λ pins s σ H Q I h=>ly S hc hi.mono hb hs pins s σ H Q I ⟨_,h,λ _ _ q=>q.go⟩
theorem fk{fr:List (Option Nat)}(hN:X.N.Nodup)(hi':X.N[i]?=some y)(hx:Loc X.env.scope y)(S:CompScope X N scope fr)(hc:X.calm=true)(hi:PI X tg iter wi)(hb:∀ C fp s H,PG (bo X N scope C fp s H) tg g/\fW (bo X N scope C fp s H) ifs tc/\PE (bo X N scope C fp s H) elt te)(hsw:swapsWith (.ListComp elt [⟨tg,iter,ifs,0⟩] scope pos) (some (.Name y py)) spos.line X.env=pure true:=by rfl)(hf:X.fn y=true\/X.env.scope.names.lookup y=some .local:=by first | exact .inl rfl | exact .inr rfl | assumption)(hs:∀ x,foldedSetIterable iter X.env x=pure x:=by intro _;rfl):
  PS X (.Assign [.Name y py] (.ListComp elt [⟨tg,iter,ifs,0⟩] scope pos) spos) (j8 (xT fr wi g tc te) (dS i)):=
 λ pins s σ H D I h=>zgj hN hi' hx S hc hi.mono hb hsw hf hs pins s σ H D I ⟨_,h,λ _ _ q=>q.go⟩
theorem ka{c:TT}(Pv:St->Hp->Prop)(μ:St->Hp->Nat)(h0:Pv σ H)(hs:∀ m σ H,m=μ σ H->Pv σ H->c σ H λ b H1=>if b=true then ∃ N:St->Hp->Prop,(∀ σ' H',N σ' H'->∃ m',m' < m/\(m'=μ σ' H'/\Pv σ' H'))/\tb { D with nx:=N,ct:=N,bk:=D.nx } σ H1 else D.nx σ H1):sC c tb D σ H:=
 ⟨λ m σ H=>m=μ σ H/\Pv σ H,⟨_,rfl,h0⟩,λ m σ H ⟨e,p⟩=>hs m σ H e p⟩
theorem wN{Pv:St->Hp->Prop}{μ:St->Hp->Nat}{m:Nat}:∀ σ' H',(Pv σ' H'/\μ σ' H' < m)->∃ m',m' < m/\(m'=μ σ' H'/\Pv σ' H'):=λ _ _ h=>⟨_,h.2,rfl,h.1⟩
theorem bP{xs:List α}{i:Int}{v:α}(h0:0<=i)(h:xs[i.toNat]?=some v):atI xs i=some v:=by
 have:=ef h
 rwa [Int.toNat_of_nonneg h0] at this
theorem Same.new{p:Addr}(hp:H p=none):Same H (upd H p o):=aJ (Same.refl H) hp
end
inductive zgA (K:W.Frag) (xs:List V) (H:Hp) (Q:VK):Prop
 | i (p ys:_) (_:xs=[.ref p]) (_:(SqL K H p ys\/SqT K H p ys)) (_:Q (.int ys.length) H)
inductive zgC (K:W.Frag) (xs:List V) (H:Hp) (Q:VK):Prop
 | i (p ys:_) (_:xs=[.ref p]) (_:(SqL K H p ys\/SqT K H p ys)) (_:∀ l,H l=none->Q (.ref l) (upd H l (.lst ys)))
inductive zgz (K:W.Frag) (xs:List V) (H:Hp) (Q:VK):Prop
 | i (x c b:_) (_:xs=[x,c]) (_:iG K H x c b) (_:Q (.bl b) H)
inductive zgu (K:W.Frag) (xs:List V) (H:Hp) (Q:VK):Prop
 | i (p:Addr) (bs:List Bool) (_:xs=[.ref p]) (_:SqL K H p (bs.map V.bl)) (_:Q (.bl (bs.all id)) H)
inductive zgE (K:W.Frag) (xs:List V) (H:Hp) (Q:VK):Prop
 | i (p:Addr) (ns:List Int) (M:Int) (_:xs=[.ref p]) (_:SqL K H p (ns.map V.int)) (_:M∈ns) (_:(∀ a∈ns,a<=M)) (_:Q (.int M) H)
inductive zgG (K:W.Frag) (xs:List V) (H:Hp) (Q:VK):Prop
 | i (p:Addr) (ns:List Int) (M:Int) (_:xs=[.ref p]) (_:SqL K H p (ns.map V.int)) (_:M∈ns) (_:(∀ a∈ns,M<=a)) (_:Q (.int M) H)
inductive zgw (K:W.Frag) (x:V) (y:V) (H:Hp) (Q:VK):Prop
 | i (p q:Addr) (xs ys:List V) (_:x = .ref p) (_:y = .ref q) (_:SqL K H p xs) (_:SqL K H q ys) (_:xs.all b9=true) (_:ys.all b9=true) (_:Q (.bl (eA xs ys)) H)
inductive zgO (K:W.Frag) (x:V) (vs:List V) (H:Hp) (Q:VK):Prop
 | i (p:Addr) (xs:List V) (y:V) (j:Nat) (_:x = .ref p) (_:vs=[y]) (_:SqT K H p xs) (_:xs.all b9=true) (_:b9 y=true) (_:(∃ z,xs[j]?=some z/\eqV z y=true)) (_:(∀ m z,m < j->xs[m]?=some z->eqV z y=false)) (_:Q (.int j) H)
section
variable (K:W.Frag) {a:Expr}
theorem bq(h:X.K=K:=by rfl):IxR X (wq K):=h ▸ uS
theorem cj(h:X.K=K:=by rfl):IxR X (jU K):=h ▸ uT
theorem gk(h:X.K=K:=by rfl):SlR X (wy K):=h ▸ zh1
theorem lN(h:X.K=K:=by rfl):SlR X (wz K):=h ▸ zh2
theorem jN(h:X.K=K:=by rfl):OpR X (compareOp .In) (rIn K false):=h ▸ zfL
theorem zfO(h:X.K=K:=by rfl):OpR X (compareOp .NotIn) (rIn K true):=h ▸ vQ
theorem OpR.ex{r r':R2}(h:OpR X f r)(k:∀ x y H Q,r' x y H Q->r x y H Q):OpR X f r':=λ _ _ _ _ _ _ _ _ _ I l m n=>h _ _ _ _ _ _ _ _ _ I l m (k _ _ _ _ n)
theorem CallR.ex{f:Value}{r r':List V->Hp->VK->Prop}(h:CallR X f r)(k:∀ x H Q,r' x H Q->r x H Q):CallR X f r':=λ _ _ _ _ _ _ _ I m n=>h _ _ _ _ _ _ _ I m (k _ _ _ n)
theorem MtR.ex{f:String}(h:MtR X f r)(k:∀ x y H Q,r' x y H Q->r x y H Q):MtR X f r':=λ _ _ _ _ _ _ _ _ _ I l m n=>h _ _ _ _ _ _ _ _ _ I l m (k _ _ _ _ n)
theorem zfK(hu:X.A.units+1 < cLine)(h:X.K=K:=by rfl):OpR X (compareOp .Eq) (zgw K):=by
 subst h;exact (zfJ (Nat.lt_of_succ_lt hu)).ex λ _ _ _ _ ⟨a,b,c,d,e,f,g,h,i,j,k⟩=>⟨a,b,c,d,e,f,g,h,i,j,k⟩
theorem bQ(h:X.K=K:=by rfl):CallR X (.builtin "len") (zgA K):=by subst h;exact call_len_seq.ex λ _ _ _ ⟨a,b,c,d,e⟩=>⟨a,b,c,d,e⟩
theorem zaq(h:X.K=K:=by rfl):CallR X (.type "list") (zgC K):=by subst h;exact call_list_of.ex λ _ _ _ ⟨a,b,c,d,e⟩=>⟨a,b,c,d,e⟩
theorem dG(h:X.K=K:=by rfl):CallR X (.builtin "isinstance") (zgz K):=by subst h;exact call_isi.ex λ _ _ _ ⟨a,b,c,d,e,f⟩=>⟨a,b,c,d,e,f⟩
theorem tG(hc:X.calm=true)(h:X.K=K:=by rfl):CallR X (.builtin "all") (zgu K):=by subst h;exact (tF hc).ex λ _ _ _ ⟨a,b,c,d,e⟩=>⟨a,b,c,d,e⟩
theorem ju(hc:X.calm=true)(h:X.K=K:=by rfl):CallR X (.builtin "max") (zgE K):=by subst h;exact (zat hc).ex λ _ _ _ ⟨a,b,c,d,e,f,g,h⟩=>⟨a,b,c,d,e,f,g,h⟩
theorem jv(hc:X.calm=true)(h:X.K=K:=by rfl):CallR X (.builtin "min") (zgG K):=by subst h;exact (tJ hc).ex λ _ _ _ ⟨a,b,c,d,e,f,g,h⟩=>⟨a,b,c,d,e,f,g,h⟩
theorem zda(h:X.K=K:=by rfl):MtR X "tuple.index" (zgO K):=by subst h;exact mt_tindex.ex λ _ _ _ _ ⟨a,b,c,d,e,f,g,h,i,j,k,l⟩=>⟨a,b,c,d,e,f,g,h,i,j,k,l⟩
theorem i9(ha:PE X a ta)(h:X.K=K:=by rfl)(he:∀ whole,isTrue a X.env whole=(do let v ← whole;standAt a.pos;holding [v] (truthy v)):=by intro _;rfl):PT X a (x5 K ta):=by
 subst h;exact zgo ha he
theorem eK{f:Str}(he:PE X e ta)(hb:attributeBase e f X.env (eval e X.env)=eval e X.env)(h:X.K=K:=by rfl):PE X (.Attribute e f pos) (gl K ta f):=by
 subst h;exact cM he hb
variable {o:Expr} {t:TA} {T id:String}
theorem cu(pa:PlainAttrs T)(slot:Slot T name id)(hty:typeOf (.builtin id)=pure (.type "method_descriptor"))(hm:MtR X id r)(ho:PE X o to)(ha:PA X (e::es) t)(h:X.K=K:=by rfl)(hbase:attributeBase o name X.env (eval o X.env)=eval o X.env:=by rfl)(hfew:((backTo cpos (starEach (e::es) X.env)).all (λ x=>!x.1) && (backToKw cpos (keywordEach [] X.env)).all (λ x=>x.1.isSome)
   && decide ((e::es).length+([]:List Keyword).length+(if ([]:List Keyword).isEmpty then 0 else 1) < 30))=true:=by rfl)(hline:(apos.endLine == cpos.line)=true:=by rfl)(hs:starEach (e::es) X.env=(false,eval e X.env)::starEach es X.env:=by rfl)(hplain:(backTo cpos (starEach es X.env)).any (·.1)=false:=by rfl):
  PE X (.Call (.Attribute o name apos) (e::es) [] cpos) (tBM K T r to t):=by
 subst h;exact oH pa slot hty hm ho ha hbase hfew hline hs hplain
end
theorem Inv.turnedL(I:Inv X pins σ H s)(k:∀ b o,b∉ch->s.heap.get? b=some o->h'.get? b=some o)(hf:∀ b∈ch,eU X pins H b):Inv X pins σ H { s with heap:=h',toks:=t' }:=by
 have nit:∀ b u,H b=some u->b∉ch:=λ b u e z=>by rw [(hf b z).1] at e;cases e
 refine I.step (g':=s.gens) (d':=s.drawn) (ch:=ch) (λ b hb=>?_) (λ b o _ _ hc e _=>k b o hc e) (λ b o _ _ hc e _=>⟨o.slots,k b o hc e⟩) (λ _ _ _ _ n=>n)
  (λ b o hc e=>⟨o,k b o hc e⟩) (λ _ _ e=>e) (λ _ _ _ e=>e) (λ b ps e=>⟨#[],by rw [e];simp⟩) (λ m hm=>?_) (λ b u e=>?_) I.bare
 ·obtain ⟨f0,f1,f2,f3,f4,f5⟩:=hf b hb;exact ⟨f3,f1,f4,f5⟩
 ·obtain ⟨o,es,ep,ho,r⟩:=hm;exact ⟨o,es,ep,k _ o (λ z=>(hf _ z).2.1 rfl) ho,r⟩
 ·refine (I.hok b u e).stay (λ c v hc q=>k c v ?_ q) (λ _ q=>q) λ _ _ q=>q;rcases hc with z | z
  ·rw [z];exact nit b u e
  ·exact nit c _ z
def Itz(K:W.Frag)(a b:Addr):It:=
  ⟨λ i H=>∃ xs ys x y,SqL K H a xs/\SqL K H b ys/\xs[i]?=some x/\ys[i]?=some y,
   λ i H v H'=>∃ T,H T=none/\v = .ref T/\∀ xs ys,SqL K H a xs->SqL K H b ys->∃ x y,xs[i]?=some x/\ys[i]?=some y/\H'=upd H T (.tup [x,y]),
   λ i H=>∃ xs ys,SqL K H a xs/\SqL K H b ys/\(xs.length<=i\/ys.length<=i)⟩
theorem in5{e f:Addr}(h:c∈[a,b,d,e,f]):c=a\/c=b\/c=d\/c=e\/c=f:=by simpa using h
theorem xQ{TI TO:Addr}(h:c∈[z,TO,i1,i2]):c∈[z,TI,TO,i1,i2]:=by cases h with | head=>exact .head _ | tail _ h=>exact .tail _ (.tail _ h)
theorem zjc{k:Nat}(a b z TI TO i1 i2:Addr)(D:ZipApart z TI TO i1 i2 a b):
  gp P w K (.Tuple elts k pos) (Itz K a b) [z,TI,TO,i1,i2] z (λ i h=>IsZip h z TI TO .none/\IsPair h TI (.ref i1) (.ref i2)/\(∃ c d,IsPair h TO c d)/\h.IsListIter i1 a i/\h.IsListIter i2 b i) where
 mem:=by simp
 obj:=λ i h st c hc=>by
  obtain ⟨h1,h2,⟨_,_,h3⟩,⟨o1,e1,c1,d1⟩,⟨o2,e2,c2,d2⟩⟩:=st;rcases in5 hc with rfl | rfl | rfl | rfl | rfl
  ·exact ⟨_,h1,λ v z=>by cases z⟩
  ·exact ⟨_,h2,λ v z=>by cases z⟩
  ·exact ⟨_,h3,λ v z=>by cases z⟩
  ·exact ⟨o1,e1,λ v z=>by rw [d1] at z;cases z⟩
  ·exact ⟨o2,e2,λ v z=>by rw [d2] at z;cases z⟩
 keep:=λ i h h' st kk=>by
  obtain ⟨h1,h2,⟨c,d,h3⟩,h4,h5⟩:=st;exact ⟨kk z (.head _) _ h1,kk TI (.tail _ (.head _)) _ h2,⟨c,d,kk TO (.tail _ (.tail _ (.head _))) _ h3⟩,h4.at λ o e=>kk i1 (.tail _ (.tail _ (.tail _ (.head _)))) o e,h5.at λ o e=>kk i2 (.tail _ (.tail _ (.tail _ (.tail _ (.head _))))) o e⟩
 item:=by
  intro X hP hw hK hc i pins s σ H E I hf st hg;subst hP hw hK;obtain ⟨xs,ys,x,y,hqa,hqb,hx,hy⟩:=hg;obtain ⟨ia,ra,pa,_⟩:=I.list hqa;obtain ⟨ib,rb,pb,_⟩:=I.list hqb;obtain ⟨ux,hux,rux⟩:=ra.get hx;obtain ⟨uy,huy,ruy⟩:=rb.get hy;have hia:i < ia.length:=(al_gs.mp hux).1;have hib:i < ib.length:=(al_gs.mp huy).1;have W:=WalksT.zip2 (prog:=X.prog) (w:=X.w) (I.ok.hd hc) z TI TO i1 i2 a b D ia.toArray ib.toArray;obtain ⟨h1,h2,h3,h4,h5⟩:=id st;refine W.item i s _ _ (by rw [aT,aT];omega) ⟨h1,h2,h3,h4,h5,pa.isList,pb.isList⟩ λ T vals h' tk hP hT hTup hM hk=>?_;refine ⟨.ref T,rfl,W.go elts k pos i T { s with heap:=h',toks:=tk } _ _ hM λ h'' st' hk'=>?_⟩;obtain ⟨x',y',ex,ey,rfl⟩:=hP;have ex':ux=x':=by
   have:ia[i]?=some x':=by simpa using ex
   rw [hux] at this;exact bL this
  have ey':uy=y':=by
   have:ib[i]?=some y':=by simpa using ey
   rw [huy] at this;exact bL this
  subst ex' ey';have I1:Inv X pins σ H { s with heap:=h'',toks:=tk }:=I.turnedL (ch:=[z,TO,i1,i2]) (λ c o hc' e=>hk' c o hc' (hk c o hc' e)) λ c hc'=>hf c (xQ hc');have hTn:H T=none:=I.hok.fresh hT;have hTup2:IsTup h'' T #[ux,uy]:=hTup.at λ o e=>hk' T o (W.apart i T _ hM) e;have ltT:∀ {c:Addr} {o:Obj},s.heap.get? c=some o->c≠T:=λ e=>be (bU (aS e) hT);have I2:Inv X pins σ (upd H T (.tup [x,y])) { s with heap:=h'',toks:=tk }:=by
   refine I1.track hTn ?_ (λ e=>?_) (λ n c e q=>?_) (λ p hp e=>?_) ?_
   ·cases q:X.s₀.heap.get? T with
    | none=>rfl
    | some o=>exact absurd (bU (aS q) (Nat.le_trans I.sz hT)) (Nat.lt_irrefl _)
   ·exact absurd (bU I.lt hT) (by rw [e];exact Nat.lt_irrefl _)
   ·obtain ⟨v,o,ho,_⟩:=I.cell n c e;exact ltT ho q
   ·exact ltT (I.pin p hp).1 e
   ·exact ⟨by show 2<=sizeLine;decide,[ux,uy],.cons rux (.cons ruy .nil),hTup2⟩
  refine ⟨.ref T,_,I2,rfl,⟨T,hTn,rfl,λ xs' ys' qa qb=>?_⟩,⟨st'.1,st'.2.1,st'.2.2.1,st'.2.2.2.1,st'.2.2.2.2.1⟩,λ c hc'=>?_⟩
  ·rw [I.list_inj qa hqa,I.list_inj qb hqb];exact ⟨x,y,hx,hy,rfl⟩
  ·have:c≠T:=by
    obtain ⟨c1,d1,h3⟩:=h3;obtain ⟨o1,e1,_⟩:=h4;obtain ⟨o2,e2,_⟩:=h5;rcases in5 hc' with rfl | rfl | rfl | rfl | rfl
    ·exact ltT h1
    ·exact ltT h2
    ·exact ltT h3
    ·exact ltT e1
    ·exact ltT e2
   rw [aj this];exact (hf c hc').1
 done:=by
  intro X hP hw hK hc i pins s σ H E I hf st hg;subst hP hw hK;obtain ⟨xs,ys,hqa,hqb,hl⟩:=hg;obtain ⟨ia,ra,pa,_⟩:=I.list hqa;obtain ⟨ib,rb,pb,_⟩:=I.list hqb;obtain ⟨h1,h2,⟨c,d,h3⟩,h4,h5⟩:=id st;have l1:=ra.length;have l2:=rb.length;refine wpAny_pyNext_zip_end (I.ok.hd hc) D h1 h2 h3 h4 h5 pa.isList pb.isList ?_ λ h' hk=>⟨rfl,I.turnedL (t':=s.toks) (ch:=[z,TO,i1,i2]) (λ c o hc' e=>hk c o (λ q=>hc' (by simp [q])) (λ q=>hc' (by simp [q])) (λ q=>hc' (by simp [q])) (λ q=>hc' (by simp [q])) e) λ c hc'=>hf c (xQ hc')⟩
  rcases hl with h | h
  ·exact .inl (by simp;omega)
  ·exact .inr (by simp;omega)
 self:=λ _ _ _ _ _ st h=>wpAny_pyIter_zip st.1 h
inductive zbI (K:W.Frag) (R:It->Hp->Prop) (vs:List V) (H1:Hp):Prop
 | i (a b xs ys:_) (_:vs=[.ref a,.ref b]) (_:SqL K H1 a xs) (_:SqL K H1 b ys) (_:R (Itz K a b) H1)
def zbH(K:W.Frag)(ta:TA):TI:=λ σ H R=>ta σ H λ vs H1=>zbI K R vs H1
theorem lD(K:W.Frag){k:Nat}{a b:Expr}{ta:TA}(hg:Gl X "zip")(hm:X.mg "zip" = none)(ha:PA X [a,b] ta)(hK:X.K=K:=by rfl)(hs:starEach [a,b] X.env=[(false,eval a X.env),(false,eval b X.env)]:=by rfl)(hs2:starEach [b] X.env=[(false,eval b X.env)]:=by rfl):
  PI X (.Tuple elts k tpos) (.Call (.Name "zip" p) [a,b] [] pos) (zbH K ta):=by
 subst hK;intro pins s σ H R I h;refine Call_ (eJ I hg hm PyProof.Rows.Boot.«zip» (PyProof.Rows.callWith_type1 (thn (ha pos pins s σ H _ I h) λ us s1 ⟨vs,H1,I1,r1,q1⟩=>?_) (by rw [hs,hs2]) (by rw [hs2];rfl)));obtain ⟨a,b,xs,ys,e,qa,qb,q⟩:=q1;subst e;cases r1 with
 | cons r rr=>
  cases rr with
  | cons r' rr=>
   cases rr;cases r;cases r';obtain ⟨ia,ra,pa,_⟩:=I1.list qa;obtain ⟨ib,rb,pb,_⟩:=I1.list qb;have la:a < s1.heap.objs.size:=by obtain ⟨o,_,e,_⟩:=pa;exact aS e
   have lb:b < s1.heap.objs.size:=by obtain ⟨o,_,e,_⟩:=pb;exact aS e
   refine call_zip_2 pa.isList pb.isList λ h' z1 z2 z3 z4 z5 hsz hk=>?_;refine wpAny_pyIter_zip z1 ?_;refine ⟨s1.heap.objs.size+4,[s1.heap.objs.size+4,s1.heap.objs.size+2,s1.heap.objs.size+3,s1.heap.objs.size,s1.heap.objs.size+1],_,_,H1,rfl,I1.kept (t':=s1.toks) hk,zjc a b _ _ _ _ _ (zipApart_new la lb),⟨z1,z2,⟨_,_,z3⟩,z4,z5⟩,λ c hc=>?_,q⟩;have:s1.heap.objs.size<=c:=by
    simp only [al_mc,List.not_mem_nil,or_false] at hc;rcases hc with rfl | rfl | rfl | rfl | rfl <;> omega
   exact I1.fpOk this (I1.hok.fresh this)
theorem fg(K:W.Frag){k:Nat}{t:TGs}(hc:X.calm=true)(h:PGs X es t)(hK:X.K=K:=by rfl)(hn:(assignEach es X.env).length=n:=by rfl)(hst:(assignEach es X.env).findIdx? (·.1)=none:=by rfl):PG X (.Tuple es k pos) (nL K n t):=by
 subst hK;exact zf6 hc h hn hst
theorem nu{fr:List (Option Nat)}(Pv:Nat->List V->Hp->Prop)(h0:Pv 0 [] H)(n:Nat)(hn:n=min xs.length ys.length)(hl:∀ i acc H,i<=n->Pv i acc H->SqL K H a xs/\SqL K H b ys/\acc.length<=i)(hz:n<=sizeLine)(hs:∀ i x y acc H T,xs[i]?=some x->ys[i]?=some y->i < n->Pv i acc H->H T=none->g (.ref T) (stC fr σ) (upd H T (.tup [x,y])) λ σ2 H2=>Wk (stC fr σ) σ2/\tc σ2 H2 λ b H3=>
   if b=true then te σ2 H3 λ y H4=>∃ m',m' < n - i/\CW n Pv (i+1) m' (acc++[y]) H4 else ∃ m',m' < n - i/\CW n Pv (i+1) m' acc H3)(hd:∀ acc H,Pv n acc H->Qe acc H):
  ∃ W:Nat->Nat->List V->Hp->Prop,(∃ m,W 0 m [] H)/\∀ i m acc H,W i m acc H->
   ((Itz K a b).stop i H/\Qe acc H)\/
   ((Itz K a b).go i H/\acc.length < sizeLine/\∀ x H',(Itz K a b).yld i H x H'->g x (stC fr σ) H' λ σ2 H2=>Wk (stC fr σ) σ2/\tc σ2 H2 λ b H3=>
    if b=true then te σ2 H3 λ y H4=>∃ m',m' < m/\W (i+1) m' (acc++[y]) H4 else ∃ m',m' < m/\W (i+1) m' acc H3):=by
 refine ⟨CW n Pv,⟨n,by simp,Nat.zero_le _,h0⟩,?_⟩;rintro i m acc H ⟨rfl,hi,p⟩;obtain ⟨qa,qb,ql⟩:=hl i acc H hi p;by_cases hlt:i < n
 ·refine .inr ⟨⟨xs,ys,xs[i]'(by omega),ys[i]'(by omega),qa,qb,by simp,by simp⟩,by omega,λ v H' yy=>?_⟩;obtain ⟨T,hT,rfl,yy⟩:=yy;obtain ⟨x,y,hx,hy,rfl⟩:=yy xs ys qa qb;exact hs i x y acc _ T hx hy hlt p hT
 ·have e:i=n:=by omega
  subst e;exact .inl ⟨⟨xs,ys,qa,qb,by omega⟩,hd acc H p⟩
theorem PS.nox{t:TS}(h:PS X.nox st t):PS X st t:=λ pins s σ H D I hw=>
 wpAny_mono (h pins s σ H D (I.wish _) hw) (λ _ _ q=>q.unwish) λ _ _ z=>False.elim z
theorem cF    : cV (CXr P w) X E0:=λ _ _ _ _ _ _ _ ⟨_,_,_,_,_,_,_,_,_,_,_,_,_,h⟩=>h.elim
section
variable (K:W.Frag)
theorem sG:∀ bs:List Bool,(List.range bs.length).any (λ i=>bs.getD i false)=bs.any id
 | []=>rfl
 | b::bs=>by
  rw [bY,List.range_succ_eq_map,List.any_cons,List.any_map,List.any_cons,← sG bs];rfl
inductive zgv (K:W.Frag) (xs:List V) (H:Hp) (Q:VK):Prop
 | i (p:Addr) (bs:List Bool) (_:xs=[.ref p]) (_:SqL K H p (bs.map V.bl)) (_:Q (.bl (bs.any id)) H)
theorem zam(hc:X.calm=true)(hK:X.K=K:=by rfl):CallR X (.builtin "any") (zgv K):=by
 subst hK;intro pins s σ H xs us Q I rv h;obtain ⟨p,bs,rfl,hq,q⟩:=h;obtain ⟨u,rfl,ru⟩:=dk rv;cases ru;obtain ⟨its,r,pl,hz⟩:=I.list hq;have lt:p < s.heap.objs.size:=by
  obtain ⟨o,_,e,_⟩:=pl;exact aS e
 have hlen:bs.length=its.length:=by
  have:=r.length
  rwa [ae] at this
 refine call_any_walk (wpAny_pyIter_list pl.isList ?_);refine ⟨_,_,_,_,_,_,λ i=>bs.getD i false,rfl,Walks.list (A:=X.A.in1) (I.ok.hd hc) _ p (be lt) its.toArray,⟨⟨_,Heap.get?_push_size _ rfl,rfl,rfl⟩,pl.isList.push _⟩,?_,λ h' tk hk=>?_⟩
 ·intro i v s' Q' E' hv hQ;have hv:its[i]?=some v:=by simpa using hv
  have hi:i < bs.length:=by rw [hlen];exact (al_gs.mp hv).1
  obtain ⟨u,hu,ru⟩:=r.get (i:=i) (x:=V.bl bs[i]) (by simp [hi]);rw [hv] at hu;cases hu;cases (show v=Value.bool bs[i] from ru);have e:bs.getD i false=bs[i]:=by simp [List.getD,hi]
  have hQ:Q' (bs.getD i false) s':=hQ;rw [e] at hQ;exact aL hQ
 ·refine ⟨.bl (bs.any id),H,I.kept (t':=tk) λ b o e=>?_,?_,q⟩
  rotate_left
  ·show _=Value.bool _;rw [aT,← hlen,sG]
  ·exact hk b o (by simpa using be (aS e)) (bf _ e)
theorem zgg:∀ (l:List Int) (f:Nat->Int),(∀ i,i < l.length->f i=l.getD i 0)->preSum f l.length=l.sum:=by
 intro l;have key:∀ (n:Nat),n<=l.length->∀ f:Nat->Int,(∀ i,i < l.length->f i=l.getD i 0)->preSum f n=(l.take n).sum:=by
  intro n;induction n with
  | zero=>intro _ f _;simp [preSum]
  | succ n ih=>
   intro h f hf;have hn:n < l.length:=by omega
   have et:l.take (n+1)=l.take n++[l[n]]:=by rw [cL,aG hn];rfl
   have eg:l.getD n 0=l[n]:=by simp [List.getD,hn]
   rw [preSum,ih (by omega) f hf,hf n hn,eg,et,List.sum_append];simp
 intro f hf;have:=key l.length (az _) f hf
 rwa [aZ] at this
inductive zgN (K:W.Frag) (xs:List V) (H:Hp) (Q:VK):Prop
 | i (p:Addr) (ns:List Int) (_:xs=[.ref p]) (_:SqL K H p (ns.map V.int)) (_:Q (.int ns.sum) H)
theorem tK(hc:X.calm=true)(hK:X.K=K:=by rfl):CallR X (.builtin "sum") (zgN K):=by
 subst hK;intro pins s σ H xs us Q I rv h;obtain ⟨p,ns,rfl,hq,q⟩:=h;obtain ⟨u,rfl,ru⟩:=dk rv;cases ru;obtain ⟨its,r,pl,hz⟩:=I.list hq;have hi:=lg r;obtain ⟨ws,e⟩:=hi.allInts.items;have en:ns=ws.toList.map (·.1):=by
  have q1:=hi.numsOf;have q2:=nums_intItems ws;rw [← e] at q2;rw [← q1];exact q2
 have hlen:ns.length=ws.size:=by rw [en,ae,Array.length_toList]
 refine sum_intListG (I.ok.hd hc) (e ▸ pl.isList) λ h' tk t' hk=>?_;refine ⟨.int ns.sum,H,I.kept (t':=tk) hk,⟨t',?_⟩,q⟩;rw [← hlen,zgg ns (numAt ws) λ i _=>by rw [en];exact numAt_eq _ _]
inductive zgI (K:W.Frag) (x:V) (y:V) (H:Hp) (Q:VK):Prop
 | i (p q:Addr) (xs ys:List V) (_:x = .ref p) (_:y = .ref q) (_:SqL K H p xs) (_:SqL K H q ys) (_:xs.all b9=true) (_:ys.all b9=true) (_:Q (.bl (!eA xs ys)) H)
theorem oC(hu:X.A.units+1 < cLine)(hK:X.K=K:=by rfl):OpR X (compareOp .NotEq) (zgI K):=by
 subst hK;have hu:X.A.units < cLine:=Nat.lt_of_succ_lt hu;intro pins s σ H x y v u Q I rx ry h;obtain ⟨p,q,xs,ys,rfl,rfl,hp,hq,fx,fy,k⟩:=h;cases rx;cases ry;obtain ⟨its,r,pl,_⟩:=I.list hp;obtain ⟨its2,r2,pl2,_⟩:=I.list hq;have l1:=r.length;have l2:=r2.length;show wpAny (model X.prog X.w) X.A (richCompare .NotEq (.ref p) (.ref q)) _ _ s;by_cases e:xs.length=ys.length
 ·refine SeqAt.RcNeAt.lists (e:=λ j=>eqV (xs.getD j .non) (ys.getD j .non)) pl.isList pl2.isList (by rw [aT,aT];omega) hu (λ j h1 h2=>?_) X.prog X.w _ _ ?_
  ·rw [aT] at h1 h2;obtain ⟨a,ha,ra⟩:=r.get (i:=j) (x:=xs[j]'(by omega)) (by simp);obtain ⟨b,hb,rb⟩:=r2.get (i:=j) (x:=ys[j]'(by omega)) (by simp);have ea:its.toArray[j]=a:=by
    have:its[j]?=some its[j]:=by simp
    rw [this] at ha;simpa using bL ha
   have eb:its2.toArray[j]=b:=by
    have:its2[j]?=some its2[j]:=by simp
    rw [this] at hb;simpa using bL hb
   rw [ea,eb];have g1:xs.getD j .non=xs[j]'(by omega):=by simp [List.getD,show j < xs.length by omega]
   have g2:ys.getD j .non=ys[j]'(by omega):=by simp [List.getD,show j < ys.length by omega]
   rw [g1,g2];exact kR ra rb (al_ae.mp fx _ (List.getElem_mem _)) (al_ae.mp fy _ (List.getElem_mem _))
  ·refine ⟨.bl (!eA xs ys),H,I,?_,k⟩;show _=Value.bool _;rw [aT,← l1,nD e]
 ·refine SeqAt.RcNeAt.lists_lengths pl.isList pl2.isList (by rw [aT,aT];simp;omega) hu X.prog X.w _ _ ⟨.bl (!eA xs ys),H,I,?_,k⟩;rw [nC e];rfl
end
section
variable (K:W.Frag)
inductive ziO (K:W.Frag) (Q:VK) (x:V) (H1:Hp):Prop
 | i (a xs:_) (_:x = .ref a) (_:SqL K H1 a xs) (_:∀ p,H1 p=none->Q (.ref p) (upd H1 p (.lst xs.reverse)))
def xZ(K:W.Frag)(te:TE):TE:=λ σ H Q=>te σ H λ x H1=>ziO K Q x H1
theorem zj3{st:Expr}(he:PE X e te)(hst:PE X st (tUn (rU λ i=>.int (-i)) (tC (.int 1))))(hK:X.K=K:=by rfl):PE X (.Subscript e (.Slice none none (some st) p2) pos) (xZ K te):=by
 subst hK;intro pins s σ H Q I h;refine Subscript_ (thn (he pins s σ H _ I h) λ v s1 ⟨x,H1,I1,r1,q1⟩=>?_);obtain ⟨a,xs,rfl,hq,q⟩:=q1;cases r1;refine wpAny_Slice ?_;rw [evalPart_none];refine aL (aL ?_);refine thn (cY hst pins s1 σ H1 (λ o H'=>o=some (-1)/\H'=H1) I1 ⟨1,rfl,-1,rfl,rfl,rfl⟩) λ u s3 ⟨o,H3,I3,pu,e1,e2⟩=>?_;subst e1 e2;have I4:Inv X pins σ H3 { s3 with heap:=s3.heap.push { cls:=.type "slice", data:=.fields #[.none,.none,u] } }:=I3.kept (t':=s3.toks) λ b ob q=>bf _ q;obtain ⟨its,r,ht,hz⟩:=I4.list hq;have hlen:=r.length;show wpAny (model X.prog X.w) X.A (subscriptTail e (.Slice none none (some st) p2) (.ref a) (.ref s3.heap.objs.size)) (EP X pins σ Q) X.xe { s3 with heap:=s3.heap.push { cls:=.type "slice", data:=.fields #[.none,.none,u] } };refine tail_any (ops:=[.ref a,.ref s3.heap.objs.size]) ht.isList.typeIs slot_list_getitem.lookup (wpAny_getItem_list_slice ht.isList (Heap.IsSliceOf.new ..) .none .none pu (by simp) ?_ (by rw [aT] <;> omega)) (by with_unfolding_all rfl);rw [W.krv_pick];refine ⟨.ref _,_,I4.laid (t':=s3.toks) (o:=.lst xs.reverse) (λ b ob q=>bf _ q) (az _) ?_,rfl,q _ (I4.hok.fresh (az _))⟩;refine ⟨by rw [List.length_reverse];exact hz,its.reverse,0,?_,Heap.get?_push_size _ rfl⟩;have rev:∀ {xs:List V} {us:List Value},Vals xs us->Vals xs.reverse us.reverse:=by
  intro xs us r;induction r with
  | nil=>exact .nil
  | cons h t ih=>rw [List.reverse_cons,List.reverse_cons];exact ih.append (.cons h .nil)
 exact rev r
end
theorem zd5:typeLookup (.type "list_reverseiterator") "__len__" = pure none:=by rw [typeLookup_type,builtinLookup_eq_fast];kernel_rfl
theorem zbm:typeLookup (.type "list_reverseiterator") "__length_hint__" = pure (some (.builtin "list_reverseiterator.__length_hint__")):=by rw [typeLookup_type,builtinLookup_eq_fast];kernel_rfl
theorem zaS{l:Addr}(hh:A.handled=none)(hst:s.heap.IsRevIter I l ((items.size:Int) - 1))(hl:s.heap.IsList l items)(hne:l≠I)(hn:items.size<=sizeLine)(S:Addr)(res:Value)(c₀:Nat)(hS:s.heap.get? S=some { cls:=.type "list", data:=.seq #[] c₀ })(hSI:S≠I)(hSl:S≠l)(hR:∀ h' tk acc' c',(∀ b o,b≠S->b≠I->s.heap.get? b=some o->h'.get? b=some o)->h'.get? S=some { cls:=.type "list", dict:=none,data:=.seq acc' c',slots:=#[] }->
   ItemsOf (λ i v=>items[items.size - 1 - i]?=some v) acc' items.size->R (.ok (.ret res)) { s with heap:=h',toks:=tk }):
  wpAny (model prog w) A.in1 (Builtin.List.listExtendWith (.ref S) (.ref I) res)
   (λ fin s'=>match fin with | .done f=>R (.ok f) s' | .again c'=>c'.quiet=true/\codeAny (model prog w) A c' R s') (λ e s'=>R (.error e) s') s:=by
 have W:=(Walks.listRev (prog:=prog) (w:=w) (A:=A.in1) hh I l hne items).toS;have st0:(0:Nat)<=items.size/\s.heap.IsRevIter I l ((items.size:Int) - 1 - ((0:Nat):Int))/\s.heap.IsList l items:=⟨Nat.zero_le _,by simpa using hst,hl⟩
 have hSf:S∉[I,l]:=by simp [hSI,hSl]
 have hT:s.TypeIs (.ref I) "list_reverseiterator" := hst.typeIs;unfold Builtin.List.listExtendWith;refine ao (wpAny_typeOf hT ?_);have h1:Builtin.List.listSameRef (.ref S) (.ref I)=false:=by simp [Builtin.List.listSameRef,hSI]
 have h2:(Value.type "list_reverseiterator" == Value.type "list")=false:=by decide
 have h3:(Value.type "list_reverseiterator" == Value.type "tuple")=false:=by decide
 simp only [h1,h2,h3,Bool.or_false,Bool.false_eq_true,if_false];refine ao (wpAny_pyIter_revIter hst ?_);refine ao (wpAny_holding ?_);unfold Builtin.List.listLengthHint;refine ao (wpAny_specialOf hT zd5 ?_);show wpAny _ A.in1 (specialOf (Value.ref I) (Str.ofString "__length_hint__") >>= _) _ _ _;refine ao (wpAny_specialOf hT zbm ?_)
 (generalize hid:("list_reverseiterator.__length_hint__" : String)=id0;wp_delta;rw [show splitId id0=some ("list_reverseiterator", "__length_hint__") from by subst hid;decide +kernel];subst hid)
 refine ao (wpAny_isInstance (b:=true) hT (by rw [isSubtype_type];kernel_rfl) ?_);refine aL ?_;rw [if_neg (by decide)];refine aL ⟨plainId_quiet F.plain_extend_loop _,codeAny_extend_loopS W hn _ hSf _ items.size 0 _ _ _ rfl (Nat.zero_le _) st0 hS (ItemsOf.nil _) λ s' acc' c' hm hS' hacc=>?_⟩;rw [Moved.eq_with hm];refine hR s'.heap s'.toks acc' c' (λ b ob hb hbI e=>hm.heap b ob (λ hmem=>?_) e) hS' hacc;rcases al_mc.mp hmem with e' | hmem
 ·exact hb e'
 ·exact hbI (by simpa using hmem)
theorem zar{l:Addr}(hh:A.handled=none)(hst:s.heap.IsRevIter I l ((items.size:Int) - 1))(hl:s.heap.IsList l items)(hne:l≠I)(hn:items.size<=sizeLine)(hQ:∀ h' tk acc' c',(∀ b o,b≠I->s.heap.get? b=some o->h'.get? b=some o)->
   h'.get? s.heap.objs.size=some { cls:=.type "list", dict:=none,data:=.seq acc' c',slots:=#[] }->ItemsOf (λ i v=>items[items.size - 1 - i]?=some v) acc' items.size->Q (.ref s.heap.objs.size) { s with heap:=h',toks:=tk }):
  wpAny (model prog w) A (call (.type "list") [.ref I]) Q E s:=by
 refine callType_codes (Q₁:=λ obj s₁=>obj = .ref s.heap.objs.size/\s₁={ s with heap:=s.heap.push { cls:=.type "list", data:=.seq #[] } }) F.called_list (F.typeCall_list_1 _) F.entry_list_init
  (code_list_new _ ⟨rfl,rfl⟩) λ obj s₁ h₁=>?_
 obtain ⟨rfl,rfl⟩:=h₁;have hS:(s.heap.push { cls:=.type "list", data:=.seq #[] }).get? s.heap.objs.size=some { cls:=.type "list", data:=.seq #[] }:=Heap.get?_push_size _ rfl;have ltI:I < s.heap.objs.size:=by obtain ⟨o,e,_⟩:=hst;exact aS e
 have ltl:l < s.heap.objs.size:=by obtain ⟨o,e,_⟩:=hl;exact aS e
 refine ⟨⟨_,hS,rfl⟩,F.args_list_init_2 _ _,?_⟩;show wpAny _ _ (do let old ← Builtin.List.listItems (.ref s.heap.objs.size);Builtin.List.listUpdate (.ref s.heap.objs.size) (λ _=>#[]);letGo old.toList.reverse;Builtin.List.listExtendWith (.ref s.heap.objs.size) (.ref I) .none) _ _ _;refine ao ?_;unfold Builtin.List.listItems;refine ao (wpAny_seqItems hS rfl (aL ?_));show wpAny _ _ (updateSeq s.heap.objs.size (λ _=>#[]) >>= λ _=>letGo (#[]:Array Value).toList.reverse >>= λ _=>Builtin.List.listExtendWith (.ref s.heap.objs.size) (.ref I) .none) _ _ _;refine ao (wpAny_updateSeq hS rfl ?_);have hS₂:=Heap.get?_update_self (Obj.mapSeq (λ _=>(#[]:Array Value))) hS rfl;have oth:∀ b o,b≠s.heap.objs.size->s.heap.get? b=some o->((s.heap.push { cls:=.type "list", data:=.seq #[] }).update s.heap.objs.size (Obj.mapSeq (λ _=>(#[]:Array Value)))).get? b=some o:=
  λ b o hb e=>(Heap.get?_update_other _ _ (Ne.symm hb)).trans (bf _ e)
 refine ao (wpAny_letGo ?_);refine zaS (A:=A.in1) hh (hst.at λ o e=>oth _ o (be ltI) e) (hl.at λ o e=>oth _ o (be ltl) e) hne hn _ .none _ hS₂ (Nat.ne_of_gt ltI) (Nat.ne_of_gt ltl) λ h' tk acc' c' hk hS' hacc=>?_;exact ⟨rfl,hQ h' tk acc' c' (λ b o hb e=>hk b o (be (aS e)) hb (oth b o (be (aS e)) e)) hS' hacc⟩
section
variable (K:W.Frag)
theorem Vals.rev:∀ {xs:List V} {us:List Value},Vals xs us->Vals xs.reverse us.reverse:=by
 intro xs us r;induction r with
 | nil=>exact .nil
 | cons h t ih=>rw [List.reverse_cons,List.reverse_cons];exact ih.append (.cons h .nil)
theorem zbU{acc:Array Value}(h:ItemsOf (λ i v=>its.toArray[its.toArray.size - 1 - i]?=some v) acc its.toArray.size):acc=its.reverse.toArray:=by
 obtain ⟨h1,h2⟩:=h;apply Array.ext
 ·simp [h1]
 ·intro i a1 a2;have q:its.toArray[its.toArray.size - 1 - i]?=some acc[i]:=h2 i acc[i] (by simp [a1]);have hi:i < its.length:=by simpa using a2
  have e:its.toArray.size - 1 - i=its.length - 1 - i:=by simp
  rw [e] at q;have lt:its.length - 1 - i < its.length:=by omega
  simp [lt] at q;simp [q]
theorem zf3(hc:X.calm=true)(hg1:Gl X "list")(hm1:X.mg "list" = none)(hg2:Gl X "reversed")(hm2:X.mg "reversed" = none)(he:PE X e te)(hK:X.K=K:=by rfl)(hs:starEach [e] X.env=[(false,eval e X.env)]:=by rfl):
  PE X (.Call (.Name "list" p2) [.Call (.Name "reversed" p3) [e] [] p4] [] pos) (xZ K te):=by
 subst hK;intro pins s σ H Q I h;refine wpAny_Call_Name_kw (eJ I hg1 hm1 PyProof.Rows.Boot.«list» ?_ (by decide) (by decide));refine PyProof.Rows.callWith_type1 (e:=.Call (.Name "reversed" p3) [e] [] p4) (rest:=[]) ?_ rfl rfl;show wpAny _ _ (spliced ((false,eval (.Call (.Name "reversed" p3) [e] [] p4) X.env)::backTo pos (starEach [] X.env))) _ _ s;refine Calls.spliced_cons ?_;refine wpAny_Call_Name_kw (eJ I hg2 hm2 PyProof.Rows.Boot.«reversed» ?_ (by decide) (by decide));refine PyProof.Rows.callWith_type1 (e:=e) (rest:=[]) ?_ (by rw [hs];rfl) rfl;rw [hs];show wpAny _ _ (spliced ((false,eval e X.env)::[])) _ _ s;refine Calls.spliced_cons (thn (he pins s σ H _ I h) λ u s1 ⟨x,H1,I1,r1,a,xs,e1,hq,q⟩=>Calls.spliced_nil ?_);subst e1;cases r1;obtain ⟨its,rv,pl,hz⟩:=I1.list hq;have hlen:=rv.length;have lt:a < s1.heap.objs.size:=by obtain ⟨o,_,e,_⟩:=pl;exact aS e
 refine call_reversed_list pl.isList ?_;refine Calls.spliced_nil ?_;have hst:(s1.heap.push (revObj a ((its.toArray.size:Int) - 1))).IsRevIter s1.heap.objs.size a ((its.toArray.size:Int) - 1):=⟨_,Heap.get?_push_size _ rfl,rfl,rfl⟩
 refine zar (I.ok.hd hc) hst (pl.isList.push _) (be lt) (by rw [aT];omega) λ h' tk acc' c' hk hS' hacc=>?_;rw [zbU hacc] at hS';have keep:∀ b o,s1.heap.get? b=some o->h'.get? b=some o:=λ b o e=>hk b o (be (aS e)) (bf _ e);have hsz:s1.heap.objs.size<=(s1.heap.push (revObj a ((its.toArray.size:Int) - 1))).objs.size:=by rw [Heap.size_push];omega
 refine ⟨.ref _,_,I1.laid (t':=tk) (o:=.lst xs.reverse) keep hsz ⟨by rw [List.length_reverse];exact hz,its.reverse,c',rv.rev,hS'⟩,rfl,q _ (I1.hok.fresh hsz)⟩
end
def bp(ys:List Str):Str:=⟨((ys.map λ y=>y.cps.toList).flatten).toArray⟩
theorem jd{a b:Str}(h:a.cps.toList=b.cps.toList):a=b:=by
 cases a;cases b;simp only [Str.mk.injEq];exact Array.toList_inj.mp h
theorem dq(a b:Str):(a++b).cps.toList=a.cps.toList++b.cps.toList:=by
 show (a.cps++b.cps).toList=_;exact Array.toList_append
theorem yp:∀ {ys:List Str} {us:List Value},Vals (ys.map V.str) us->StrsAre us ys
 | [],_,.nil=>.nil
 | y::_,_,.cons r t=>by
  obtain ⟨k,rfl⟩:=(show ∃ t,_=Value.str y t from r)
  exact .cons y k (yp t)
section
variable (K:W.Frag)
theorem i4(h:X.K=K:=by rfl):MtR X "str.join" (λ x vs H Q=>∃ (z:Str) (p:Addr) (ys:List Str),x = .str z/\vs=[.ref p]/\SqL K H p (ys.map V.str)/\(ys.map (·.length)).sum+ys.length * z.length<=16777216/\Q (.str (Txt.join z ys)) H):=by
 subst h;intro pins s σ H x vs v us Q I rx rv hh;obtain ⟨z,p,ys,rfl,rfl,hq,hz,q⟩:=hh;obtain ⟨t,rfl⟩:=rx;obtain ⟨u,rfl,ru⟩:=rv.one;cases ru;obtain ⟨its,r',pl,_⟩:=I.list hq;exact join_list pl.isList (by simpa using yp r') hz λ t' k=>⟨.str _,H,I.tok _,⟨_,rfl⟩,q⟩
end
theorem zd0:("" : Str).cps.toList=[]:=rfl
theorem join_nil':∀ ys:List Str,(Str.join "" ys).cps.toList=(ys.map λ y=>y.cps.toList).flatten
 | []=>rfl
 | [x]=>by simp [Str.join]
 | x::y::r=>by
  show ((x++("" : Str))++Str.join "" (y::r)).cps.toList=_;rw [dq,dq,join_nil' (y::r),zd0,List.append_nil];rfl
theorem iX(ys:List Str):Txt.join "" ys=bp ys:=by
 exact (StrLaws.glued_eq_join _ _).trans (jd (join_nil' ys))
theorem e9(ys:List Str):(bp ys).cps.toList=(ys.map λ y=>y.cps.toList).flatten:=rfl
theorem fL(ys:List Str):(bp ys).length=(ys.map (·.length)).sum:=by
 show (bp ys).cps.size=_;rw [← Array.length_toList,e9,List.length_flatten,List.map_map];rfl
theorem zbi(a b:List Str):bp (a++b)=bp a++bp b:=by
 apply jd;rw [dq,e9,e9,e9,aE,List.flatten_append]
def Itd(hi:Int)(n:Nat):It:=⟨λ i _=>i < n,λ i H x H'=>H'=H/\x = .int (hi - i),λ i _=>n<=i⟩
theorem zi7(it:Addr)(hi:Int)(n:Nat):gp P w K tg (Itd hi n) [it] it (λ i h=>IsRangeIter h it (hi+(i:Nat) * (-1)) ((n:Int) - (i:Nat)) (-1)) where
 mem:=by simp
 obj:=λ i h st b hb=>by
  have e:b=it:=by simpa using hb
  subst e;exact ⟨_,st,λ v z=>by
   have z':Data.fields _=Data.cell v:=z;cases z'⟩
 keep:=λ i h h' st k=>k it (by simp) _ st
 item:=by
  intro X hP hw hK hc i pins s σ H E I hf st hg;subst hP hw hK;obtain ⟨f0,f1,f2,f3,f4,f5⟩:=hf it (by simp);have W:=Walks.range (prog:=X.prog) (w:=X.w) (I.ok.hd hc) it hi (-1) n;refine W.item i s _ _ hg st λ v h' tk hv st' kk=>?_;obtain ⟨t,rfl⟩:=hv;have I1:Inv X pins σ H { s with heap:=h',toks:=tk }:=I.turned (λ b o hb e=>kk b o (by simpa using hb) e) f0 f1 f3 f4 f5;refine ⟨_,rfl,kY (s:={ s with heap:=h',toks:=tk }) (n := "range_iterator") st' rfl rfl (by decide) ⟨.int (hi - i),H,I1,⟨t,?_⟩,⟨rfl,rfl⟩,st',λ b hb=>(hf b hb).1⟩⟩;have e:hi+(i:Int) * -1=hi - i:=by omega
  rw [e]
 done:=by
  intro X hP hw hK hc i pins s σ H E I hf st hg;subst hP hw hK;obtain ⟨f0,f1,f2,f3,f4,f5⟩:=hf it (by simp);exact wpAny_pyNext_range_end (I.ok.hd hc) st (by have:n<=i:=hg;omega) λ h' eb=>⟨rfl,I.turned (t':=s.toks) (λ b o hb e=>eb b o hb e) f0 f1 f3 f4 f5⟩
 self:=λ _ _ _ _ _ st h=>wpAny_pyIter_rangeiter st h
theorem wB(a b:Int):Builtin.Range.rangeSize a b (-1)=if b < a then a - b else 0:=by
 unfold Builtin.Range.rangeSize;rw [if_neg (by omega)]
 split <;> simp <;> omega
theorem zh7{a b:Int}(ha : -(2 ^ 62)<=a)(ha':a < 2 ^ 62)(hb : -(2 ^ 62)<=b)(hb':b < 2 ^ 62):Builtin.Range.small a b (-1)=true:=by
 unfold Builtin.Range.small;rw [wB];simp only [Builtin.Range.rangeFitsLong,Bool.and_eq_true,Bool.or_eq_true,decide_eq_true_eq,beq_iff_eq,show ¬ ((-1:Int) > 0) by decide,if_false]
 split <;> omega
inductive zbE (R:It->Hp->Prop) (vs:List V) (H1:Hp):Prop
 | i (i j:Int) (_:vs=[.int i,.int j,.int (-1)]) (_:(-(2 ^ 61)<=i/\i < 2 ^ 61/\-(2 ^ 61)<=j/\j < 2 ^ 61)) (_:R (Itd i (i - j).toNat) H1)
def zbD(ta:TA):TI:=λ σ H R=>ta σ H λ vs H1=>zbE R vs H1
theorem zaL{R:It->Hp->Prop}{hi:Int}{t u v:Tok}(I:Inv X pins σ H s)(h1 : -(2 ^ 62)<=hi)(h2:hi < 2 ^ 62)(h3 : -(2 ^ 62)<=lo)(h4:lo < 2 ^ 62)(q:R (Itd hi (hi - lo).toNat) H):wpAny (model X.prog X.w) X.A (pyIter (.ref s.heap.objs.size)) (PIE X pins σ tg R) E { s with heap:=s.heap.push { cls:=.type "range", data:=.fields #[.int hi t,.int lo u,.int (-1) v] },toks:=tk }:=by
 refine wpAny_pyIter_range (IsRange.new ..) (zh7 h1 h2 h3 h4) ?_;have I1:Inv X pins σ H { s with heap:=s.heap.push { cls:=.type "range", data:=.fields #[.int hi t,.int lo u,.int (-1) v] },toks:=tk }:=I.kept λ b o e=>bf _ e;refine ⟨(s.heap.push { cls:=.type "range", data:=.fields #[.int hi t,.int lo u,.int (-1) v] }).objs.size,[(s.heap.push { cls:=.type "range", data:=.fields #[.int hi t,.int lo u,.int (-1) v] }).objs.size],_,_,H,rfl,
  I1.kept (t':=tk) λ b o e=>bf _ e,zi7 _ hi (hi - lo).toNat,?_,λ b hb=>?_,q⟩
 ·have e1:hi+((0:Nat):Int) * (-1)=hi:=by simp
  have e2:(((hi - lo).toNat:Nat):Int) - ((0:Nat):Int)=Builtin.Range.rangeSize hi lo (-1):=by rw [wB];split <;> omega
  show IsRangeIter _ _ (hi+((0:Nat):Int) * (-1)) ((((hi - lo).toNat:Nat):Int) - ((0:Nat):Int)) (-1);rw [e1,e2];exact Heap.get?_push_size _ rfl
 ·have e:b=(s.heap.push { cls:=.type "range", data:=.fields #[.int hi t,.int lo u,.int (-1) v] }).objs.size:=by simpa using hb
  subst e;exact I1.fpOk (az _) (I1.hok.fresh (az _))
theorem zf8{a b c:Expr}{ta:TA}(hg:Gl X "range")(hm:X.mg "range" = none)(ha:PA X [a,b,c] ta)(hs:starEach [a,b,c] X.env=[(false,eval a X.env),(false,eval b X.env),(false,eval c X.env)]:=by rfl)(hs2:starEach [b,c] X.env=[(false,eval b X.env),(false,eval c X.env)]:=by rfl):PI X tg (.Call (.Name "range" p) [a,b,c] [] pos) (zbD ta):=by
 intro pins s σ H R I h;refine Call_ (eJ I hg hm boot_range (PyProof.Rows.callWith_type1 (thn (ha pos pins s σ H _ I h) λ us s1 ⟨vs,H1,I1,r1,q1⟩=>?_) (by rw [hs,hs2]) (by rw [hs2];rfl)));obtain ⟨i,j,e,⟨q1,q2,q3,q4⟩,q⟩:=q1;subst e;cases r1 with
 | cons r rr=>
  cases rr with
  | cons r' rr=>
   cases rr with
   | cons r'' rr=>
    cases rr;obtain ⟨t,rfl⟩:=r;obtain ⟨t',rfl⟩:=r';obtain ⟨t'',rfl⟩:=r'';exact call_range_3 (by decide) (zaL I1 (by omega) (by omega) (by omega) (by omega) q) (Or.inl (PyProof.noPylong_small (by omega)))
theorem zaA{fr:List (Option Nat)}(Pv:Nat->List V->Hp->Prop)(h0:Pv 0 [] H)(hl:∀ i acc H,i<=n->Pv i acc H->acc.length<=i)(hz:n<=sizeLine)(hs:∀ i acc H,i < n->Pv i acc H->g (.int (lo - i)) (stC fr σ) H λ σ2 H2=>Wk (stC fr σ) σ2/\tc σ2 H2 λ b H3=>
   if b=true then te σ2 H3 λ y H4=>∃ m',m' < n - i/\CW n Pv (i+1) m' (acc++[y]) H4 else ∃ m',m' < n - i/\CW n Pv (i+1) m' acc H3)(hd:∀ acc H,Pv n acc H->Qe acc H):
  ∃ W:Nat->Nat->List V->Hp->Prop,(∃ m,W 0 m [] H)/\∀ i m acc H,W i m acc H->
   ((Itd lo n).stop i H/\Qe acc H)\/
   ((Itd lo n).go i H/\acc.length < sizeLine/\∀ x H',(Itd lo n).yld i H x H'->g x (stC fr σ) H' λ σ2 H2=>Wk (stC fr σ) σ2/\tc σ2 H2 λ b H3=>
    if b=true then te σ2 H3 λ y H4=>∃ m',m' < m/\W (i+1) m' (acc++[y]) H4 else ∃ m',m' < m/\W (i+1) m' acc H3):=by
 refine ⟨CW n Pv,⟨n,by simp,Nat.zero_le _,h0⟩,?_⟩;rintro i m acc H ⟨rfl,hi,p⟩;have ql:=hl i acc H hi p;by_cases hlt:i < n
 ·refine .inr ⟨hlt,by omega,λ x H' y=>?_⟩;obtain ⟨e,y⟩:=y;subst e y;exact hs i acc _ hlt p
 ·have e:i=n:=by omega
  subst e;exact .inl ⟨az _,hd acc H p⟩
def ziS(K:W.Frag)(ta:TE):TT:=λ σ H Q=>ta σ H λ x H'=>∃ k,mT K x H' k/\Q k H'
theorem zgq(K:W.Frag){a:Expr}(ha:PE X a ta)(h:X.K=K:=by rfl)(he:∀ whole,isTrue a X.env whole=(do let v ← whole;standAt a.pos;holding [v] (truthy v)):=by intro _;rfl):PT X a (ziS K ta):=by
 subst h;exact zgp ha he
section
open PySem.W
def fN(xs:Array Value)(c:Nat):Obj:={ cls:=.type "list", dict:=none,data:=.seq xs c,slots:=#[] }
def Kp(wr:List Addr)(S:Addr)(h h':Heap):Prop:=∀ b o,b∉wr->b≠S->h.get? b=some o->h'.get? b=some o
section
variable {P:Nat->Value->Prop} {St:Nat->Heap->Prop}
theorem zcU(W:Walks prog w A.in1 I fp wr n P St)(cm:CmpOf prog w A.in1 .Gt P bt)(away:S∉fp):∀ (k j:Nat) (s:Shared) (vb:Value) (c:Nat),n=j+1+k->St (j+1) s.heap->P (argBest bt j) vb->s.heap.get? S=some (fN #[vb,vb] c)->
  (∀ v h' tk,P (argBest bt (n - 1)) v->Kp wr S s.heap h'->R (.ok (.ret v)) { s with heap:=h',toks:=tk })->codeAny (model prog w) A (.builtin "max.loop" ⟨[.ref I,.none,.ref S],kw⟩) R s:=by
 have awr:S∉wr:=λ z=>away (W.sub _ z);have nm:(toString "max" ++ toString ".loop" : String) = "max.loop" := by decide
 intro k;induction k with
 | zero=>
  intro j s vb c hn st pb gS goal;refine codeAny_builtin F.entry_max_loop ?_;rw [Around.under_plainId F.plain_max_loop _];show wpAny _ A.in1 (Bind.bind (seqItems? (.ref S)) _) _ _ s;refine ao (wpAny_seqItems gS rfl ?_);show wpAny _ A.in1 (Bind.bind (tryCatch (pyNext (.ref I)) _) _) _ _ s;refine ao (wpAny_tryCatch (W.done s _ _ (by rw [hn];exact st) λ h' tk kp=>?_));have gS':=kp S _ awr gS;show wpAny _ A.in1 (Bind.bind (updateSeq S (λ _=>#[])) _) _ _ _;refine ao (wpAny_updateSeq gS' rfl (ao (wpAny_letGo (aL ?_))));exact goal vb _ tk (by rw [hn];exact pb) λ b o nb nS e=>(Heap.get?_update_other _ _ (Ne.symm nS)).trans (kp b o nb e)
 | succ k ih=>
  intro j s vb c hn st pb gS goal;refine codeAny_builtin F.entry_max_loop ?_;rw [Around.under_plainId F.plain_max_loop _];show wpAny _ A.in1 (Bind.bind (seqItems? (.ref S)) _) _ _ s;refine ao (wpAny_seqItems gS rfl ?_);show wpAny _ A.in1 (Bind.bind (tryCatch (pyNext (.ref I)) _) _) _ _ s;refine ao (wpAny_tryCatch (W.item (j+1) s _ _ (by omega) st λ v h' tk pv st' kp=>?_));have gS':=kp S _ awr gS;show wpAny _ A.in1 (Bind.bind (tryCatch (holding [v,v] (Bind.bind (richCompare .Gt v vb) _)) _) _) _ _ _;refine ao (wpAny_tryCatch (wpAny_holding (ao (cm (j+1) (argBest bt j) v vb _ _ _ pv pb ?_))));refine ao (wpAny_holding (wpAny_truthy_bool (ao (wpAny_letGo (aL ?_)))));cases hb:bt (j+1) (argBest bt j) with
  | true=>
   simp only [if_true];refine ao (wpAny_updateSeq gS' rfl (ao (wpAny_letGo ?_)));rw [nm];have stU:=W.frame _ _ (Heap.update h' S (Obj.mapSeq λ _=>#[v,v])) st' λ b nb o e=>(Heap.get?_update_other h' _ (show S≠b from λ z=>away (z ▸ nb))).trans e;have pU:P (argBest bt (j+1)) v:=by simp only [argBest,hb,if_true];exact pv
   exact aL ⟨plainId_quiet F.plain_max_loop _,ih (j+1) _ v _ (by omega) stU pU (Heap.get?_update_self _ gS' rfl) λ v' h2 tk2 p' kp2=>goal v' h2 tk2 p' λ b o nb nS e=>kp2 b o nb nS ((Heap.get?_update_other _ _ (Ne.symm nS)).trans (kp b o nb e))⟩
  | false=>
   simp only [Bool.false_eq_true,if_false];refine ao (wpAny_letGo ?_);rw [nm];have pU:P (argBest bt (j+1)) vb:=by simp only [argBest,hb,Bool.false_eq_true,if_false];exact pb
   exact aL ⟨plainId_quiet F.plain_max_loop _,ih (j+1) _ vb c (by omega) st' pU gS' λ v' h2 tk2 p' kp2=>goal v' h2 tk2 p' λ b o nb nS e=>kp2 b o nb nS (kp b o nb e)⟩
theorem zcT(W:Walks prog w A.in1 I fp wr n P St)(cm:CmpOf prog w A.in1 .Gt P bt)(away:S∉fp)(pos:0 < n){c:Nat}(st:St 0 s.heap)(gS:s.heap.get? S=some (fN #[] c))(goal:∀ v h' tk,P (argBest bt (n - 1)) v->Kp wr S s.heap h'->R (.ok (.ret v)) { s with heap:=h',toks:=tk }):codeAny (model prog w) A (.builtin "max.loop" ⟨[.ref I,.none,.ref S],kw⟩) R s:=by
 have awr:S∉wr:=λ z=>away (W.sub _ z);have nm:(toString "max" ++ toString ".loop" : String) = "max.loop" := by decide
 refine codeAny_builtin F.entry_max_loop ?_;rw [Around.under_plainId F.plain_max_loop _];show wpAny _ A.in1 (Bind.bind (seqItems? (.ref S)) _) _ _ s;refine ao (wpAny_seqItems gS rfl ?_);show wpAny _ A.in1 (Bind.bind (tryCatch (pyNext (.ref I)) _) _) _ _ s;refine ao (wpAny_tryCatch (W.item 0 s _ _ pos st λ v h' tk pv st' kp=>?_));have gS':=kp S _ awr gS;show wpAny _ A.in1 (Bind.bind (updateSeq S (λ _=>#[v,v])) _) _ _ _;refine ao (wpAny_updateSeq gS' rfl ?_);rw [nm];have stU:=W.frame _ _ (Heap.update h' S (Obj.mapSeq λ _=>#[v,v])) st' λ b nb o e=>(Heap.get?_update_other h' _ (show S≠b from λ z=>away (z ▸ nb))).trans e;exact aL ⟨plainId_quiet F.plain_max_loop _,zcU W cm away (n - 1) 0 _ v _ (by omega) stU pv (Heap.get?_update_self _ gS' rfl) λ v' h2 tk2 p' kp2=>goal v' h2 tk2 p' λ b o nb nS e=>kp2 b o nb nS ((Heap.get?_update_other _ _ (Ne.symm nS)).trans (kp b o nb e))⟩
theorem zcV(W:Walks prog w A.in1 I fp wr 0 P St)(away:S∉fp){c:Nat}{k:Str}{d:Value}(st:St 0 s.heap)(gS:s.heap.get? S=some (fN #[] c))(goal:∀ h' tk,Kp wr S s.heap h'->R (.ok (.ret d)) { s with heap:=h',toks:=tk }):codeAny (model prog w) A (.builtin "max.loop" ⟨[.ref I,.none,.ref S],[(k,d)]⟩) R s:=by
 refine codeAny_builtin F.entry_max_loop ?_;rw [Around.under_plainId F.plain_max_loop _];show wpAny _ A.in1 (Bind.bind (seqItems? (.ref S)) _) _ _ s;refine ao (wpAny_seqItems gS rfl ?_);show wpAny _ A.in1 (Bind.bind (tryCatch (pyNext (.ref I)) _) _) _ _ s;refine ao (wpAny_tryCatch (W.done s _ _ st λ h' tk kp=>?_));refine ao (wpAny_rule ?_);exact aL (goal h' tk λ b o nb _ e=>kp b o nb e)
end
section
variable {l:Addr} {xs:Array (Int × Tok)} {d:Value}
theorem zcS(a d:Value):argsOk "max" ⟨[a],[(Str.ofString "default", d)]⟩:=by (unfold argsOk);kernel_rfl
theorem zcR(hh:A.handled=none)(hl:s.heap.IsList l (intItems xs))(one:∀ v h' tk,0 < xs.size->(intItems xs)[argBest (λ i j=>decide (numAt xs i > numAt xs j)) (xs.size - 1)]?=some v->(∀ b o,s.heap.get? b=some o->h'.get? b=some o)->Q v { s with heap:=h',toks:=tk })(none_:∀ h' tk,xs.size=0->(∀ b o,s.heap.get? b=some o->h'.get? b=some o)->Q d { s with heap:=h',toks:=tk }):
  wpAny (model prog w) A (call (.builtin "max") [.ref l] [(Str.ofString "default", d)]) Q E s:=by
 have nm:(toString "max" ++ toString ".loop" : String) = "max.loop" := by decide
 have size:(intItems xs).size=xs.size:=by simp [intItems]
 refine kmk_tree F.kind_max F.plain_max F.entry_max (zcS _ _) ?_;show wpAny _ A.in1 (Bind.bind (Builtin.Builtins.bindParams "max" ["key", "default"] 0 ⟨[],[(Str.ofString "default", d)]⟩) _) _ _ s;refine ao (wpAny_of_eq (show Builtin.Builtins.bindParams "max" ["key", "default"] 0 ⟨[],[(Str.ofString "default", d)]⟩=pure [none,some d] from rfl) (ao (aL (ao (iter_intList hl λ s₂ e st low ne=>?_)))));subst e;refine ao (wpAny_newList ?_ (Nat.zero_le _));rw [nm];have W:=Walks.list (prog:=prog) (w:=w) (A:=A.in1) hh s.heap.objs.size l ne (intItems xs);have away:(s.heap.push { cls:=.type "list_iterator", data:=.fields #[.ref l,.int 0 0] }).objs.size∉[s.heap.objs.size,l]:=λ z=>Nat.lt_irrefl _ (low _ z);have old:∀ {h':Heap},Kp [s.heap.objs.size] (s.heap.push { cls:=.type "list_iterator", data:=.fields #[.ref l,.int 0 0] }).objs.size ((s.heap.push { cls:=.type "list_iterator", data:=.fields #[.ref l,.int 0 0] }).push (fN #[] 0)) h'->
   ∀ b o,s.heap.get? b=some o->h'.get? b=some o:=λ kp b o e=>by
  have lt:=aS e;refine kp b o (by simpa using be lt) (λ z=>?_) (bf _ (bf _ e));rw [z,Heap.size_push] at lt;exact absurd (Nat.lt_trans (Nat.lt_succ_self _) lt) (Nat.lt_irrefl _)
 have st2:=W.frame 0 _ ((s.heap.push { cls:=.type "list_iterator", data:=.fields #[.ref l,.int 0 0] }).push (fN #[] 0)) st λ b _ o e=>bf _ e;refine aL ⟨plainId_quiet F.plain_max_loop _,?_⟩;by_cases pos:0 < xs.size
 ·exact zcT W (CmpOf.ints_gt (numAt xs) (λ _ _=>intItems_at)) away (by rw [size];exact pos) st2 (Heap.get?_push_size _ rfl) λ v h' tk p kp=>one v h' tk pos (by rw [size] at p;exact p) (old kp)
 ·have e0:xs.size=0:=by omega
  rw [size,e0] at W;exact zcV W away st2 (Heap.get?_push_size _ rfl) λ h' tk kp=>none_ h' tk e0 (old kp)
end
section
variable {P:Nat->Value->Prop} {St:Nat->Heap->Prop}
theorem zc2(W:Walks prog w A.in1 I fp wr n P St)(cm:CmpOf prog w A.in1 .Lt P bt)(away:S∉fp):∀ (k j:Nat) (s:Shared) (vb:Value) (c:Nat),n=j+1+k->St (j+1) s.heap->P (argBest bt j) vb->s.heap.get? S=some (fN #[vb,vb] c)->
  (∀ v h' tk,P (argBest bt (n - 1)) v->Kp wr S s.heap h'->R (.ok (.ret v)) { s with heap:=h',toks:=tk })->codeAny (model prog w) A (.builtin "min.loop" ⟨[.ref I,.none,.ref S],kw⟩) R s:=by
 have awr:S∉wr:=λ z=>away (W.sub _ z);have nm:(toString "min" ++ toString ".loop" : String) = "min.loop" := by decide
 intro k;induction k with
 | zero=>
  intro j s vb c hn st pb gS goal;refine codeAny_builtin F.entry_min_loop ?_;rw [Around.under_plainId F.plain_min_loop _];show wpAny _ A.in1 (Bind.bind (seqItems? (.ref S)) _) _ _ s;refine ao (wpAny_seqItems gS rfl ?_);show wpAny _ A.in1 (Bind.bind (tryCatch (pyNext (.ref I)) _) _) _ _ s;refine ao (wpAny_tryCatch (W.done s _ _ (by rw [hn];exact st) λ h' tk kp=>?_));have gS':=kp S _ awr gS;show wpAny _ A.in1 (Bind.bind (updateSeq S (λ _=>#[])) _) _ _ _;refine ao (wpAny_updateSeq gS' rfl (ao (wpAny_letGo (aL ?_))));exact goal vb _ tk (by rw [hn];exact pb) λ b o nb nS e=>(Heap.get?_update_other _ _ (Ne.symm nS)).trans (kp b o nb e)
 | succ k ih=>
  intro j s vb c hn st pb gS goal;refine codeAny_builtin F.entry_min_loop ?_;rw [Around.under_plainId F.plain_min_loop _];show wpAny _ A.in1 (Bind.bind (seqItems? (.ref S)) _) _ _ s;refine ao (wpAny_seqItems gS rfl ?_);show wpAny _ A.in1 (Bind.bind (tryCatch (pyNext (.ref I)) _) _) _ _ s;refine ao (wpAny_tryCatch (W.item (j+1) s _ _ (by omega) st λ v h' tk pv st' kp=>?_));have gS':=kp S _ awr gS;show wpAny _ A.in1 (Bind.bind (tryCatch (holding [v,v] (Bind.bind (richCompare .Lt v vb) _)) _) _) _ _ _;refine ao (wpAny_tryCatch (wpAny_holding (ao (cm (j+1) (argBest bt j) v vb _ _ _ pv pb ?_))));refine ao (wpAny_holding (wpAny_truthy_bool (ao (wpAny_letGo (aL ?_)))));cases hb:bt (j+1) (argBest bt j) with
  | true=>
   simp only [if_true];refine ao (wpAny_updateSeq gS' rfl (ao (wpAny_letGo ?_)));rw [nm];have stU:=W.frame _ _ (Heap.update h' S (Obj.mapSeq λ _=>#[v,v])) st' λ b nb o e=>(Heap.get?_update_other h' _ (show S≠b from λ z=>away (z ▸ nb))).trans e;have pU:P (argBest bt (j+1)) v:=by simp only [argBest,hb,if_true];exact pv
   exact aL ⟨plainId_quiet F.plain_min_loop _,ih (j+1) _ v _ (by omega) stU pU (Heap.get?_update_self _ gS' rfl) λ v' h2 tk2 p' kp2=>goal v' h2 tk2 p' λ b o nb nS e=>kp2 b o nb nS ((Heap.get?_update_other _ _ (Ne.symm nS)).trans (kp b o nb e))⟩
  | false=>
   simp only [Bool.false_eq_true,if_false];refine ao (wpAny_letGo ?_);rw [nm];have pU:P (argBest bt (j+1)) vb:=by simp only [argBest,hb,Bool.false_eq_true,if_false];exact pb
   exact aL ⟨plainId_quiet F.plain_min_loop _,ih (j+1) _ vb c (by omega) st' pU gS' λ v' h2 tk2 p' kp2=>goal v' h2 tk2 p' λ b o nb nS e=>kp2 b o nb nS (kp b o nb e)⟩
theorem zc1(W:Walks prog w A.in1 I fp wr n P St)(cm:CmpOf prog w A.in1 .Lt P bt)(away:S∉fp)(pos:0 < n){c:Nat}(st:St 0 s.heap)(gS:s.heap.get? S=some (fN #[] c))(goal:∀ v h' tk,P (argBest bt (n - 1)) v->Kp wr S s.heap h'->R (.ok (.ret v)) { s with heap:=h',toks:=tk }):codeAny (model prog w) A (.builtin "min.loop" ⟨[.ref I,.none,.ref S],kw⟩) R s:=by
 have awr:S∉wr:=λ z=>away (W.sub _ z);have nm:(toString "min" ++ toString ".loop" : String) = "min.loop" := by decide
 refine codeAny_builtin F.entry_min_loop ?_;rw [Around.under_plainId F.plain_min_loop _];show wpAny _ A.in1 (Bind.bind (seqItems? (.ref S)) _) _ _ s;refine ao (wpAny_seqItems gS rfl ?_);show wpAny _ A.in1 (Bind.bind (tryCatch (pyNext (.ref I)) _) _) _ _ s;refine ao (wpAny_tryCatch (W.item 0 s _ _ pos st λ v h' tk pv st' kp=>?_));have gS':=kp S _ awr gS;show wpAny _ A.in1 (Bind.bind (updateSeq S (λ _=>#[v,v])) _) _ _ _;refine ao (wpAny_updateSeq gS' rfl ?_);rw [nm];have stU:=W.frame _ _ (Heap.update h' S (Obj.mapSeq λ _=>#[v,v])) st' λ b nb o e=>(Heap.get?_update_other h' _ (show S≠b from λ z=>away (z ▸ nb))).trans e;exact aL ⟨plainId_quiet F.plain_min_loop _,zc2 W cm away (n - 1) 0 _ v _ (by omega) stU pv (Heap.get?_update_self _ gS' rfl) λ v' h2 tk2 p' kp2=>goal v' h2 tk2 p' λ b o nb nS e=>kp2 b o nb nS ((Heap.get?_update_other _ _ (Ne.symm nS)).trans (kp b o nb e))⟩
theorem zc3(W:Walks prog w A.in1 I fp wr 0 P St)(away:S∉fp){c:Nat}{k:Str}{d:Value}(st:St 0 s.heap)(gS:s.heap.get? S=some (fN #[] c))(goal:∀ h' tk,Kp wr S s.heap h'->R (.ok (.ret d)) { s with heap:=h',toks:=tk }):codeAny (model prog w) A (.builtin "min.loop" ⟨[.ref I,.none,.ref S],[(k,d)]⟩) R s:=by
 refine codeAny_builtin F.entry_min_loop ?_;rw [Around.under_plainId F.plain_min_loop _];show wpAny _ A.in1 (Bind.bind (seqItems? (.ref S)) _) _ _ s;refine ao (wpAny_seqItems gS rfl ?_);show wpAny _ A.in1 (Bind.bind (tryCatch (pyNext (.ref I)) _) _) _ _ s;refine ao (wpAny_tryCatch (W.done s _ _ st λ h' tk kp=>?_));refine ao (wpAny_rule ?_);exact aL (goal h' tk λ b o nb _ e=>kp b o nb e)
end
section
variable {l:Addr} {xs:Array (Int × Tok)} {d:Value}
theorem zc0(a d:Value):argsOk "min" ⟨[a],[(Str.ofString "default", d)]⟩:=by (unfold argsOk);kernel_rfl
theorem zcZ(hh:A.handled=none)(hl:s.heap.IsList l (intItems xs))(one:∀ v h' tk,0 < xs.size->(intItems xs)[argBest (λ i j=>decide (numAt xs i < numAt xs j)) (xs.size - 1)]?=some v->(∀ b o,s.heap.get? b=some o->h'.get? b=some o)->Q v { s with heap:=h',toks:=tk })(none_:∀ h' tk,xs.size=0->(∀ b o,s.heap.get? b=some o->h'.get? b=some o)->Q d { s with heap:=h',toks:=tk }):
  wpAny (model prog w) A (call (.builtin "min") [.ref l] [(Str.ofString "default", d)]) Q E s:=by
 have nm:(toString "min" ++ toString ".loop" : String) = "min.loop" := by decide
 have size:(intItems xs).size=xs.size:=by simp [intItems]
 refine kmk_tree F.kind_min F.plain_min F.entry_min (zc0 _ _) ?_;show wpAny _ A.in1 (Bind.bind (Builtin.Builtins.bindParams "min" ["key", "default"] 0 ⟨[],[(Str.ofString "default", d)]⟩) _) _ _ s;refine ao (wpAny_of_eq (show Builtin.Builtins.bindParams "min" ["key", "default"] 0 ⟨[],[(Str.ofString "default", d)]⟩=pure [none,some d] from rfl) (ao (aL (ao (iter_intList hl λ s₂ e st low ne=>?_)))));subst e;refine ao (wpAny_newList ?_ (Nat.zero_le _));rw [nm];have W:=Walks.list (prog:=prog) (w:=w) (A:=A.in1) hh s.heap.objs.size l ne (intItems xs);have away:(s.heap.push { cls:=.type "list_iterator", data:=.fields #[.ref l,.int 0 0] }).objs.size∉[s.heap.objs.size,l]:=λ z=>Nat.lt_irrefl _ (low _ z);have old:∀ {h':Heap},Kp [s.heap.objs.size] (s.heap.push { cls:=.type "list_iterator", data:=.fields #[.ref l,.int 0 0] }).objs.size ((s.heap.push { cls:=.type "list_iterator", data:=.fields #[.ref l,.int 0 0] }).push (fN #[] 0)) h'->
   ∀ b o,s.heap.get? b=some o->h'.get? b=some o:=λ kp b o e=>by
  have lt:=aS e;refine kp b o (by simpa using be lt) (λ z=>?_) (bf _ (bf _ e));rw [z,Heap.size_push] at lt;exact absurd (Nat.lt_trans (Nat.lt_succ_self _) lt) (Nat.lt_irrefl _)
 have st2:=W.frame 0 _ ((s.heap.push { cls:=.type "list_iterator", data:=.fields #[.ref l,.int 0 0] }).push (fN #[] 0)) st λ b _ o e=>bf _ e;refine aL ⟨plainId_quiet F.plain_min_loop _,?_⟩;by_cases pos:0 < xs.size
 ·exact zc1 W (CmpOf.ints_lt (numAt xs) (λ _ _=>intItems_at)) away (by rw [size];exact pos) st2 (Heap.get?_push_size _ rfl) λ v h' tk p kp=>one v h' tk pos (by rw [size] at p;exact p) (old kp)
 ·have e0:xs.size=0:=by omega
  rw [size,e0] at W;exact zc3 W away st2 (Heap.get?_push_size _ rfl) λ h' tk kp=>none_ h' tk e0 (old kp)
end
section
variable (K:W.Frag)
theorem uN(r:Vals (ns.map V.int) its):∃ ws:Array (Int × Tok),its.toArray=intItems ws/\ns=ws.toList.map (·.1):=by
 have hi:=lg r;obtain ⟨ws,e⟩:=hi.allInts.items;refine ⟨ws,e,?_⟩;have q1:=hi.numsOf;have q2:=nums_intItems ws;rw [← e] at q2;rw [← q1];exact q2
inductive wu (xs:List V) (d:V) (H:Hp) (Q:VK):Prop
 | i (p:Addr) (ns:List Int) (_:xs=[.ref p]) (_:SqL K H p (ns.map V.int)) (_:(ns=[]->Q d H)) (_:∀ M:Int,M∈ns->(∀ a∈ns,a<=M)->Q (.int M) H)
inductive wv (xs:List V) (d:V) (H:Hp) (Q:VK):Prop
 | i (p:Addr) (ns:List Int) (_:xs=[.ref p]) (_:SqL K H p (ns.map V.int)) (_:(ns=[]->Q d H)) (_:∀ M:Int,M∈ns->(∀ a∈ns,M<=a)->Q (.int M) H)
def mL(X:Cx)(id:String)(k:Str)(r:List V->V->Hp->VK->Prop):Prop:=
 ∀ (pins:List (Addr × Obj)) (s:Shared) (σ:St) (H:Hp) (xs:List V) (us:List Value) (d:V) (dv:Value) (Q:VK),Inv X pins σ H s->Vals xs us->RelV d dv->r xs d H Q->
  wpAny (model X.prog X.w) X.A (call (.builtin id) us [(k,dv)]) (EP X pins σ Q) X.xe s
theorem zas(hc:X.calm=true)(h:X.K=K:=by rfl):mL X "max" "default" (wu K):=by
 subst h;intro pins s σ H xs us d dv Q I rv rd hh;obtain ⟨p,ns,rfl,hq,q0,q⟩:=hh;obtain ⟨u,rfl,ru⟩:=dk rv;cases ru;obtain ⟨its,r,pl,hz⟩:=I.list hq;obtain ⟨ws,e,en⟩:=uN r;refine zcR (I.ok.hd hc) (e ▸ pl.isList) (λ v h' tk pos hv hk=>?_) (λ h' tk e0 hk=>⟨d,H,I.kept (t':=tk) hk,rd,q0 ?_⟩)
 ·obtain ⟨t,rfl⟩:=intItems_at hv;obtain ⟨h1,h2⟩:=argBest_gt (numAt ws) (ws.size - 1);refine ⟨.int _,H,I.kept (t':=tk) hk,⟨t,rfl⟩,q _ ?_ λ a ha=>?_⟩
  ·rw [en,numAt_eq];exact getD_mem (by rw [ae,Array.length_toList];omega)
  ·rw [en] at ha;obtain ⟨j,hj,rfl⟩:=mem_getD ha;rw [ae,Array.length_toList] at hj;rw [← numAt_eq];exact h2 j (by omega)
 ·rw [en,List.eq_nil_of_length_eq_zero (show ws.toList.length=0 by rw [Array.length_toList];exact e0)];rfl
theorem zav(hc:X.calm=true)(h:X.K=K:=by rfl):mL X "min" "default" (wv K):=by
 subst h;intro pins s σ H xs us d dv Q I rv rd hh;obtain ⟨p,ns,rfl,hq,q0,q⟩:=hh;obtain ⟨u,rfl,ru⟩:=dk rv;cases ru;obtain ⟨its,r,pl,hz⟩:=I.list hq;obtain ⟨ws,e,en⟩:=uN r;refine zcZ (I.ok.hd hc) (e ▸ pl.isList) (λ v h' tk pos hv hk=>?_) (λ h' tk e0 hk=>⟨d,H,I.kept (t':=tk) hk,rd,q0 ?_⟩)
 ·obtain ⟨t,rfl⟩:=intItems_at hv;obtain ⟨h1,h2⟩:=argBest_lt (numAt ws) (ws.size - 1);refine ⟨.int _,H,I.kept (t':=tk) hk,⟨t,rfl⟩,q _ ?_ λ a ha=>?_⟩
  ·rw [en,numAt_eq];exact getD_mem (by rw [ae,Array.length_toList];omega)
  ·rw [en] at ha;obtain ⟨j,hj,rfl⟩:=mem_getD ha;rw [ae,Array.length_toList] at hj;rw [← numAt_eq];exact h2 j (by omega)
 ·rw [en,List.eq_nil_of_length_eq_zero (show ws.toList.length=0 by rw [Array.length_toList];exact e0)];rfl
variable {id:String} {k:Str} {ed:Expr} {t:TA} {r:List V->V->Hp->VK->Prop}
def tCD(r:List V->V->Hp->VK->Prop)(t:TA)(td:TE):TE:=λ σ H Q=>t σ H λ vs H1=>td σ H1 λ d H2=>r vs d H2 Q
theorem vS(hc:mL X id k r)(hg:Gl X x)(hm:X.mg x=none)(hv:bootBuiltins x=some (.builtin id))(ha:PA X (e::es) t)(hd:PE X ed td)(hn:x ≠ "__name__" := by decide)(hdb:(x == ("__debug__" : Str))=false:=by decide)(he:backTo pos (starEach (e::es) X.env)=(false,eval e X.env)::backTo pos (starEach es X.env):=by rfl)(hpl:(backTo pos (starEach (e::es) X.env)).any (·.1)=false:=by rfl):PE X (.Call (.Name x p) (e::es) [⟨some k,ed,kpos⟩] pos) (tCD r t td):=by
 intro pins s σ H Q I h;refine wpAny_Call_Name_kw (eJ I hg hm hv ?_ hn hdb);refine PyProof.Rows.callWith_kw (thn (ha pos pins s σ H _ I h) λ us s1 ⟨vs,H1,I1,r1,q1⟩=>?_) he hpl rfl rfl;refine kws_cons (thn (hd pins s1 σ H1 _ I1 q1) λ dv s2 ⟨d,H2,I2,r2,q2⟩=>kws_nil ?_);exact hc pins s2 σ H2 vs us d dv Q I2 r1 r2 q2
end
end
section
open PySem.W
inductive zgK (x:V) (vs:List V) (H:Hp) (Q:VK):Prop
 | i (a:Addr) (kvs:List (Key × V)) (k:Key) (v:V) (_:x = .ref a) (_:vs=[kV k,v]) (_:H a=some (.dK kvs)) (_:(∀ z,bJ kvs k=some z->Q z H)) (_:(bJ kvs k=none->kvs.length < sizeLine/\Q v (upd H a (.dK (bO kvs k v)))))
theorem zc9:MtR X "dict.setdefault" zgK:=by
 intro pins s σ H x vs xv us Q I rx rv hh;obtain ⟨a,kvs,k,v,rfl,rfl,e,q1,q2⟩:=hh;cases (show xv=Value.ref a from rx);obtain ⟨ku,vu,rfl,rk,rw'⟩:=rv.two;obtain ⟨z,hd,ws,rel,dd⟩:=kP I.hok e;have hz:ws.length<=sizeLine:=by rw [← rel.length];exact z
 have val:=rel.val k;refine call_meetsIn F.slot_dict_setdefault dd.typeIs F.entry_dict_setdefault (F.args_dict_setdefault_3 _ _ _) (kt_meets_setdefault (cO X.prog X.w) a (hG rk) hd vu) ⟨ws,dd,hz,λ u hu=>?_,λ hu h' dd' hs=>?_⟩
 ·rw [hu] at val;cases ez:bJ kvs k with
  | none=>rw [ez] at val;exact val.elim
  | some y=>
   rw [ez] at val;exact ⟨y,H,I.tok _,val,q1 y ez⟩
 ·rw [hu] at val;cases ez:bJ kvs k with
  | some y=>rw [ez] at val;exact val.elim
  | none=>
   obtain ⟨l,q⟩:=q2 ez;have hl:(bO kvs k v).length<=sizeLine:=by have:=jG kvs k v;omega
   have he:∃ q,h'.get? a=some q:=let ⟨q,_,_,hq,_⟩:=dd';⟨q,hq⟩;exact ⟨v,_,kO I (by rw [e];exact True.intro) hs he (jw hl hd (rel.put k rw') dd'),rw',q⟩
theorem yn:∀ {xs:List V} {us:List Value},xs.length=us.length->(∀ (j:Nat) (x:V) (u:Value),xs[j]?=some x->us[j]?=some u->RelV x u)->Vals xs us
 | [],[],_,_=>.nil
 | [],_::_,h,_=>nomatch h
 | _::_,[],h,_=>nomatch h
 | x::xs,u::us,h,r=>.cons (r 0 x u rfl rfl) (yn (Nat.succ.inj h) λ j y z h1 h2=>r (j+1) y z h1 h2)
theorem zgZ{k:Key}(h:(cO P w).is k v=true):RelV (kV k) v:=by
 rcases fb h with ⟨rfl,rfl⟩ | ⟨i,t,rfl,rfl⟩ | ⟨x,t,rfl,rfl⟩
 ·rfl
 ·exact ⟨t,rfl⟩
 ·exact ⟨t,rfl⟩
theorem zce{kvs:List (κ × V)}{ws:List (κ × Value)}(r:KV kvs ws)(j:Nat):(kvs[j]?).map (·.1)=(ws[j]?).map (·.1):=by
 unfold KV at r;induction r generalizing j with
 | nil=>rfl
 | cons h t ih=>
  cases j with
  | zero=>exact congrArg some h.1
  | succ j=>exact ih j
inductive zgB (xs:List V) (H:Hp) (Q:VK):Prop
 | i (a:Addr) (kvs:List (Key × V)) (_:xs=[.ref a]) (_:H a=some (.dK kvs)) (_:∀ l,H l=none->Q (.ref l) (upd H l (.lst (kvs.map λ kv=>kV kv.1))))
theorem tH(hc:X.calm=true):CallR X (.type "list") zgB:=by
 intro pins s σ H xs us Q I rv hh;obtain ⟨a,kvs,rfl,e,q⟩:=hh;obtain ⟨u,rfl,ru⟩:=dk rv;cases ru;obtain ⟨z,hd,ws,rel,dd⟩:=kP I.hok e;have hl:kvs.length=ws.length:=rel.length;obtain ⟨ep,hat⟩:=dd.dictAt;refine kdl_call (kdl_dict (knd:=cO X.prog X.w) (kvs:=ws) (ep:=ep) hd) (I.ok.hd hc) hat (by omega) λ h' tk acc c kp g it=>?_;have r:Vals (kvs.map λ kv=>kV kv.1) acc.toList:=by
  refine yn (by rw [ae,hl];exact it.1.symm.trans Array.length_toList.symm) λ j x u h1 h2=>?_;obtain ⟨k,y,e1,e2⟩:=it.2 j u (by rw [← Array.getElem?_toList];exact h2);have hj:j < kvs.length:=by rw [hl];exact (al_gs.mp e1).1
  rw [aH,aG hj] at h1;cases h1;have ek:kvs[j].1=k:=by
   have:=zce rel j;rw [e1,aG hj] at this;exact bL this
  show RelV (kV kvs[j].1) u;rw [ek];exact zgZ e2
 exact ⟨.ref s.heap.objs.size,_,I.laid (t':=tk) kp (az _) (show ObjOk X.prog X.w _ h' _ (.lst _) from ⟨by rw [ae];exact z,acc.toList,c,r,by rw [Array.toArray_toList];exact g⟩),rfl,q _ (I.hok.fresh (az _))⟩
end
inductive CalT (P:Program) (w:World) (K:W.Frag) (mg:Str->Option Value) (base:Heap) (CX:CXT) (k:Nat) (x:Str) (ps:List Str) (keys:List Str) (sp:Str->Sp):Prop
 | i (a:Addr) (es:Array DictEntry) (n:Nat) (_:mg x=some (.ref a)) (_:K.lookup a=some ⟨.type "dict", none,.dict es n,#[]⟩) (_:W.KeysLit w.params es.toList) (_:∀ y∈keys,∃ (f:Addr) (fd:FuncData),W.nsIn K a y=some (some (.ref f))/\FnOk P w K mg base CX k f fd ps (sp y)/\W.keepIn K (.ref f)=true/\Binds K fd ps [])
inductive ziQ (keys:List Str) (sp:Str->Sp) (E:XK) (t:TA) (σ:St) (Q:VK) (y:V) (H1:Hp):Prop
 | i (x:_) (_:y = .str x) (_:x∈keys) (_:t σ H1 λ vs H2=>sp x (vs++[]) H2 Q E)
def ziP(keys:List Str)(sp:Str->Sp)(E:XK)(ti:TE)(t:TA):TE:=λ σ H Q=>ti σ H λ y H1=>ziQ keys sp E t σ Q y H1
theorem CalT.pe{k:Nat}{keys:List Str}{sp:Str->Sp}{E:XK}{sp':Pos}{i:Expr}{t:TA}(C:CalT X.prog X.w X.K X.mg X.base CX k x ps keys sp)(hr:Room j X.A)(hx:cV CX X E)(hi:PE X i ti)(ha:PA X (e::es) t)(hj:k<=j:=by decide)(hg:Gl X x:=by rfl)(hs:kq i:=by (intro _ _;rfl))(hdb:(x == ("__debug__" : Str))=false:=by decide)(hcall:eval (.Call (.Subscript (.Name x p) i sp') (e::es) [] pos) X.env=(do callWith pos (← eval (.Subscript (.Name x p) i sp') X.env) [] (backTo pos (starEach (e::es) X.env)) (backToKw pos (keywordEach [] X.env))):=by rfl)(he:starEach (e::es) X.env=(false,eval e X.env)::starEach es X.env:=by rfl)(hpl:(backTo pos (starEach es X.env)).any (·.1)=false:=by rfl):
  PE X (.Call (.Subscript (.Name x p) i sp') (e::es) [] pos) (ziP keys sp E ti t):=by
 obtain ⟨a,ds,n,hm,hl,hk,hf⟩:=C;intro pins s σ H Q I h;refine Call_ (rO F.slot_dict_getitem.lookup hs (fw I hg hm (thn (hi pins s σ H _ I h) λ iv s1 ⟨y,H1,I1,ry,z,ey,hz,q⟩=>?_) hdb)) hcall;subst ey;obtain ⟨tk,rfl⟩:=ry;obtain ⟨f,fd,hn,G,hkp,hb⟩:=hf z hz;have hmap:=W.mapOf_K (prog:=X.prog) (w:=X.w) I1.kIn hl hk;refine ⟨hmap.typeIs,wpAny_getItem_of (strKind_is X.prog X.w z tk) hmap (W.find_K hl hn) ?_⟩;have I2:=I1.tok (s1.toks+1);refine W.callWith_K (first:=[]) (h₀:=X.base) I.ok.mod.kin hkp (thn (ha pos pins _ σ H1 _ I2 q) λ us s2 ⟨vs,H2,I3,r,q2⟩=>⟨I3.kIn,?_⟩) he hpl;exact jW (ds:=[]) (dvs:=[]) G (hr.mono hj) hb .nil hx I3 r q2
section
open PySem.NumText
def bB(l:List Nat):Prop:=∀ c∈l,c=48\/c=49
def eY(l:List Nat):Nat:=l.foldl (λ acc c=>acc * 2+(c - 48)) 0
theorem zR{c:Nat}(h:c=48\/c=49)(ds:Array Nat)(b:Bool):step 2 (ds,b) c=some (ds.push (c - 48),true):=by
 rcases h with rfl | rfl <;> rfl
theorem sJ:∀ (l:List Nat) (ds:Array Nat) (b:Bool),bB l->l.foldlM (step 2) (ds,b)=some ((l.map (· - 48)).foldl Array.push ds,b || !l.isEmpty)
 | [],ds,b,_=>by simp
 | c::r,ds,b,h=>by
  rw [List.foldlM_cons,zR (h c cG)];show r.foldlM (step 2) (ds.push (c - 48),true)=_;rw [sJ r _ true λ d hd=>h d (bV _ hd)];simp
theorem wl:∀ (l:List Nat) (ds:Array Nat),(l.foldl Array.push ds)=ds++l.toArray
 | [],ds=>by simp
 | c::r,ds=>by
  rw [List.foldl_cons,wl r];simp
theorem zN(h:bB l)(hne:l≠[]):digits? 2 l=some (l.map (· - 48)).toArray:=by
 unfold digits?;rw [sJ l _ _ h,wl];cases l with
 | nil=>exact absurd rfl hne
 | cons c r=>simp
theorem sK(h:bB l)(p:Nat->Bool)(h0:p 48=false)(h1:p 49=false):l.dropWhile p=l:=by
 cases l with
 | nil=>rfl
 | cons c r=>
  have:p c=false:=by rcases h c cG with e | e <;> rw [e] <;> assumption
  rw [List.dropWhile_cons,this];rfl
theorem zP(h:bB l):bB l.reverse:=λ c hc=>h c (List.mem_reverse.mp hc)
theorem zQ(h:bB l):sign l=(false,l):=by
 cases l with
 | nil=>rfl
 | cons c r=>rcases h c cG with e | e <;> rw [e] <;> rfl
theorem zM(h:bB l):based 2 l=(2,false,l):=by
 match l,h with
 | [],_=>rfl
 | [c],h=>rcases h c cG with e | e <;> rw [e] <;> rfl
 | c::d::r,h=>
  rcases h c cG with e | e <;> rcases h d (bV _ cG) with e2 | e2 <;> rw [e,e2] <;> rfl
theorem za0(l:List Nat)(a:Nat):(l.map (· - 48)).foldl (λ acc d=>acc * 2+d) a=l.foldl (λ acc c=>acc * 2+(c - 48)) a:=by
 rw [List.foldl_map]
theorem zO(h:bB l)(hne:l≠[]):(int_private% "readNumeral") 0 2 l=(int_private% "Numeral.value") (eY l:Int):=by
 rw [readNumeral_eq,sK h blank rfl rfl,zQ h];show judge 0 false (based 2 l).1 (based 2 l).2.1 (digits? (based 2 l).1 (((based 2 l).2.2.reverse.dropWhile blank).reverse))=_;rw [zM h];show judge 0 false 2 false (digits? 2 ((l.reverse.dropWhile blank).reverse))=_;rw [sK (zP h) blank rfl rfl,List.reverse_reverse,zN h hne];show (int_private% "Numeral.value") (((l.map (· - 48)).toArray.foldl (λ acc d=>acc * 2+d) 0:Nat):Int)=_;rw [List.foldl_toArray,za0];rfl
theorem sL:∀ {l:List Nat},bB l->l.takeWhile (· != 0)=l
 | [],_=>rfl
 | c::r,h=>by
  have:(c != 0)=true:=by rcases h c cG with e | e <;> rw [e] <;> rfl
  rw [List.takeWhile_cons,this,if_pos rfl,sL λ d hd=>h d (bV _ hd)]
theorem zje(a b:Value):checkTypeCall "int" ⟨[a,b],[]⟩=pure ():=by kernel_rfl
theorem zdX(a b:Value):checkBuiltinCall "int.__new__" ⟨[.type "int", a,b],[]⟩=pure ():=by kernel_rfl
structure Shut (p:Prop):Prop where
 out:p
theorem zjo(hb:bB l)(hne:l≠[])(hl:l.length<=640)(h:Q (.int (eY l) s.toks) { s with toks:=s.toks+1 }):
  wpAny M A ((int_private% "intFromText") v l 2) Q E s:=by
 have ht:=sL hb;have hr:=zO hb hne;have hs:(l.takeWhile (· != 0)).length<=640:=by rw [ht];exact hl
 have ha:((l.takeWhile (· != 0)).length == l.length)=true:=by rw [ht];exact beq_self_eq_true _
 rw [← ht] at hr;have hr:(int_private% "readNumeral") 0 2 (l.takeWhile (· != 0))=(int_private% "Numeral.value") (eY l:Int):=by rw [hr,ht]
 obtain ⟨hp,g,d,tk,os⟩:=s
 repeat (any_goals (first | assumption | (with_reducible refine wpAny_ite_true (aV hs) ?_) | (with_reducible refine wpAny_ite_true (aV ha) ?_) | wp_step))
 all_goals (try rw [hr])
 all_goals (try dsimp only)
 repeat (any_goals (first | assumption | (with_reducible refine wpAny_ite_true (aV hs) ?_) | (with_reducible refine wpAny_ite_true (aV ha) ?_) | wp_step))
theorem wp_text2'{z:List Nat}(e:z=l)(hb:bB l)(hne:l≠[])(hl:l.length<=640)(h:Q (.int (eY l) s.toks) { s with toks:=s.toks+1 }):
  wpAny M A ((int_private% "intFromText") v z (Int.toNat 2)) Q E s:=by
 subst e;exact zjo hb hne hl h
theorem zbh{x:PySem.Str}{u t:Tok}(hb:bB x.cps.toList)(hne:x.cps.toList≠[])(hl:x.length<=640):Gives (Builtin.«int.__new__» ⟨[.type "int", .str x u,.int 2 t],[]⟩) (.int (eY x.cps.toList)):=
 .of_wp λ M A E s Q h=>by
  obtain ⟨hp,g,d,tk,os⟩:=s;have f1:=F.conv_sub_int;have f2:=F.madeHere_int;have f6:typeOf (.str x u)=pure (.type "str"):=rfl;have hx:x.cps.all (· < 128)=true:=by
   rw [Array.all_eq_true_iff_forall_mem];intro c hc;rcases hb c (Array.mem_toList_iff.mpr hc) with e | e <;> rw [e] <;> rfl
  have hl':x.cps.toList.length<=640:=by rw [Array.length_toList];exact hl
  have hk:=Shut.mk (And.intro hb (And.intro hne hl'));clear hb hne hl hl'
  repeat (any_goals (first | assumption | ((with_reducible show wpAny _ _ ((int_private% "intFromText") _ _ _) _ _ _);refine wp_text2' (if_pos hx) hk.out.1 hk.out.2.1 hk.out.2.2 ?_) | wp_step))
  all_goals first | exact ⟨_,rfl,h⟩ | skip
inductive zgy (xs:List V) (H:Hp) (Q:VK):Prop
 | i (z:Str) (_:xs=[.str z,.int 2]) (_:bB z.cps.toList) (_:z.cps.toList≠[]) (_:z.length<=640) (_:Q (.int (eY z.cps.toList)) H)
theorem zap:CallR X (.type "int") zgy:=by
 intro pins s σ H xs us Q I r h;obtain ⟨z,rfl,hb,hne,hl,q⟩:=h;obtain ⟨a,b,rfl,⟨t,rfl⟩,⟨k,rfl⟩⟩:=r.two;refine callType_new F.called_int F.newNe_int (zje _ _) (zdX _ _) (λ obj=>F.args_object_init_3 obj _ _) F.entry_int_new (zbh hb hne hl).meets ?_;exact (show (Made.int (eY z.cps.toList)).post _ s from ⟨rfl,⟨.int _,H,I.tok _,⟨_,rfl⟩,q⟩⟩)
theorem tP(c:Nat):∀ l:List Nat,PyProof.Rows.cnt c l=((l.count c:Nat):Int)
 | []=>rfl
 | n::r=>by
  rw [PyProof.Rows.cnt_cons,tP c r,List.count_cons];by_cases e:n=c
  ·subst e;simp;omega
  ·have:(n == c)=false:=by simpa using e
   rw [if_neg e,this];simp
theorem wL(x:PySem.Str)(c:Nat):Txt.count x ⟨#[c]⟩=((x.cps.toList.count c:Nat):Int):=(PyProof.Rows.count_is x c).trans (tP c x.cps.toList)
theorem vp:MtR X "str.count" (λ x vs H Q=>∃ z y:Str,x = .str z/\vs=[.str y]/\Q (.int (Txt.count z y)) H):=by
 intro pins s σ H x vs v us Q I rx rv h;obtain ⟨z,y,rfl,rfl,q⟩:=h;obtain ⟨t,rfl⟩:=rx;obtain ⟨u,rfl,⟨k,rfl⟩⟩:=rv.one;exact SC.count ⟨.int _,H,I.tok _,⟨_,rfl⟩,q⟩
inductive zgM (x:V) (lo:Option Int) (hi:Option Int) (H:Hp) (Q:VK):Prop
 | i (z:Str) (a b:Nat) (_:x = .str z) (_:lo=some (a:Int)) (_:hi=some (b:Int)) (_:a<=b) (_:b<=z.length) (_:z.length<=sizeLine) (_:Q (.str ⟨((z.cps.toList.drop a).take (b - a)).toArray⟩) H)
theorem zh6(z:Str){a b:Nat}(hab:a<=b)(hb:b<=z.length):Txt.slice z (some (a:Int)) (some (b:Int))=⟨((z.cps.toList.drop a).take (b - a)).toArray⟩:=by
 unfold Txt.slice;rw [StrLaws.sliced_plain z hab hb,StrLaws.strSliceIndices_plain hab hb]
 split
 ·rename_i h
  rw [ae,List.length_range] at h;have h:b - a=z.length:=by simpa using h
  have ea:a=0:=by omega
  subst ea;rw [h];apply jd;show _=List.take z.length (List.drop 0 z.cps.toList);rw [List.drop_zero,List.take_of_length_le (by rw [Array.length_toList];exact az _)]
 ·rfl
theorem wO:SlR X zgM:=by
 intro pins s σ H x v vl vu lo hi sl Q I rx hs pl pu h;obtain ⟨z,a,b,rfl,rfl,rfl,hab,hb,hz,q⟩:=h;obtain ⟨t,rfl⟩:=rx;obtain ⟨ta,rfl⟩:∃ ta,vl = .int (a:Int) ta:=by cases pl;exact ⟨_,rfl⟩
 obtain ⟨tb,rfl⟩:∃ tb,vu = .int (b:Int) tb:=by cases pu;exact ⟨_,rfl⟩
 refine ⟨"str", _,F.slot_str_getitem.lookup,typeIs_str _ _ _,?_⟩;refine wpAny_getItem_str_slice (l:=some ((a:Int),ta)) (u:=some ((b:Int),tb)) (st:=none) hs rfl ?_;refine post_val_or_str ⟨Nat.le_trans (Txt.slice_le z (some (a:Int)) (some (b:Int))) hz,λ t' k=>⟨.str _,H,I.tok k,⟨t',?_⟩,q⟩⟩;show Value.str (Txt.slice z (some (a:Int)) (some (b:Int))) t'=_;rw [zh6 z hab hb]
end
inductive Eqd (K:W.Frag) (H:Hp):Nat->V->V->Prop
 | flat (d:Nat) {x:V} (f:b9 x=true):Eqd K H d x x
 | lst {d:Nat} {p q:Addr} {xs ys:List V} (hp:SqL K H p xs) (hq:SqL K H q ys) (hl:xs.length=ys.length) (h:∀ (j:Nat) (x y:V),xs[j]?=some x->ys[j]?=some y->Eqd K H d x y):Eqd K H (d+1) (.ref p) (.ref q)
 | tup {d:Nat} {p q:Addr} {xs ys:List V} (hp:SqT K H p xs) (hq:SqT K H q ys) (hl:xs.length=ys.length) (h:∀ (j:Nat) (x y:V),xs[j]?=some x->ys[j]?=some y->Eqd K H d x y):Eqd K H (d+1) (.ref p) (.ref q)
theorem gM(r:Vals xs its)(h:j < its.toArray.size):∃ x,xs[j]?=some x/\RelV x its.toArray[j]:=by
 have hl:=r.length;rw [aT] at h;obtain ⟨a,ha,ra⟩:=r.get (i:=j) (x:=xs[j]'(by omega)) (by simp);refine ⟨xs[j]'(by omega),by simp,?_⟩;have:its[j]?=some its[j]:=by simp
 rw [this] at ha;have e:its[j]=a:=bL ha;show RelV _ its[j];rw [e];exact ra
theorem kD(n:Nat):(List.range n).all (λ _=>true)=true:=by simp
theorem ui(I:Inv X pins σ H s){d:Nat}{x y:V}(h:Eqd X.K H d x y):∀ {A:Around} {u v:Value},RelV x u->RelV y v->A.units+d < cLine->SeqAt.EqAt A s u v true:=by
 induction h with
 | flat d f=>
  intro A u v rx ry _;have:=kR (A:=A) (s:=s) rx ry f f
  rwa [uh f] at this
 | @lst d p q xs ys hp hq hl h ih=>
  intro A u v rx ry hu;cases rx;cases ry;by_cases e:p=q
  ·subst e;exact SeqAt.EqAt.same _
  obtain ⟨its,r,pl,_⟩:=I.list hp;obtain ⟨its2,r2,pl2,_⟩:=I.list hq;have l1:=r.length;have l2:=r2.length;have:=SeqAt.RcAt.lists (A:=A) (s:=s) (e:=λ _=>true) pl.isList pl2.isList (by rw [aT,aT];omega) (by omega) (λ j h1 h2=>by
   obtain ⟨a,ha,ra⟩:=gM r h1;obtain ⟨b,hb,rb⟩:=gM r2 h2;exact ih j a b ha hb ra rb (by show A.units+1+d < cLine;omega))
  rw [kD] at this;exact SeqAt.EqAt.of_refs e this
 | @tup d p q xs ys hp hq hl h ih=>
  intro A u v rx ry hu;cases rx;cases ry;by_cases e:p=q
  ·subst e;exact SeqAt.EqAt.same _
  obtain ⟨its,r,pl,_⟩:=I.tuple hp;obtain ⟨its2,r2,pl2,_⟩:=I.tuple hq;have l1:=r.length;have l2:=r2.length;have:=SeqAt.RcAt.tuples (A:=A) (s:=s) (e:=λ _=>true) pl pl2 (by omega) (λ j h1 h2=>by
   obtain ⟨a,ha,ra⟩:=gM r h1;obtain ⟨b,hb,rb⟩:=gM r2 h2;exact ih j a b ha hb ra rb (by show A.units+1+d < cLine;omega))
  have e2:(its.toArray.size == its2.toArray.size)=true:=by rw [aT,aT];simp;omega
  rw [kD,e2] at this;exact SeqAt.EqAt.of_refs e this
inductive zgH (K:W.Frag) (x:V) (y:V) (H:Hp) (Q:VK):Prop
 | i (p q:Addr) (xs ys:List V) (_:x = .ref p) (_:y = .ref q) (_:SqL K H p xs) (_:SqL K H q ys) (_:xs.length=ys.length) (_:(∀ (j:Nat) (a b:V),xs[j]?=some a->ys[j]?=some b->Eqd K H 50 a b)) (_:Q (.bl false) H)
theorem zfM(K:W.Frag)(hu:X.A.units+64 < cLine)(hK:X.K=K:=by rfl):OpR X (compareOp .NotEq) (zgH K):=by
 subst hK;intro pins s σ H x y v u Q I rx ry h;obtain ⟨p,q,xs,ys,rfl,rfl,hp,hq,hl,hj,k⟩:=h;cases rx;cases ry;obtain ⟨its,r,pl,_⟩:=I.list hp;obtain ⟨its2,r2,pl2,_⟩:=I.list hq;have l1:=r.length;have l2:=r2.length;show wpAny (model X.prog X.w) X.A (richCompare .NotEq (.ref p) (.ref q)) _ _ s;refine SeqAt.RcNeAt.lists (e:=λ _=>true) pl.isList pl2.isList (by rw [aT,aT];omega) (by omega) (λ j h1 h2=>?_) X.prog X.w _ _ ?_
 ·obtain ⟨a,ha,ra⟩:=gM r h1;obtain ⟨b,hb,rb⟩:=gM r2 h2;exact ui I (hj j a b ha hb) ra rb (by show X.A.units+1+50 < cLine;omega)
 ·rw [kD];exact ⟨.bl false,H,I,rfl,k⟩
theorem kZ{k:Nat}(hr:Room k A):A.units+64 < cLine:=by have:=hr.un;omega
inductive Fly (B:Heap) (l:List Env) (e:Addr) (cls a0:Value) (h:Heap):Prop
 | i (fl:_) (_:B.StaysIn h) (_:B.get? e=none) (_:h.FunFrames B l) (_:h.TracedAtW B e cls a0 fl)
section
variable {B:Heap} {l:List Env} {e L:Addr} {a0:Value} {Q:Unit->Shared->Prop}
theorem Fly.mark{o:Option Addr}(f:Fly B l e cls a0 s.heap)(k:∀ h',Fly B l e cls a0 h'->s.heap.UpToSlots h'->Q () { s with heap:=h' }):wpAny M A (setFlight (.ref e) o) Q E s:=by
 obtain ⟨fl,f1,f2,f3,oe,vs,T,oT,ts,he,hc,hd,h1,hn,hT,gT,dT,h3⟩:=f;have z:3 < ts.size:=(Array.getElem?_eq_some_iff.mp h3).1;have far:∀ (b:Addr) (g:Obj->Obj),b≠T->(s.heap.update T g).get? b=s.heap.get? b:=λ b g hb=>Heap.get?_update_other _ _ (Ne.symm hb);have nt:∀ b ob,s.heap.get? b=some ob->(∀ vs,ob.data≠.fields vs)->b≠T:=by
  rintro b ob hb hf rfl;rw [gT] at hb;cases hb;exact hf ts dT
 unfold setFlight;refine ao (wpAny_field he hd h1 ?_);rw [if_pos (by simp:(Value.ref T != Value.none)=true)];refine wpAny_setField gT dT z (k _ ⟨_,λ b ob hb=>?_,f2,f3.of_keeps λ b ob hb hf=>⟨ob,?_,rfl⟩,oe,vs,T,_,_,?_,hc,hd,h1,hn,hT,Heap.get?_update_self _ gT (Obj.isFreed_of_fields (Obj.data_mapFields dT _)),Obj.data_mapFields dT _,by simp [z];rfl⟩ λ b ob hb hf=>⟨ob.slots,?_⟩)
 ·rw [far b _ (by rintro rfl;rw [hn] at hb;cases hb)];exact f1 b ob hb
 ·rw [far b _ (nt b ob hb hf)];exact hb
 ·rw [far e _ (Ne.symm hT)];exact he
 ·rw [far b _ (nt b ob hb hf)];exact hb
end
section
variable {N':List Str} {f:Addr} {E:XK}
end
section
open PySem.Builtin.Str
end
section
variable {k:Nat} {f:Addr} {E:XK} {m:Str} {o:Expr} {t:TA}
end
section
variable {k:Nat} {E:XK} {m:Str} {o:Expr} {t:TA}
end
section
open PySem.Builtin.Str
end
section
variable [DecidableEq κ] {kn:KeyKind prog w κ}
end
section
variable [DecidableEq κ] {kn:KeyKind prog w κ}
end
def met{κ:Type}[DecidableEq κ]:List κ->List κ->List κ
 | acc,[]=>acc
 | acc,k::r=>met (if k∈acc then acc else acc++[k]) r
section
variable [DecidableEq κ] {kn:KeyKind prog w κ} {G:Array GenState->Array GenState->Prop} {P:Nat->Value->Prop} {St:Nat->Shared->Prop}
end
section
variable [DecidableEq κ] {kn:KeyKind prog w κ}
end
section
open PySem.W
section
variable {T:String} {r:Addr} {OK:Heap->Prop} {P:Nat->Value->Prop}
end
end
theorem Inv.frz{d:Addr}{kvs:List (Key × V)}(I:Inv X pins σ H s)(e:H d=some (.dK kvs)):∃ o,Inv X pins σ (upd H d (.frz o (.dK kvs))) s:=by
 have ob:=I.hok d _ e;obtain ⟨z,y,vs,r,o,es,ep,eo,c⟩:=id ob;refine ⟨o,I.write (x:=d) (e:=d) (o:=.frz o (.dK kvs)) (h':=s.heap) (t':=s.toks) (by rw [e];trivial) (.inl rfl) (λ b u _ q=>q) ⟨o,eo⟩ ⟨eo,z,y,vs,r,o,es,ep,eo,c⟩⟩
theorem Inv.dictAt{o:Obj}{d:Addr}{kvs:List (Key × V)}(I:Inv X pins σ H s)(e:H d=some (.frz o (.dK kvs))):∃ vs es ep,KV kvs vs/\o.data = .dict es ep/\s.heap.DictAt (cO X.prog X.w) d vs ep:=by
 obtain ⟨eo,z,y,vs,r,dd⟩:=I.hok d _ e;obtain ⟨ep,h⟩:=dd.dictAt;obtain ⟨o2,es,eo2,c,dt,q⟩:=id h;rw [eo] at eo2;cases eo2;exact ⟨vs,es,ep,r,dt,h⟩
section
open PySem.W
theorem zaC{fr:List (Option Nat)}{Q:VK}(Pv:Nat->List V->Hp->Prop)(h0:Pv 0 [] H)(hl:∀ i acc H,i<=n->Pv i acc H->acc.length<=i/\(i < n->J.go i H)/\(n<=i->J.stop i H))(hz:n<=sizeLine)(hs:∀ i x acc H H',i < n->Pv i acc H->J.yld i H x H'->g x (stC fr σ) H' λ σ2 H2=>Wk (stC fr σ) σ2/\tc σ2 H2 λ b H3=>
   if b=true then te σ2 H3 λ y H4=>∃ m',m' < n - i/\CW n Pv (i+1) m' (acc++[y]) H4 else ∃ m',m' < n - i/\CW n Pv (i+1) m' acc H3)(hd:∀ acc H,Pv n acc H->∀ p,H p=none->Q (.ref p) (upd H p (.lst acc))):km fr J g tc te σ H Q:=by
 refine ⟨CW n Pv,⟨n,by simp,Nat.zero_le _,h0⟩,?_⟩;rintro i m acc H ⟨rfl,hi,p⟩;obtain ⟨q1,q2,q3⟩:=hl i acc H hi p;by_cases hlt:i < n
 ·exact .inr ⟨q2 hlt,by omega,λ x H' y=>hs i x acc H H' hlt p y⟩
 ·have e:i=n:=by omega
  subst e;exact .inl ⟨q3 (az _),hd acc H p⟩
end
theorem PE.alt{t1 t2:TE}(h1:PE X e t1)(h2:PE X e t2):PE X e (λ σ H Q=>t1 σ H Q\/t2 σ H Q):=λ pins s σ H Q I h=>h.elim (h1 pins s σ H Q I) (h2 pins s σ H Q I)
theorem OpR.alt{o:Value->Value->Sem Value}{r1 r2:R2}(h1:OpR X o r1)(h2:OpR X o r2):OpR X o (λ x y H Q=>r1 x y H Q\/r2 x y H Q):=λ pins s σ H x y v u Q I rx ry h=>h.elim (h1 pins s σ H x y v u Q I rx ry) (h2 pins s σ H x y v u Q I rx ry)
def del(H:Hp)(c:Addr):Hp:=λ b=>if b=c then none else H b
theorem gZ   : del H c c=none:=if_pos rfl
theorem dA(h:b≠c):del H c b=H b:=if_neg h
def FrO(o:Obj)(c:Addr):HO:=.frz o (.ext λ h=>h.get? c=some o)
section
variable {o:Obj} {fs:List Addr}
theorem HOk.at(x:HOk P w H h)(e:H c=some (FrO o c)):h.get? c=some o:=(x c _ e).1
theorem kT(e:h.get? c=some o):ObjOk P w H h c (FrO o c):=⟨e,e,⟨o,e⟩,λ h1 h2 q k=>k _ q⟩
theorem HOk.frO(x:HOk P w H h)(n:H c=none)(e:h.get? c=some o):HOk P w (upd H c (FrO o c)) h:=λ b u q=>by
 by_cases hb:b=c
 ·subst hb;rw [ag] at q;cases q;exact kT e
 ·rw [aj hb] at q;exact (x b u q).stay (λ _ _ _ z=>z) (λ d z=>by rw [aj (aI z n)];exact z) λ d _ z=>by rw [aj (aI z n)];exact z
theorem HOk.del(x:HOk P w H h)(n:H c=some (FrO o c)):HOk P w (del H c) h:=λ b u q=>by
 by_cases hb:b=c
 ·subst hb;rw [gZ] at q;cases q
 ·rw [dA hb] at q;exact (x b u q).stay (λ _ _ _ z=>z) (λ d z=>by rw [dA (eC z n nofun)];exact z) λ d _ z=>by rw [dA (eC z n nofun)];exact z
theorem Un.thaw(u:Un fs [] (upd H c (FrO o c)) H' h h')(n:H c=none)(e:h.get? c=some o)(e':h'.get? c=some o):Un fs [] H (L2.del H' c) h h':=by
 have nc:∀ {b:Addr} {ob:HO},H b=some ob->b≠c:=λ q z=>by subst z;rw [n] at q;cases q
 refine ⟨λ b ob q hn hb hx=>?_,λ b ob q hn hb hx=>?_,λ b ob q hn hx=>?_,λ b ob q hx=>u.there b ob q hx,λ b xs q=>?_,λ b ob xs q=>?_,λ b ps q=>?_⟩
 ·by_cases z:b=c
  ·subst z;rw [e] at q;cases q;exact e'
  ·exact u.keep b ob q (by rw [aj z];exact hn) hb hx
 ·by_cases z:b=c
  ·subst z;rw [e] at q;cases q;exact ⟨o.slots,e'⟩
  ·exact u.slot b ob q (by rw [aj z];exact hn) hb hx
 ·by_cases z:b=c
  ·subst z;exact gZ
  ·rw [dA z];exact u.free b ob q (by rw [aj z];exact hn) hx
 ·rw [dA (nc q)];exact u.tups b xs (by rw [aj (nc q)];exact q)
 ·rw [dA (nc q)];exact u.frzs b ob xs (by rw [aj (nc q)];exact q)
 ·rw [dA (nc q)];exact u.tbls b ps (by rw [aj (nc q)];exact q)
theorem Un.refr(u:Un fs [] (L2.del H c) H' h h')(n:H c=some (FrO o c)):Un fs [] H (upd H' c (FrO o c)) h h':=by
 have nc:∀ {b:Addr},H b=none->b≠c:=λ q z=>by subst z;rw [n] at q;cases q
 refine ⟨λ b ob q hn hb hx=>u.keep b ob q (by rw [dA (nc hn)];exact hn) hb hx,λ b ob q hn hb hx=>u.slot b ob q (by rw [dA (nc hn)];exact hn) hb hx,
  λ b ob q hn hx=>by rw [aj (nc hn)];exact u.free b ob q (by rw [dA (nc hn)];exact hn) hx,λ b ob q hx=>u.there b ob q hx,λ b xs q=>?_,λ b ob xs q=>?_,λ b ps q=>?_⟩
 ·have z:b≠c:=eC q n nofun;rw [aj z];exact u.tups b xs (by rw [dA z];exact q)
 ·by_cases z:b=c
  ·subst z;rw [n] at q;rw [ag];exact q
  ·rw [aj z];exact u.frzs b ob xs (by rw [dA z];exact q)
 ·have z:b≠c:=eC q n nofun;rw [aj z];exact u.tbls b ps (by rw [dA z];exact q)
end
def fU(base:Heap)(mg:Str->Option Value):Prop:=∃ bm ob,mg "__builtins__" = some (.ref bm)/\bm≠builtinsNs/\base.get? bm=some ob/\ob.cls = .type "module" /\ ob.dict=some builtinsNs/\ob.data = .plain
def CdH(H:Hp)(c:Addr)(qual:Str):Prop:=∃ oc vs t,H c=some (FrO oc c)/\oc.data = .fields vs/\vs[1]?=some (.str qual t)
def cQ(H:Hp)(T:Addr)(pos:Pos)(qual:Str):Prop:=∃ ps,H T=some (.tbl ps)/\TriplesOk ps.toList/\(codeAmong pos ps.toList=none\/∃ c,codeAmong pos ps.toList=some (.ref c)/\CdH H c qual)
def LamH(H:Hp)(l:Addr)(qual:Str)(ar:Arguments)(body:Expr)(sc:Scope)(cl:List (Str × Addr)):Prop:=
 ∃ pm c ctv,H l=some (FrO (W.kla_obj "<lambda>" qual ar body sc cl pm c ctv) l)/\CdH H c qual
def fF(T:Addr)(H H':Hp):Prop:=∀ b o,b≠T->H b=some o->H' b=some o
def ziB(T:Addr)(qual:Str)(ar:Arguments)(body:Expr)(sc:Scope)(pos:Pos)(cl:List (Str × Addr)):TE:=λ σ H Q=>cQ H T pos qual/\
 ∀ H' l,fF T H H'->H l=none->cQ H' T pos qual->LamH H' l qual ar body sc cl->Q (.ref l) H'
theorem ye:∀ {l:List Value} {a b:Int} {c:Value} , TriplesOk l->TriplesOk (l++[rawInt a,rawInt b,c])
 | [],_,_,_,_=>trivial
 | .int _ _ :: .int _ _::_::r,_,_,_,h=>ye (l:=r) h
theorem CdH.mono{q:Str}(x:CdH H c q)(h:∀ o,H c=some o->H' c=some o):CdH H' c q:=let ⟨oc,vs,t,e,r⟩:=x;⟨oc,vs,t,h _ e,r⟩
theorem LamH.mono{l:Addr}{body:Expr}(x:LamH H l qual ar body sc cl)(h:∀ b o,H b=some o->H' b=some o\/∃ ps,o = .tbl ps):LamH H' l qual ar body sc cl:=by
 obtain ⟨pm,c,ctv,e,oc,vs,t,e2,r⟩:=x;have g:∀ {b:Addr} {o:Obj},H b=some (FrO o b)->H' b=some (FrO o b):=λ q=>(h _ _ q).elim id λ z=>nomatch z;exact ⟨pm,c,ctv,g e,oc,vs,t,g e2,r⟩
section
variable {body:Expr} {c0 T:Addr}
theorem vW(hcl:closureFor sc X.env=pure cl)(hcd:X.env.code = .ref c0)(C:W.codeHdIn X.K c0 T=true)(B:fU X.base X.mg)(hdef:defaultsOf ar X.env=([],[]):=by rfl):
  PE X (.Lambda ar body sc pos) (ziB T (X.env.qual ++ "<lambda>") ar body sc pos cl):=by
 rintro pins s σ H Q I ⟨⟨ps,eT,ht,hc⟩,h⟩;refine W.kla_eval hdef ?_;have hg:s.heap.Ns mainGlobals X.mg:=I.ok.mod.glob.keeps I.bk;have hP:s.heap.get? T=some (W.tabObj ps):=I.hok T _ eT;have CH:=W.codeHd_of_K I.kIn C;have hgP:mainGlobals≠T:=λ z=>by
  obtain ⟨o,es,ep,e,hd,_⟩:=hg;rw [z,hP] at e;cases e;cases hd
 obtain ⟨bm,ob,b1,b2,b3,b4,b5,b6⟩:=B;have bT:bm≠T:=λ z=>by
  have:=I.bk _ _ b3;rw [z,hP] at this;cases this;cases b4
 have bG:bm≠mainGlobals:=λ z=>by
  obtain ⟨o,es,ep,e,hd,_⟩:=I.ok.mod.glob;rw [z,e] at b3;cases b3;rw [hd] at b6;cases b6
 have BA:s.heap.BuiltinsAt X.mg T:=⟨bm,ob,b1,b2,bG,bT,I.bk _ _ b3,b4,b5,b6⟩
 rcases hc with hn | ⟨c,hf,hcd'⟩
 ·refine W.kla_makeFunction hcl I.ok.glob hg hcd CH hP ht hn hgP BA λ c' ctv h' tk hx hge hlt hrec htb=>?_;obtain ⟨c2,oc,vs,t,e2,hoc,hd,hv⟩:=hrec;cases e2;have nT:∀ {b:Addr},H b=none->b≠T:=λ q z=>by subst z;rw [eT] at q;cases q
  have hc0:H c'=none:=I.hok.fresh hge;have hl0:H h'.objs.size=none:=I.hok.fresh (Nat.le_trans hge (aX hlt));have ncl:c'≠h'.objs.size:=be hlt;let fo:Obj:=W.kla_obj "<lambda>" (X.env.qual ++ "<lambda>") ar body sc cl ((X.mg "__name__").getD .none) c' ctv;let ps':=ps ++ #[rawInt pos.line,rawInt pos.col,.ref c'];let H':Hp:=upd (upd (upd H T (.tbl ps')) c' (FrO oc c')) h'.objs.size (FrO fo h'.objs.size);have old:∀ b o,b≠T->H b=some o->H' b=some o:=λ b o n q=>by
   show upd _ _ _ _=_;rw [aj (aI q hl0),aj (aI q hc0),aj n];exact q
  have eT':H' T=some (.tbl ps'):=by
   show upd _ _ _ _=_;rw [aj (aI eT hl0),aj (aI eT hc0),ag]
  have ec':H' c'=some (FrO oc c'):=by
   show upd _ _ _ _=_;rw [aj ncl,ag]
  have el':H' h'.objs.size=some (FrO fo h'.objs.size):=ag;have kp:∀ b o,b≠T->s.heap.get? b=some o->(h'.push fo).get? b=some o:=λ b o n q=>bf _ (hx b o n q);have hl:(h'.push fo).get? h'.objs.size=some fo:=Heap.get?_push_size _ rfl;have fr:∀ b o,s.heap.get? b=some o->H b=none->H' b=none:=λ b o q n=>by
   show upd _ _ _ _=_;have:=aS q;rw [aj (be (Nat.lt_trans (bU this hge) hlt)),aj (be (bU this hge)),aj (nT n)];exact n
  have un:Un X.fs [] H H' s.heap (h'.push fo):=by
   refine ⟨λ b o q n _ _=>kp b o (nT n) q,λ b o q n _ _=>⟨o.slots,kp b o (nT n) q⟩,λ b o q n _=>fr b o q n,λ b o q _=>?_,λ b xs q=>old b _ (eC q eT nofun) q,λ b o u q=>old b _ (eC q eT nofun) q,λ b qs q=>?_⟩
   ·by_cases z:b=T
    ·subst z;exact ⟨_,bf _ htb⟩
    ·exact ⟨o,kp b o z q⟩
   ·by_cases z:b=T
    ·subst z;rw [eT] at q;cases q;exact ⟨_,eT'⟩
    ·exact ⟨#[],by rw [old b _ z q];simp⟩
  have hok:HOk X.prog X.w H' (h'.push fo):=λ b u q=>by
   by_cases z1:b=h'.objs.size
   ·subst z1;rw [el'] at q;cases q;exact kT hl
   by_cases z2:b=c'
   ·subst z2;rw [ec'] at q;cases q;exact kT (bf _ hoc)
   by_cases z3:b=T
   ·subst z3;rw [eT'] at q;cases q;exact bf _ htb
   ·have q':H b=some u:=by rw [← q];show _=upd _ _ _ _;rw [aj z1,aj z2,aj z3]
    refine (I.hok b u q').stay (λ d v hd r=>kp d v (λ zz=>?_) r) (λ d r=>old d _ (eC r eT nofun) r) λ d xs r=>old d _ (eC r eT nofun) r;rcases hd with rfl | hd
    ·exact z3 zz
    ·subst zz;rw [eT] at hd;cases hd
  have cd:CdH H' c' (X.env.qual ++ "<lambda>"):=⟨oc,vs,t,ec',hd,hv⟩
  have I':Inv X pins σ H' { s with heap:=h'.push fo,toks:=tk }:=I.un un hok;have am:codeAmong pos ps'.toList=some (.ref c'):=by
   have:=codeAmong_snoc (c:=.ref c') ps.toList ht hn;simpa [ps'] using this
  have tr:TriplesOk ps'.toList:=by
   have:=ye (a:=pos.line) (b:=pos.col) (c:=.ref c') ht;simpa [ps'] using this
  exact ⟨.ref h'.objs.size,H',I',rfl,h H' _ old hl0 ⟨ps',eT',tr,.inr ⟨c',am,cd⟩⟩ ⟨_,c',ctv,el',cd⟩⟩
 ·refine W.kla_makeFunctionHit hcl I.ok.glob hg hcd CH hP ht hf BA λ ctv h' tk hk hsz=>?_;let fo:Obj:=W.kla_obj "<lambda>" (X.env.qual ++ "<lambda>") ar body sc cl ((X.mg "__name__").getD .none) c ctv;have hl0:H h'.objs.size=none:=I.hok.fresh hsz;have old:∀ b o,H b=some o->upd H h'.objs.size (FrO fo h'.objs.size) b=some o:=λ b o q=>by rw [aj (aI q hl0)];exact q
  have I':Inv X pins σ (upd H h'.objs.size (FrO fo h'.objs.size)) { s with heap:=h'.push fo,toks:=tk }:=
   I.laid (λ b u q=>bf _ (hk b u q)) hsz (kT (Heap.get?_push_size _ rfl))
  have cd:=hcd'.mono λ o q=>old c o q;exact ⟨.ref h'.objs.size,_,I',rfl,h _ _ (λ b o _ q=>old b o q) hl0 ⟨ps,old _ _ eT,ht,.inr ⟨c,hf,cd⟩⟩ ⟨_,c,ctv,ag,cd⟩⟩
end
def LamSc(sc:Scope)(x y:Str):Prop:=sc.kind = .function/\sc.isCoroutine=false/\sc.isGenerator=false/\x≠y/\sc.names.lookup y=some .free/\(∀ p∈sc.names,(p.2 = .cell\/p.2 = .free)->p.1=x\/p.1=y)/\
 ((sc.names.lookup x=some .local/\∀ n c,cellsFrom n sc.names [(y,c)]=[(y,c)])\/(sc.names.lookup x=some .cell/\∀ n c,cellsFrom n sc.names [(y,c)]=[(x,n),(y,c)]))
def fc(sc:Scope)(L:Addr)(y:Str)(c:Addr):List (Str × Addr):=cellsFrom (L+1) sc.names [(y,c)]
theorem LamSc.cells(S:LamSc sc x y)(L c:Addr){z:Str}(h:(fc sc L y c).lookup z=some d):(z=y/\d=c)\/(z=x/\d=L+1/\sc.names.lookup x=some .cell):=by
 obtain ⟨_,_,_,hne,_,_,⟨h1,h2⟩ | ⟨h1,h2⟩⟩:=S
 ·unfold fc at h;rw [h2] at h;have:=PySem.mem_of_lookup h;simp at this;exact .inl this
 ·unfold fc at h;rw [h2] at h;have:=PySem.mem_of_lookup h;simp at this;rcases this with q | q
  ·exact .inr ⟨q.1,q.2,h1⟩
  ·exact .inl q
theorem LamSc.celly(S:LamSc sc x y)(L c:Addr):(fc sc L y c).lookup y=some c:=by
 obtain ⟨_,_,_,hne,_,_,⟨h1,h2⟩ | ⟨h1,h2⟩⟩:=S
 ·unfold fc;rw [h2];simp
 ·unfold fc;rw [h2,List.lookup_cons,beq_eq_false_iff_ne.mpr (Ne.symm hne)];simp
theorem LamSc.cellx(S:LamSc sc x y)(L c:Addr)(h:sc.names.lookup x=some .cell):(fc sc L y c).lookup x=some (L+1):=by
 obtain ⟨_,_,_,hne,_,_,⟨h1,h2⟩ | ⟨h1,h2⟩⟩:=S
 ·rw [h] at h1;cases h1
 ·unfold fc;rw [h2,List.lookup_cons];simp
theorem zdY{g:Addr}{fn:Option Addr}{Q:Env->Shared->Prop}(S:LamSc sc x y)(h:∀ h' tk m,(∀ b o,s.heap.get? b=some o->h'.get? b=some o)->h'.Ns s.heap.objs.size m->(sc.names.lookup x=some .local->m x=some u)->(sc.names.lookup x=some .cell->h'.IsCell (s.heap.objs.size+1) (some u))->
   Q (newEnv sc s.heap.objs.size g (fc sc s.heap.objs.size y c) qual fn cd none b) { s with heap:=h',toks:=tk }):
  wpAny M A (newFunctionEnv sc g [(y,c)] [(x,u)] qual fn cd none b) Q E s:=by
 have hk:=S.1;simp only [newFunctionEnv,Option.isSome_none,Bool.false_eq_true,if_false];refine ao (wpAny_alloc ?_);refine ao (wpAny_layCells _ (λ name kind cells=>by cases hkc:kind == NameKind.cell <;> simp [hkc]) _ _ _ _ ?_);rw [show ({ s with heap:=s.heap.push { cls:=.type "frame", data:=.dict #[] } }:Shared).heap.objs.size=s.heap.objs.size+1 from Heap.size_push ..];have hp:∀ b o,s.heap.get? b=some o->(pushCells (s.heap.push { cls:=.type "frame", data:=.dict #[] }) sc.names).get? b=some o:=λ b o q=>pushCells_keeps _ _ _ _ (bf _ q);have hn:(pushCells (s.heap.push { cls:=.type "frame", data:=.dict #[] }) sc.names).Ns s.heap.objs.size λ _=>none:=(Heap.Ns.new s.heap (.type "frame")).keeps (pushCells_keeps _ _);refine ao ?_;rw [List.forIn_cons];refine ao (ao ?_);rcases S.2.2.2.2.2.2 with ⟨hx,hc⟩ | ⟨hx,hc⟩
 ·refine wpAny_storeName_local (env:=newEnv sc s.heap.objs.size g (fc sc s.heap.objs.size y c) qual fn cd none b) hx hn (λ h' hn' hs'=>aL ?_) (by show (sc.kind == .class || (sc.kind == .module && _))=false;rw [hk];rfl);dsimp only;rw [List.forIn_nil];refine aL (aL (h _ _ _ (λ b o q=>hs'.extBut b o (be (aS q)) (hp b o q)) hn' (λ _=>by simp) λ z=>?_));rw [z] at hx;cases hx
 ·have ok:=cellsFrom_ok sc.names (s.heap.push { cls:=.type "frame", data:=.dict #[] }) (s.heap.objs.size+1) [] ⟨λ _ _ hm=>(nomatch hm),List.Pairwise.nil⟩ (by rw [Heap.size_push];exact az _);rw [Heap.size_push] at ok;have cx:(cellsFrom (s.heap.objs.size+1) sc.names []).lookup x=some (s.heap.objs.size+1):=by
   have app:∀ (ns:List (Str × NameKind)) (n:Nat) (a b:List (Str × Addr)),cellsFrom n ns (a++b)=cellsFrom n ns a++b:=by
    intro ns;induction ns with
    | nil=>exact λ _ _ _=>rfl
    | cons p r ih=>
     intro n a b;unfold cellsFrom
     split
     ·exact ih (n+1) ((p.1,n)::a) b
     ·exact ih n a b
   have q:=hc (s.heap.objs.size+1) c;rw [show [(y,c)]=[]++[(y,c)] from rfl,app] at q;have q2:cellsFrom (s.heap.objs.size+1) sc.names []=[(x,s.heap.objs.size+1)]:=List.append_cancel_right (bs:=[(y,c)]) q;rw [q2];simp
  have ce:=(ok.empty _ _ (PySem.mem_of_lookup cx)).1;refine wpAny_storeName_cell (env:=newEnv sc s.heap.objs.size g (fc sc s.heap.objs.size y c) qual fn cd none b) hk hx (S.cellx _ _ hx) ce λ h' hc' hs'=>aL ?_;dsimp only;rw [List.forIn_nil];refine aL (aL (h _ _ _ (λ b o q=>hs'.extBut b o (be (Nat.lt_succ_of_lt (aS q))) (hp b o q)) (hn.sameBut hs' (be (Nat.lt_succ_self _))) (λ z=>?_) λ _=>hc'));rw [z] at hx;cases hx
def gv(qual:Str)(sc:Scope)(L l:Addr)(cd:Value)(y:Str)(c:Addr):Env:=newEnv sc L mainGlobals (fc sc L y c) (qual ++ ".<locals>.") (some l) cd none builtinsNs
def gY(CX:CXT)(P:Program)(w:World)(K:W.Frag)(mg:Str->Option Value)(base:Heap)(x y:Str)(qual:Str)(sc:Scope)(l:Addr)(cd:Value)(c:Addr)(A:Around)(outer:List Env)(s:Shared)(H:Hp)(E:XK):Cx where
 prog:=P
 w:=w
 K:=K
 mg:=mg
 base:=base
 A:=A.deeper (gv qual sc s.heap.objs.size l cd y c)
 N:=[x,y]
 s₀:=s
 H₀:=H
 env:=gv qual sc s.heap.objs.size l cd y c
 outer:=outer
 stack:=gv qual sc s.heap.objs.size l cd y c::outer
 ex:=[]
 calm:=true
 fn:=λ z=>decide (z=x)
 pn:=[]
 xe:=λ e s'=>wpAny (model P w) (A.deeper (gv qual sc s.heap.objs.size l cd y c)) (leaving (gv qual sc s.heap.objs.size l cd y c) e) (λ _ s''=>CX outer H s E e s'') (λ e' s''=>CX outer H s E e' s'') s'
section
variable {l:Addr} {E:XK}
theorem zfU:cV (CXr P w) (gY (CXr P w) P w K mg base x y qual sc l cd c A outer s H E) E:=by
 rintro pins σ H1 s1 e s' I ⟨a,cls,a0,H',B,rfl,os,bare,hfl,ha,u,hok,cond,hE⟩;refine wpAny_leaves_onW (env:=gv qual sc s.heap.objs.size l cd y c) (outer:=outer) I.ok.frames rfl hfl λ h2 x1 x2=>?_;have u2:=u.fly x1.1 x2 cond λ b hb=>by
  obtain ⟨_,o,ho,nf⟩:=hfl.2.2.1.mem hb;exact ⟨o,ho,nf⟩
 have I2:=I.call' (s':={ s' with heap:=h2 }) os u2 (hok.kept x1.1) bare λ b hb=>absurd hb (by simp);refine ⟨a,cls,a0,H',B,rfl,I2.os,bare,x1,ha,I2.base,hok,λ b o e hb=>?_,hE⟩;have notL:b∉frs (gY (CXr P w) P w K mg base x y qual sc l cd c A outer s H E).stack:=λ hs=>by
  rcases al_mc.mp (I.stkSub b hs) with z | z
  ·have:=aS e;exact absurd (bU this I.ok.above) (by rw [z];exact Nat.lt_irrefl _)
  ·exact hb z
 obtain ⟨o1,e1⟩:=I.base.there b o e (by intro z;exact absurd (show b∈([]:List Addr) from z) (by simp));obtain ⟨o',e',q⟩:=cond b o1 e1 notL;refine ⟨o',e',λ n=>?_⟩;have k:=I.base.keep b o e n hb (by intro z;exact absurd (show b∈([]:List Addr) from z) (by simp));rw [e1] at k;rw [q (I.base.free b o e n (by intro z;exact absurd (show b∈([]:List Addr) from z) (by simp)))];exact bL k
theorem zbM{uz:Value}{v z:V}{oc:Obj}(S:LamSc sc x y)(hd:A.handled=none)(e0:Env0 P w K mg base A outer s H)(ec:s.heap.get? c=some oc)(hc:oc.data = .cell (some uz))(nc:H c=none)(rz:RelV z uz)(rv:RelV v u)(hk:∀ b o,s.heap.get? b=some o->h1.get? b=some o)(hn:h1.Ns s.heap.objs.size m)(hl:sc.names.lookup x=some .local->m x=some u)(hcx:sc.names.lookup x=some .cell->h1.IsCell (s.heap.objs.size+1) (some u)):
  Inv (gY CX P w K mg base x y qual sc l cd c A outer s H E) [] [some v,some z] H { s with heap:=h1,toks:=tk }:=by
 have noA:∀ b:Addr,b∉(gY CX P w K mg base x y qual sc l cd c A outer s H E).ex:=λ b z=>absurd (show b∈([]:List Addr) from z) (by simp);have lc:c < s.heap.objs.size:=aS ec;have hcell:h1.IsCell c (some uz):=⟨oc,hk _ _ ec,hc⟩
 refine ⟨⟨e0.mod,S.1,rfl,rfl,az _,λ a b d h1 h2=>?_,λ a ha=>?_,λ a d hf h=>?_,λ _=>hd,Around.frames_deeper e0.frames,.inr ⟨rfl,rfl⟩,λ b z=>absurd z (noA b),e0.bs,e0.bsz,λ b _ _=>noA b,λ b z=>absurd z (noA b),e0.funs,e0.frf⟩,
  rfl,e0.bare,Un.kept hk,⟨m,hn,λ i a t h1 h2 h3=>?_⟩,λ a d h=>?_,e0.hok.fresh (az _),λ a d h=>?_,λ p hp=>absurd (show p∈([]:List (Addr × Obj)) from hp) (by simp),e0.hok.kept hk,rfl⟩
 ·rcases S.cells _ _ h1 with ⟨r1,r2⟩ | ⟨r1,r2,_⟩ <;> rcases S.cells _ _ h2 with ⟨r3,r4⟩ | ⟨r3,r4,_⟩
  ·rw [r1,r3]
  ·exact absurd (r2.symm.trans r4) (be (Nat.lt_succ_of_lt lc))
  ·exact absurd (r4.symm.trans r2) (be (Nat.lt_succ_of_lt lc))
  ·rw [r1,r3]
 ·have ha':sc.names.lookup a=some .cell\/sc.names.lookup a=some .free:=ha;have hm:a=x\/a=y:=by
   rcases ha' with q | q
   ·exact S.2.2.2.2.2.1 _ (PySem.mem_of_lookup q) (.inl rfl)
   ·exact S.2.2.2.2.2.1 _ (PySem.mem_of_lookup q) (.inr rfl)
  rcases hm with hax | hay
  ·rw [hax] at ha' ⊢;rcases S.2.2.2.2.2.2 with ⟨q,_⟩ | ⟨q,_⟩
   ·rw [q] at ha';rcases ha' with z | z <;> cases z
   ·exact ⟨_,S.cellx _ _ q⟩
  ·rw [hay];exact ⟨c,S.celly _ _⟩
 ·have hf:decide (a=x)=true:=hf;rcases S.cells _ _ h with ⟨r1,r2⟩ | ⟨r1,r2,_⟩
  ·exact absurd ((of_decide_eq_true hf).symm.trans r1) S.2.2.2.1
  ·rw [r2];exact Nat.le_succ _
 ·have h3:sc.names.lookup a=some .local\/sc.names.lookup a=some .cell\/sc.names.lookup a=some .free:=h3
  match i,h1,h2 with
  | 0,h1,h2=>
   cases h1;cases h2;refine ⟨u,rv,?_⟩;rcases S.2.2.2.2.2.2 with ⟨q,_⟩ | ⟨q,_⟩
   ·exact .inl ⟨q,hl q⟩
   ·exact .inr ⟨.inl q,_,S.cellx _ _ q,hcx q⟩
  | 1,h1,h2=>
   cases h1;cases h2;exact ⟨uz,rz,.inr ⟨.inr S.2.2.2.2.1,c,S.celly _ _,hcell⟩⟩
  | i+2,h1,h2=>simp at h2
 ·rcases S.cells _ _ h with ⟨r1,r2⟩ | ⟨r1,r2,q⟩
  ·rw [r2];exact ⟨_,hcell⟩
  ·rw [r2];exact ⟨_,hcx q⟩
 ·rcases S.cells _ _ h with ⟨r1,r2⟩ | ⟨r1,r2,q⟩
  ·rw [r2];exact nc
  ·rw [r2];exact e0.hok.fresh (Nat.le_succ _)
end
def kx(CX:CXT):Prop:=∀ {outer:List Env} {H:Hp} {s:Shared} {E:XK} {e:Value} {s':Shared} {c:Addr} {oc:Obj},H c=some (FrO oc c)->s.heap.get? c=some oc->c∉frs outer->
 CX outer (del H c) s (λ a b H2=>E a b (upd H2 c (FrO oc c))) e s'->CX outer H s E e s'
def mS(CX:CXT):Prop:=∀ {outer:List Env} {H:Hp} {s:Shared} {E:XK} {e:Value} {s':Shared} {c:Addr} {oc:Obj},H c=none->s.heap.get? c=some oc->
 CX outer (upd H c (FrO oc c)) s (λ a b H2=>E a b (del H2 c)) e s'->CX outer H s E e s'
theorem zgX:kx CX0:=λ _ _ _ h=>h.elim
theorem zi1:mS CX0:=λ _ _ h=>h.elim
theorem zgY   : kx (CXr P w):=by
 rintro outer H s E e s' c oc ec hc nf ⟨a,cls,a0,H',B,rfl,os,bare,hfl,ha,u,hok,cond,hE⟩;have Bc:B.get? c=some oc:=by
  obtain ⟨o',e',q⟩:=cond c oc hc nf;rw [← q gZ];exact e'
 have nc:H' c=none:=u.free c oc hc gZ (by simp);have ac:a≠c:=λ z=>by
  have:=hfl.2.1;rw [z,Bc] at this;cases this
 refine ⟨a,cls,a0,upd H' c (FrO oc c),B,rfl,os,bare,hfl,by rw [aj ac];exact ha,u.refr ec,hok.frO nc Bc,λ b o q hb=>?_,hE⟩;obtain ⟨o',e',q'⟩:=cond b o q hb;refine ⟨o',e',λ n=>q' ?_⟩;rw [dA λ z=>by subst z;rw [ec] at n;cases n];exact n
theorem zi2   : mS (CXr P w):=by
 rintro outer H s E e s' c oc nc hc ⟨a,cls,a0,H',B,rfl,os,bare,hfl,ha,u,hok,cond,hE⟩;have e1:H' c=some (FrO oc c):=u.frzs c _ _ ag;have Bc:B.get? c=some oc:=hok.at e1;refine ⟨a,cls,a0,del H' c,B,rfl,os,bare,hfl,?_,u.thaw nc hc (hfl.1 _ _ Bc),hok.del e1,λ b o q hb=>?_,hE⟩
 ·unfold del
  split
  ·rfl
  ·exact ha
 ·obtain ⟨o',e',q'⟩:=cond b o q hb;refine ⟨o',e',λ n=>?_⟩;by_cases z:b=c
  ·subst z;rw [hc] at q;cases q;rw [Bc] at e';cases e';rfl
  ·exact q' (by rw [aj z];exact n)
def zA(H:Hp)(l:Addr)(qual:Str)(ar:Arguments)(body:Expr)(sc:Scope)(cl:List (Str × Addr))(pm:Value)(c:Addr)(ctv:Value):Prop:=
 H l=some (FrO (W.kla_obj "<lambda>" qual ar body sc cl pm c ctv) l)/\CdH H c qual
def wR(qual:Str)(ar:Arguments)(body:Expr)(sc:Scope)(l:Addr)(y:Str)(c:Addr)(pm:Value)(c':Addr)(ctv:Value)(sb:V->V->Hp->VK->XK->Prop):Sp:=λ vs H Q E=>
 ∃ v z oc u,vs=[v]/\zA H l qual ar body sc [(y,c)] pm c' ctv/\H c=some (FrO oc c)/\oc.data = .cell (some u)/\RelV z u/\
  sb v z (del H c) (λ r H2=>H2 c=none->Q r (upd H2 c (FrO oc c))) (λ a b H2=>E a b (upd H2 c (FrO oc c)))
theorem zaY{k:Nat}{l:Addr}{body:Expr}{sb:V->V->Hp->VK->XK->Prop}(S:LamSc sc x y)(R:kx CX)(hbody:∀ (A:Around) (outer:List Env) (s:Shared) (H:Hp) (v z:V) (Q:VK) (E:XK),Room k (A.deeper (gv qual sc s.heap.objs.size l (.ref c') y c))->sb v z H Q E->
   ∃ t,PE (gY CX P w K mg base x y qual sc l (.ref c') c A outer s H E) body t/\t [some v,some z] H Q):
  FnOk P w K mg base CX (k+1) l (W.kla_fn "<lambda>" qual ar body sc [(y,c)] pm (.ref c') ctv) [x] (wR qual ar body sc l y c pm c' ctv sb):=by
 refine ⟨λ vs H Q E ⟨_,_,_,_,e,_⟩=>by rw [e];rfl,λ A outer s H args us vs Q E hr e0 hb r hsp=>?_⟩;obtain ⟨v,z,oc,u,rfl,⟨el,ocd,fs,t,ecd,hd,hv⟩,ec,hc,rz,hsb⟩:=hsp;obtain ⟨uv,rfl,rv⟩:=dk r;have hlo:=e0.hok.at el;have hco:=e0.hok.at ec;have nf:c∉frs outer:=λ q=>by rw [e0.frf c q] at ec;cases ec
 have lim:s.heap.NoLimit:=e0.mod.nolimit.keeps λ b o e=>(e0.bs b o e).1;refine W.kla_callFunE hr.depth hlo rfl S.2.1 S.2.2.1 rfl ⟨c',_,fs,t,rfl,e0.hok.at ecd,hd,hv⟩ (hb _ _ _ _ ?_);refine zdY S λ h1 tk m hk hn hl hcx=>⟨lim.keeps hk,W.kla_codeExpr ?_⟩
 have dn:∀ {b:Addr},H b=none->del H c b=none:=λ q=>by
  unfold del
  split
  ·rfl
  ·exact q
 have e1:Env0 P w K mg base A outer s (del H c):=⟨e0.frames,e0.mod,λ b o q=>⟨(e0.bs b o q).1,dn (e0.bs b o q).2⟩,e0.bsz,e0.funs,λ b q=>dn (e0.frf b q),e0.hok.del ec,e0.bare⟩
 obtain ⟨t,ht,hq⟩:=hbody A outer s (del H c) v z _ _ (hr.deeper _) hsb;have I:Inv (gY CX P w K mg base x y qual sc l (.ref c') c A outer s (del H c) (λ a b H2=>E a b (upd H2 c (FrO oc c)))) [] [some v,some z] (del H c) { s with heap:=h1,toks:=tk }:=
  zbM S hr.hd e1 hco hc gZ rz rv hk hn hl hcx
 refine wpAny_mono (ht [] _ _ _ _ I hq) (λ u' s' ⟨r,H2,J,rr,q⟩=>?_) λ e s' hs=>wpAny_mono hs (λ _ s2 q=>R ec hco nf q) λ e2 s2 q=>R ec hco nf q;have nc:=J.base.free c oc hco gZ nofun;exact ⟨r,upd H2 c (FrO oc c),J.os,J.bare,J.base.refr ec,J.hok.frO nc (J.base.keep c oc hco gZ nf nofun),rr,q nc⟩
section
variable {k:Nat} {E:XK} {t:TA}
inductive zil (i:Nat) (c:Addr) (sp:Sp) (E:XK) (σ:St) (Q:VK) (vs:List V) (H1:Hp):Prop
 | i (v:_) (_:σ[i]?=some (some v)) (_:∀ oc u,H1 c=none->oc.data = .cell (some u)->RelV v u->sp vs (upd H1 c (FrO oc c)) (λ r H2=>Q r (del H2 c)) λ a b H2=>E a b (del H2 c))
def zik(i:Nat)(c:Addr)(sp:Sp)(E:XK)(t:TA):TE:=λ σ H Q=>t σ H λ vs H1=>zil i c sp E σ Q vs H1
theorem Cal.peZ(C:Cal X.prog X.w X.K X.mg X.base CX k x ps sp)(hr:Room j X.A)(hx:cV CX X E)(TH:mS CX)(ha:PA X (e::es) t)(hN:X.N[i]?=some y)(hy:X.env.scope.names.lookup y=some .cell)(hc:X.env.cells.lookup y=some c)(hfn:X.fn y=true)(hj:k<=j:=by decide)(hg:Gl X x:=by rfl)(hdb:(x == ("__debug__" : Str))=false:=by decide)(he:starEach (e::es) X.env=(false,eval e X.env)::starEach es X.env:=by rfl)(hpl:(backTo pos (starEach es X.env)).any (·.1)=false:=by rfl):
  PE X (.Call (.Name x p) (e::es) [] pos) (zik i c sp E t):=by
 obtain ⟨f,fd,F,hm,hk,hb⟩:=C;intro pins s σ H Q I h;refine wpAny_Call_Name_kw (fw I hg hm ?_ hdb);refine W.callWith_K (h₀:=X.base) I.ok.mod.kin hk (thn (ha pos pins s σ H _ I h) λ us s1 ⟨vs,H1,I1,r,v,ev,q⟩=>⟨I1.kIn,?_⟩) he hpl;have nc:=I1.freeC y c hc;obtain ⟨m,hn,hl⟩:=I1.loc;obtain ⟨u,ru,lk⟩:=hl i y v hN ev (.inr (.inl hy));have hcell:s1.heap.IsCell c (some u):=by
  rcases lk with ⟨q1,_⟩ | ⟨_,c2,q2,q3⟩
  ·exact absurd (hy.symm.trans q1) (by simp)
  ·rw [hc] at q2;cases q2;exact q3
 obtain ⟨oc,eo,ed⟩:=hcell;have q:=q oc u nc ed ru;have lo:X.s₀.heap.objs.size<=c:=I1.ok.cab y c hfn hc;have n1:∀ {b:Addr},b < X.s₀.heap.objs.size->H1 b=none->upd H1 c (FrO oc c) b=none:=λ hb n=>by
  rw [aj (be (bU hb lo))];exact n
 have e0:=I1.env0;have e1:Env0 X.prog X.w X.K X.mg X.base X.A X.stack s1 (upd H1 c (FrO oc c)):=by
  refine ⟨e0.frames,e0.mod,λ b o q=>⟨(e0.bs b o q).1,n1 (bU (aS q) I1.ok.bsz) (e0.bs b o q).2⟩,e0.bsz,e0.funs,λ b hb=>?_,e0.hok.frO nc eo,e0.bare⟩;rcases al_mc.mp (I1.stkSub b hb) with z | z
  ·rw [aj (by rw [z];exact (I1.cne y c hc).symm)];exact e0.frf b hb
  ·obtain ⟨_,o,ho,_⟩:=I1.ok.funs.mem z;exact n1 (aS ho) (e0.frf b hb)
 have hlen:us.length=ps.length:=by rw [← r.length];exact F.len _ _ _ _ q
 have hbs:=hb s1 us I1.kIn (by rw [List.append_nil];exact hlen);rw [List.append_nil] at hbs;refine wpAny_call (codeAny_mono (F.run X.A X.stack s1 _ ⟨us,[]⟩ us vs _ _ (hr.mono hj) e1 hbs r q) λ rr s' hq=>?_);cases rr with
 | error e=>exact hx pins σ H1 s1 e s' I1 (TH nc eo hq)
 | ok fl=>
  cases fl with
  | ret u2=>
   obtain ⟨v2,H2,os,bare,un,hok,r2,q2⟩:=hq;have e2:=un.frzs c _ _ ag;exact I1.after ⟨v2,del H2 c,os,bare,un.thaw nc eo (hok.at e2),hok.del e2,r2,q2⟩
  | next=>exact False.elim hq
  | brk=>exact False.elim hq
  | cont=>exact False.elim hq
def FnV(K:W.Frag)(H:Hp)(l:Addr):Prop:=(∃ oc od fd sl,K.lookup l=some ⟨oc,od,.func fd,sl⟩)\/∃ oc od fd sl,H l=some (FrO ⟨oc,od,.func fd,sl⟩ l)
theorem FnV.at{pins:List (Addr × Obj)}{σ:St}{H:Hp}{s:Shared}{l:Addr}(I:Inv X pins σ H s)(h:FnV X.K H l):W.FnAt l s.heap:=by
 rcases h with ⟨oc,od,fd,sl,e⟩ | ⟨oc,od,fd,sl,e⟩
 ·exact ⟨oc,od,fd,sl,I.kIn _ _ e⟩
 ·exact ⟨oc,od,fd,sl,I.hok.at e⟩
inductive zij (P:Program) (w:World) (K:W.Frag) (mg:Str->Option Value) (base:Heap) (CX:CXT) (k:Nat) (i:Nat) (E:XK) (t:TA) (σ:St) (H:Hp) (Q:VK):Prop
 | i (l fd ps sp:_) (_:σ[i]?=some (some (.ref l))) (_:FnV K H l) (_:FnOk P w K mg base CX k l fd ps sp) (_:Binds K fd ps []) (_:t σ H λ vs H1=>FnV K H1 l/\sp vs H1 Q E)
theorem oI(P:Program)(w:World)(K:W.Frag)(mg:Str->Option Value)(base:Heap)(k:Nat)(hr:Room j X.A)(hx:cV CX X E)(ha:PA X (e::es) t)(hn:PE X (.Name x p) (cf i))(hj:k<=j)(h1:X.prog=P:=by rfl)(h2:X.w=w:=by rfl)(h3:X.K=K:=by rfl)(h4:X.mg=mg:=by rfl)(h5:X.base=base:=by rfl)(he:starEach (e::es) X.env=(false,eval e X.env)::starEach es X.env:=by rfl)(hpl:(backTo pos (starEach es X.env)).any (·.1)=false:=by rfl):
  PE X (.Call (.Name x p) (e::es) [] pos) (zij P w K mg base CX k i E t):=by
 subst h1 h2 h3 h4 h5;rintro pins s σ H Q I ⟨l,fd,ps,sp,e1,v1,F,hb,h⟩;refine wpAny_Call_Name_kw (thn (hn pins s σ H (λ v H'=>v = .ref l/\H'=H) I ⟨_,e1,rfl,rfl⟩) λ u s1 ⟨v,H',I1,rv,ev,eH⟩=>?_);subst ev;subst eH;obtain rfl:u=Value.ref l:=rv;refine W.callWith_F (v1.at I1) (thn (ha pos pins s1 σ _ _ I1 h) λ us s2 ⟨vs,H2,I2,r,v2,q⟩=>⟨v2.at I2,?_⟩) he hpl;exact jW F (hr.mono hj) hb .nil hx I2 r (by rw [List.append_nil];exact q)
end
def mR(H:Hp)(ts:List Addr):Prop:=∀ p∈ts,H p=some (.tbl #[])
section
variable {mb:Str->Option Value} {k:Nat} {fa:Addr} {s₁:Shared}
theorem zci(KX:K.In s₁.heap)(hns:s₁.heap.Ns mainGlobals mg)(hb:s₁.heap.Ns builtinsNs mb)(hbb:∀ x:Str,x ≠ "__name__" -> mb x=bootBuiltins x)(hlim:s₁.heap.NoLimit)(hg:s₁.gens = #[])(hbm:fU s₁.heap mg)(ha:s₁.heap.get? a=some { cls:=.type "list", data:=.seq vs.toArray })(hi:IntsAre vs ns)(hl:ns.length<=sizeLine)(hr:Room k callerA)(ht:∀ p∈ts,s₁.heap.get? p=some (W.tabObj #[])/\K.lookup p=none/\∃ c,W.codeHdIn K c p=true)(F:∀ base:Heap,K.In base->base.Ns mainGlobals mg->fU base mg->FnOk P w K mg base CX k fa fd [x] sp)(hbind:∀ (s:Shared) (u:Value),BindsTo s fd ⟨[u],[]⟩ [(x,u)])(hsp:∀ H:Hp,mR H ts->SqL K H a (ns.map V.int)->sp [.ref a] H (λ v _=>v = .bl true) λ _ _ _=>False)(hCX:∀ H e s',CX [] H s₁ (λ _ _ _=>False) e s'->False):
  codeAny (model P w) callerA (.call (.ref fa) ⟨[.ref a],[]⟩) (λ r s'=>r = .ok (.ret (.bool true))/\OldK s₁.heap s'.heap/\s'.os=s₁.os/\AllBare s'.gens) s₁:=by
 have rv:=yo hi;let so:HO:=.frz { cls:=.type "list", data:=.seq vs.toArray } (.lst (ns.map V.int));let H:Hp:=λ b=>if b∈ts then some (.tbl #[]) else if b=a/\K.lookup a=none then some so else none
 have ea:a∉ts:=λ m=>by
  have:=(ht a m).1;rw [ha] at this;cases this
 have Ht:∀ {b},b∈ts->H b=some (.tbl #[]):=λ m=>if_pos m;have Hk:∀ {b u},H b=some u->(b∈ts/\u = .tbl #[])\/(b=a/\K.lookup a=none/\u=so):=λ {b u} e=>by
  by_cases m:b∈ts
  ·rw [Ht m] at e;cases e;exact .inl ⟨m,rfl⟩
  ·by_cases z:b=a/\K.lookup a=none
   ·have e:(if b∈ts then some (HO.tbl #[]) else if b=a/\K.lookup a=none then some so else none)=some u:=e;rw [if_neg m,if_pos z] at e;cases e;exact .inr ⟨z.1,z.2,rfl⟩
   ·have e:(if b∈ts then some (HO.tbl #[]) else if b=a/\K.lookup a=none then some so else none)=some u:=e;rw [if_neg m,if_neg z] at e;cases e
 have free:∀ {b o},s₁.heap.get? b=some o->o.cls≠.none->o.cls≠.type "list" -> H b=none:=λ {b o} e n1 n2=>by
  cases q:H b with
  | none=>rfl
  | some u=>
   rcases Hk q with ⟨m,_⟩ | ⟨z,_⟩
   ·have:=(ht b m).1;rw [e] at this;cases this;exact absurd rfl n1
   ·rw [z,ha] at e;cases e;exact absurd rfl n2
 have freeD:∀ {b o es ep},s₁.heap.get? b=some o->o.data = .dict es ep->H b=none:=λ {b o es ep} e d=>by
  cases q:H b with
  | none=>rfl
  | some u=>
   rcases Hk q with ⟨m,_⟩ | ⟨z,_⟩
   ·have:=(ht b m).1;rw [e] at this;cases this;cases d
   ·rw [z,ha] at e;cases e;cases d
 have nsK:∀ {b m},s₁.heap.Ns b m->(gd s₁.heap H).Ns b m:=λ {b m} ⟨o,es,ep,e,d,r⟩=>⟨o,es,ep,nX e (freeD e d),d,r⟩
 have hK:K.In (gd s₁.heap H):=λ b o e=>nX (KX b o e) (by
  cases q:H b with
  | none=>rfl
  | some u=>
   rcases Hk q with ⟨m,_⟩ | ⟨z,n,_⟩
   ·rw [(ht b m).2.1] at e;cases e
   ·rw [z,n] at e;cases e)
 have hok:HOk P w H s₁.heap:=λ b u e=>by
  rcases Hk e with ⟨m,rfl⟩ | ⟨rfl,_,rfl⟩
  ·exact (ht b m).1
  ·exact ⟨ha,by rw [ae];exact hl,vs,_,rv,ha⟩
 have hM:Mod K mg (gd s₁.heap H):=⟨hK,nsK hns,⟨mb,nsK hb,hbb⟩,let ⟨mc,h1,h2⟩:=hlim;⟨mc,nsK h1,h2⟩⟩
 have hB:fU (gd s₁.heap H) mg:=let ⟨bm,ob,b1,b2,b3,b4,r⟩:=hbm;⟨bm,ob,b1,b2,nX b3 (free b3 (by rw [b4];nofun) (by rw [b4];exact λ z=>absurd (Value.type.inj z) (by decide))),b4,r⟩;have e0:Env0 P w K mg (gd s₁.heap H) callerA [] s₁ H:=⟨rfl,hM,λ b o e=>zd8 e,Nat.le_of_eq (zbl _ _),trivial,λ b hb=>absurd (show b∈([]:List Addr) from hb) (by simp),hok,.of_eq hg⟩
 have sq:SqL K H a (ns.map V.int):=by
  cases hk:K.lookup a with
  | none=>exact .inl (.inr ⟨_,by show (if a∈ts then _ else if a=a/\K.lookup a=none then _ else _)=_;rw [if_neg ea,if_pos ⟨rfl,hk⟩]⟩)
  | some o=>
   have e:=KX a o hk;rw [ha] at e;cases e;exact .inr ⟨_,vs.toArray,_,hk,rfl,rfl,rfl,by rw [aT,hi.length];exact hl,by simpa using rv⟩
 refine codeAny_mono ((F _ hK (nsK hns) hB).run callerA [] s₁ H ⟨[.ref a],[]⟩ [.ref a] [.ref a] _ _ hr e0 (hbind s₁ (.ref a)) (.cons rfl .nil) (hsp H (λ p m=>Ht m) sq)) λ r s' h=>?_;cases r with
 | error e=>exact (hCX H e s' h).elim
 | ok fl=>
  cases fl with
  | next=>exact False.elim h
  | brk=>exact False.elim h
  | cont=>exact False.elim h
  | ret u=>
   obtain ⟨v,H',os,bare,un,hok',r',q⟩:=h;have q':v = .bl true:=q;subst q';obtain rfl:u=Value.bool true:=r';refine ⟨rfl,⟨λ b o e=>?_,λ b o e=>un.there b o e (by simp)⟩,os,bare⟩;cases q:H b with
   | none=>exact .inl (un.keep b o e q (by intro z;exact absurd (show b∈([]:List Addr) from z) (by simp)) (by simp))
   | some u=>
    rcases Hk q with ⟨m,rfl⟩ | ⟨z,_,rfl⟩
    ·obtain ⟨more,e2⟩:=un.tbls b _ q;obtain ⟨g1,_,c,g2⟩:=ht b m;have t1:=(W.codeHd_of_K KX g2).tab g1;rw [e] at g1;cases g1;exact .inr (.inl ⟨t1.isCodeTable,rfl,#[],more,rfl,hok' b _ e2⟩)
    ·have e2:=un.frzs b _ _ q;have e3:=(hok' b _ e2).1;have e4:=(hok b _ q).1;rw [e] at e4;cases e4;exact .inl e3
end
theorem zjm{l:W.OpenLaw}{k:Nat}{d:DefRec}{K:Params->W.Frag}{sp:W.Frag->List Addr->Sp}(hn:l.most=some n)(hn2:n<=sizeLine)(hdf:d.params.defaults=[])(hr:Room k callerA)(hY:∀ (w:World) (h:Heap),YP w h->(K w.params).In h)(hT:∀ (w:World) (h:Heap),YP w h->∀ p∈ts,h.get? p=some (W.tabObj #[]))(F:∀ (w:World) (mg:Str->Option Value) (fa:Addr) (h:Heap),(K w.params).In h->h.Ns mainGlobals mg->mg d.name=some (.ref fa)->
   (∀ p∈ts,(K w.params).lookup p=none/\∃ c,W.codeHdIn (K w.params) c p=true)/\∃ fd:FuncData,(∀ (s:Shared) (u:Value),BindsTo s fd ⟨[u],[]⟩ [(x,u)])/\
    ∀ base:Heap,(K w.params).In base->base.Ns mainGlobals mg->fU base mg->FnOk l.prog w (K w.params) mg base CX k fa fd [x] (sp (K w.params) ts))(hsp:∀ (K:W.Frag) (H:Hp) (a:Addr) (ns:List Int),ns.length<=n->mR H ts->SqL K H a (ns.map V.int)->sp K ts [.ref a] H (λ v _=>v = .bl true) λ _ _ _=>False)(hCX:∀ (H:Hp) (s:Shared) (e:Value) (s':Shared),CX [] H s (λ _ _ _=>False) e s'->False):
  W.WalkO q loose XP YP l.row.toRowW d [] (λ f vs=>PySem.call f vs):=by
 refine Att.attach_call hn hdf λ w s₀ s₁ mg mb fa o pm cd doc a vs ns G Y ho hd hcd hmg hobj hints hlen hg=>?_;have KX:=hY w _ Y;obtain ⟨ht,fd,hb,hF⟩:=F w mg fa _ KX G.T.g hmg;exact zci KX G.T.g G.T.b G.T.builtins G.T.nolimit hg G.T.bmain hobj hints (Nat.le_trans hlen hn2) hr (λ p m=>⟨hT w _ Y p m,ht p m⟩) hF hb (λ H hO hS=>hsp _ H a ns hlen hO hS) λ H e s'=>hCX H s₁ e s'
structure FunC (K:W.Frag) (x qual:Str) (st:Stmt) (f:Addr) (fd:FuncData) (c T:Addr):Prop where
 ex:∃ (oc:Value) (od:Option Addr) (kV doc pm:Value) (an:Option Addr) (ct:Value) (osl:Array (Option Value)),
  fd=W.fnOf x qual (dr st) (cS st) (av st) .none kV doc pm an (.ref c) ct/\K.lookup f=some ⟨oc,od,.func fd,osl⟩/\W.codeIn K (.ref c) qual=true
 hd:W.codeHdIn K c T=true
section
variable {f T:Addr} {k:Nat}
theorem FunC.ok(F:FunC K x qual st f fd c T)(S:aC N ps (av st))(len:∀ vs H Q E,sp vs H Q E->vs.length=ps.length)(hbody:∀ (A:Around) (outer:List Env) (s:Shared) (H:Hp) (vs:List V) (Q:VK) (E:XK),Room k (A.deeper (envOfC qual (av st) s.heap.objs.size f (.ref c)))->sp vs H Q E->
   ∃ t,PSs (c4 CX P w K mg base N qual (av st) f (.ref c) A outer s H E) (cS st) t/\t { nx:=λ _ H'=>Q .non H',rt:=Q } (fR N vs) H):FnOk P w K mg base CX (k+1) f fd ps sp:=by
 obtain ⟨oc,od,kV,doc,pm,an,ct,osl,rfl,lk,hcd⟩:=F.ex;exact nF lk hcd S len λ A outer s H vs Q E hr hsp=>hbody A outer s H vs Q E hr hsp
end
inductive DcK (w:World) (K:W.Frag) (mg:Str->Option Value) (x:Str) (L:List (Str × V)):Prop
 | i (a:Addr) (es:Array DictEntry) (n:Nat) (_:mg x=some (.ref a)) (_:(a == sysModules)=false) (_:K.lookup a=some ⟨.type "dict", none,.dict es n,#[]⟩) (_:W.KeysLit w.params es.toList) (_:∀ y,RelO (L.lookup y) (findBy Value.isStrOf es y))
def mM:List DictEntry->List (Str × V)->Prop
 | [],[]=>True
 | e::r,(x,v)::l=>(∃ t,e.key = .str x t)/\RelV v e.val/\mM r l
 | _,_=>False
theorem ug:∀ {es:List DictEntry} {L:List (Str × V)},mM es L->∀ y,RelO (L.lookup y) ((es.find? λ e=>Value.isStrOf y e.key).map (·.val))
 | [],[],_,_=>trivial
 | e::r,(x,v)::l,⟨⟨t,hk⟩,hv,hr⟩,y=>by
  rw [List.lookup_cons,List.find?_cons,hk];by_cases h:y=x
  ·subst h;rw [show (y == y)=true by simp,show Value.isStrOf y (.str y t)=true by simp [Value.isStrOf]];exact hv
  ·rw [show (y == x)=false by simpa using h,show Value.isStrOf y (.str x t)=false by simp [Value.isStrOf];exact λ z=>h z.symm];exact ug hr y
 | [],_::_,h,_=>h.elim
 | _::_,[],h,_=>h.elim
theorem tZ{es:List DictEntry}(hm:mg x=some (.ref a))(ha:(a == sysModules)=false)(l:K.lookup a=some ⟨.type "dict", none,.dict ⟨es⟩ n,#[]⟩)(k:W.KeysLit w.params es)(h:mM es L):DcK w K mg x L:=
 ⟨a,⟨es⟩,n,hm,ha,l,k,λ y=>by
  unfold findBy;rw [List.find?_toArray];exact ug h y⟩
section
variable {i:Expr}
inductive zir (L:List (Str × V)) (Q:VK) (y:V) (H1:Hp):Prop
 | i (z:_) (_:y = .str z) (_:Q (.bl (L.lookup z).isSome) H1)
def ziq(L:List (Str × V))(ti:TE):TE:=λ σ H Q=>ti σ H λ y H1=>zir L Q y H1
inductive ziv (L:List (Str × V)) (Q:VK) (y:V) (H1:Hp):Prop
 | i (z:_) (_:y = .str z) (_:Q (.bl (!(L.lookup z).isSome)) H1)
def ziu(L:List (Str × V))(ti:TE):TE:=λ σ H Q=>ti σ H λ y H1=>ziv L Q y H1
inductive zit (L:List (Str × V)) (Q:VK) (y:V) (H1:Hp):Prop
 | i (z v:_) (_:y = .str z) (_:L.lookup z=some v) (_:Q v H1)
def zis(L:List (Str × V))(ti:TE):TE:=λ σ H Q=>ti σ H λ y H1=>zit L Q y H1
theorem DcK.pin(C:DcK X.w X.K X.mg x L)(hi:PE X i ti)(hg:Gl X x:=by rfl)(hdb:(x == ("__debug__" : Str))=false:=by decide):PC X .In i (.Name x p) (ziq L ti):=by
 obtain ⟨a,es,n,hm,hs,hl,hk,hf⟩:=C;intro pins s σ H Q I h;refine thn (hi pins s σ H _ I h) λ iv s1 ⟨y,H1,I1,ry,z,ey,q⟩=>fw I1 hg hm ?_ hdb;subst ey;obtain ⟨tk,rfl⟩:=ry;have hmap:=W.mapOf_K (prog:=X.prog) (w:=X.w) I1.kIn hl hk;refine wpAny_in_of (strKind_is X.prog X.w z tk) hs hmap ?_;rw [← (hf z).isSome_eq];exact ⟨.bl _,H1,I1.tok _,rfl,q⟩
theorem DcK.pnin(C:DcK X.w X.K X.mg x L)(hi:PE X i ti)(hg:Gl X x:=by rfl)(hdb:(x == ("__debug__" : Str))=false:=by decide):PC X .NotIn i (.Name x p) (ziu L ti):=by
 obtain ⟨a,es,n,hm,hs,hl,hk,hf⟩:=C;intro pins s σ H Q I h;refine thn (hi pins s σ H _ I h) λ iv s1 ⟨y,H1,I1,ry,z,ey,q⟩=>fw I1 hg hm ?_ hdb;subst ey;obtain ⟨tk,rfl⟩:=ry;have hmap:=W.mapOf_K (prog:=X.prog) (w:=X.w) I1.kIn hl hk;refine wpAny_notIn_of (strKind_is X.prog X.w z tk) hs hmap ?_;rw [← (hf z).isSome_eq];exact ⟨.bl _,H1,I1.tok _,rfl,q⟩
theorem DcK.pix(C:DcK X.w X.K X.mg x L)(hi:PE X i ti)(hg:Gl X x:=by rfl)(hs:kq i:=by (intro _ _;rfl))(hdb:(x == ("__debug__" : Str))=false:=by decide):PE X (.Subscript (.Name x p) i pos) (zis L ti):=by
 obtain ⟨a,es,n,hm,_,hl,hk,hf⟩:=C;intro pins s σ H Q I h;refine rO F.slot_dict_getitem.lookup hs (fw I hg hm (thn (hi pins s σ H _ I h) λ iv s1 ⟨y,H1,I1,ry,z,v,ey,ev,q⟩=>?_) hdb);subst ey;obtain ⟨tk,rfl⟩:=ry;have hmap:=W.mapOf_K (prog:=X.prog) (w:=X.w) I1.kIn hl hk;have e:=hf z;rw [ev] at e;obtain ⟨u,eu,ru⟩:∃ u,findBy Value.isStrOf es z=some u/\RelV v u:=by
  cases q2:findBy Value.isStrOf es z with
  | none=>rw [q2] at e;exact e.elim
  | some u=>rw [q2] at e;exact ⟨u,rfl,e⟩
 exact ⟨hmap.typeIs,wpAny_getItem_of (strKind_is X.prog X.w z tk) hmap eu ⟨v,H1,I1.tok _,ru,q⟩⟩
end
theorem zd1:typeLookup (.type "list") "keys" = pure none:=by rw [typeLookup_type,builtinLookup_eq_fast];kernel_rfl
theorem zd2:typeLookup (.type "zip") "keys" = pure none:=by rw [typeLookup_type,builtinLookup_eq_fast];kernel_rfl
theorem zdZ:typeLookup (.type "zip") "__getattr__" = pure none:=by rw [typeLookup_type,builtinLookup_eq_fast];kernel_rfl
theorem zd3{xs:Array Value}{k:Nat}{Q:Option Value->Shared->Prop}(hx:s.heap.get? a=some { cls:=.type "list", dict:=none,data:=.seq xs k,slots:=sl })(hA:A.handled=none)(h:∀ h' tk,(∀ b ob,s.heap.get? b=some ob->h'.get? b=some ob)->Q none { s with heap:=h',toks:=tk }):wpAny (model prog w) A (getAttr? (.ref a) "keys") Q E s:=by
 obtain ⟨hp,g,d,tk,os⟩:=s;have hT:∀ tk',(⟨hp,g,d,tk',os⟩:Shared).TypeIs (.ref a) "list" := λ _=>⟨_,hx,rfl⟩
 have f1:=sub_AttributeError;have f3:=F.slot_list_getattribute.lookup;have f4:=F.slot_list_getattribute.bind (.ref a);have f5:=am_list_getattr_none;unfold getAttr? getAttrBy? getAttrBy
 repeat (any_goals (first | assumption | exact hT _ | ((with_reducible show wpAny _ _ (call (Value.builtin "list.__getattribute__") _ _) _ _ _);refine call_meets F.slot_list_getattribute (hT _) am_entry_list_getattribute (F.args_list_getattribute_2 _ _) (meets_getattribute_miss_list a xs k sl "keys" _ zd1 (by decide) (by decide)) ⟨hx,hA,λ h' tk' e hx'=>?_⟩) | wp_step))
 obtain ⟨t',u',he⟩:=hx'.there;show wpAny _ _ (getattributeRaised _ _ _ _ _ _ _) _ _ _;unfold getattributeRaised
 repeat (any_goals (first | assumption | wp_step))
 exact h _ _ hx'.keeps
theorem uf:entryFor table "dict.update.loop" = some Builtin.«dict.update.loop»:=entryFor_of_tree (by kernel_rfl)
theorem lF:plainId "dict.update.loop" = true:=by decide +kernel
structure kr (prog:Program) (w:World) (A:Around) (I d:Addr) (wr:List Addr) (n:Nat) (kv:Nat->Value × Value) (St:Nat->Heap->Prop):Prop where
 nw:d∉wr
 frame:∀ i h h',St i h->(∀ b o,b≠d->h.get? b=some o->h'.get? b=some o)->h.objs.size<=h'.objs.size->St i h'
 item:∀ i (s:Shared) (Q:Option Value->Shared->Prop) (E:Value->Shared->Prop),i < n->St i s.heap->
  (∀ p h' tk,IsTup h' p #[(kv i).1,(kv i).2]->St (i+1) h'->(∀ b o,b∉wr->s.heap.get? b=some o->h'.get? b=some o)->Q (some (.ref p)) { s with heap:=h',toks:=tk })->wpAny (model prog w) A (pyNext (.ref I)) Q E s
 done:∀ (s:Shared) (Q:Option Value->Shared->Prop) (E:Value->Shared->Prop),St n s.heap->
  (∀ h' tk,(∀ b o,b∉wr->s.heap.get? b=some o->h'.get? b=some o)->Q none { s with heap:=h',toks:=tk })->wpAny (model prog w) A (pyNext (.ref I)) Q E s
section
variable [DecidableEq κ] {kn:KeyKind prog w κ} {St:Nat->Heap->Prop}
def gs(kk:Nat->κ)(kv:Nat->Value × Value):Nat->List (κ × Value)
 | 0=>[]
 | i+1=>stored (gs kk kv i) (kk i) (kv i).2
theorem zaJ(W:kr prog w A.in1 I d wr n kv St)(kk:Nat->κ)(hk:∀ i < n,kn.is (kk i) (kv i).1=true)(hz:∀ i,i<=n->(gs kk kv i).length<=sizeLine):
  ∀ (m i:Nat) (s:Shared) (j:Int) (tj:Tok),n - i=m->i<=n->St i s.heap->s.heap.DictOf kn d (gs kk kv i)->
   (∀ h' tk,h'.DictOf kn d (gs kk kv n)->(∀ b o,b∉d::wr->s.heap.get? b=some o->h'.get? b=some o)->R (.ok (.ret .none)) { s with heap:=h',toks:=tk })->
   codeAny (model prog w) A (.builtin "dict.update.loop" { pos:=[.ref d,.ref I,.int j tj,.none] }) R s:=by
 have nW:=W.nw;intro m;induction m with
 | zero=>
  intro i s j tj hm hi st hd q;have e:i=n:=by omega
  subst e;refine codeAny_builtin uf ?_;rw [Around.under_plainId lF _];refine ao (m:=pyNext (.ref I)) (W.done s _ _ st λ h' tk k=>?_);refine ao (m:=Builtin.Dict.addKeywords d []) (aL (aL (q h' tk ?_ λ b o hb e=>k b o (λ z=>hb (bV _ z)) e)));obtain ⟨o,es,ep,e,r⟩:=hd;exact ⟨o,es,ep,k d o nW e,r⟩
 | succ m ih=>
  intro i s j tj hm hi st hd q;have lt:i < n:=by omega
  refine codeAny_builtin uf ?_;rw [Around.under_plainId lF _];refine ao (m:=pyNext (.ref I)) (W.item i s _ _ lt st λ p h1 tk ht st1 k1=>?_);have hd1:h1.DictOf kn d (gs kk kv i):=by
   obtain ⟨o,es,ep,e,r⟩:=hd;exact ⟨o,es,ep,k1 d o nW e,r⟩
  obtain ⟨ot,et,ct,nt,dt⟩:=ht;dsimp only;have hT:Shared.TypeIs { s with heap:=h1,toks:=tk } (.ref p) "tuple" := ⟨_,et,ct⟩
  refine ao (wpAny_holding (ao (wpAny_tryCatch ?_)));unfold Builtin.Dict.pairItems;refine ao (wpAny_typeOf hT ?_);rw [if_pos (by decide)];refine ao (wpAny_seqItems et dt (aL ?_));dsimp only [Option.getD];refine wpAny_holding (wpAny_dictSet_pairs (hsz:=hz i hi) (hk i lt) hd1 λ h2 hd2 sb=>aL ⟨plainId_quiet lF _,ih (i+1) _ _ _ (by omega) lt (W.frame _ _ _ st1 (λ b o hb e=>?_) (Nat.le_of_eq sb.1.symm)) hd2 λ h' tk' hd' k'=>?_⟩)
  ·rw [sb.2 b hb];exact e
  ·refine q h' tk' hd' λ b o hb e=>k' b o hb ?_;have nb:b≠d:=λ z=>hb (by rw [z];exact cG);rw [sb.2 b nb];exact k1 b o (λ z=>hb (bV _ z)) e
end
section
variable [DecidableEq κ] {kn:KeyKind prog w κ} {kk:Nat->κ}
theorem ub{T:String}{ok:Addr->Prop}(ty:s.TypeIs (.ref a) T)(nd:(Value.type T != .type "dict")=true)(nk:∀ (s':Shared) (E':Value->Shared->Prop) (Q':Option Value->Shared->Prop),(∀ b o,s.heap.get? b=some o->s'.heap.get? b=some o)->(∀ h' tk,(∀ b o,s'.heap.get? b=some o->h'.get? b=some o)->Q' none { s' with heap:=h',toks:=tk })->
   wpAny (model prog w) A.in1.in1 (getAttr? (.ref a) "keys") Q' E' s')(it:∀ (s':Shared) (E':Value->Shared->Prop) (Q':Value->Shared->Prop),(∀ b o,s.heap.get? b=some o->s'.heap.get? b=some o)->s.heap.objs.size < s'.heap.objs.size->
   (∀ I h' wr St,kr prog w A.in1.in1 I s.heap.objs.size wr n kv St->St 0 h'->(∀ b o,s'.heap.get? b=some o->h'.get? b=some o)->(∀ b∈wr,¬ ok b\/s'.heap.objs.size<=b)->Q' (.ref I) { s' with heap:=h' })->
   wpAny (model prog w) A.in1.in1 (pyIter (.ref a)) Q' E' s')(hk:∀ i < n,kn.is (kk i) (kv i).1=true)(hz:∀ i,i<=n->(gs kk kv i).length<=sizeLine)(q:∀ h' tk,h'.DictOf kn s.heap.objs.size (gs kk kv n)->(∀ b o,ok b->s.heap.get? b=some o->h'.get? b=some o)->Q (.ref s.heap.objs.size) { s with heap:=h',toks:=tk }):wpAny (model prog w) A (call (.type "dict") [.ref a]) Q E s:=by
 refine callType_codes (Q₁:=λ obj s₁=>obj = .ref s.heap.objs.size/\s₁={ s with heap:=s.heap.push { cls:=.type "dict", data:=.dict #[] } }) F.kt_called_dict (F.kt_typeCall_dict_1 _) F.entry_dict_init (kt_code_dict_new _ ⟨rfl,rfl⟩) ?_;rintro obj s₁ ⟨rfl,rfl⟩;have hnew:(s.heap.push { cls:=.type "dict", data:=.dict #[] }).DictOf kn s.heap.objs.size []:=Heap.DictOf.new s.heap;refine ⟨hnew.typeIs,F.args_dict_init_2 _ _,?_⟩;unfold Builtin.«dict.__init__»;refine ao ?_;unfold Builtin.Dict.selfAndRest;refine ao (wpAny_notOrdered_dict hnew.typeIs ?_);show wpAny _ _ (pure (s.heap.objs.size,[Value.ref a])) _ _ _;refine aL ?_;show wpAny _ _ (Builtin.Dict.updateFrom "dict.__init__" s.heap.objs.size (.ref a) [] .none) _ _ _;unfold Builtin.Dict.updateFrom;have tya:Shared.TypeIs { s with heap:=s.heap.push { cls:=.type "dict", data:=.dict #[] } } (.ref a) T:=by
  obtain ⟨o,e,c⟩:=ty;exact ⟨o,bf _ e,c⟩
 refine ao (wpAny_typeOf tya ?_);rw [if_pos nd];refine ao (nk _ _ _ (λ b o e=>bf _ e) λ h1 tk1 k1=>?_);have hd1:h1.DictOf kn s.heap.objs.size []:=by
  obtain ⟨o,es,ep,e,r⟩:=hnew;exact ⟨o,es,ep,k1 _ _ e,r⟩
 have lt1:s.heap.objs.size < h1.objs.size:=let ⟨o,es,ep,e,r⟩:=hd1;aS e;have ks:∀ b o,s.heap.get? b=some o->h1.get? b=some o:=λ b o e=>k1 b o (bf _ e);simp only [Option.isNone_none,if_true];refine ao (wpAny_rule ?_);refine ao (it _ _ _ ks lt1 λ I h2 wr St W st k2 hw=>aL ⟨plainId_quiet lF _,?_⟩);refine zaJ W kk hk hz (n - 0) 0 _ 0 _ (by omega) (Nat.zero_le _) st ?_ λ h3 tk3 hd3 k3=>⟨rfl,q h3 tk3 hd3 λ b o hb e=>k3 b o ?_ (k2 b o (ks b o e))⟩
 ·obtain ⟨o,es,ep,e,r⟩:=hd1;exact ⟨o,es,ep,k2 _ _ e,r⟩
 ·intro z;have hb1:=aS e;rcases al_mc.mp z with z | z
  ·exact absurd hb1 (by rw [z];exact Nat.lt_irrefl _)
  ·rcases hw b z with y | y
   ·exact y hb
   ·exact absurd (bU (Nat.lt_trans hb1 lt1) y) (Nat.lt_irrefl _)
end
theorem zfS(hh:A.handled=none)(I l d:Addr)(hne:l≠I)(n1:I≠d)(n2:l≠d)(its:Array Value)(tp:Nat->Addr)(kv:Nat->Value × Value)(htp:∀ (i:Nat) (v:Value),its[i]?=some v->v = .ref (tp i))(nt:∀ i < its.size,tp i≠I/\tp i≠d):
  kr prog w A I d [I] its.size kv (λ i h=>(h.IsListIter I l i/\h.IsList l its)/\∀ j < its.size,IsTup h (tp j) #[(kv j).1,(kv j).2]) where
 nw:=λ hb=>n1 (al_mi.mp hb).symm
 frame:=λ i h h' st k _=>⟨(Walks.list (prog:=prog) (w:=w) hh I l hne its).frame i h h' st.1 λ b hb o e=>k b o (by simp at hb;rcases hb with z | z <;> rw [z] <;> assumption) e,λ j hj=>by
  obtain ⟨o,e,r⟩:=st.2 j hj;exact ⟨o,k (tp j) o (nt j hj).2 e,r⟩⟩
 item:=λ i s Q E hi st hQ=>(Walks.list hh I l hne its).item i s Q E hi st.1 λ v h' tk hP st' k=>by
  obtain rfl:=htp i v hP;have tt:∀ j < its.size,IsTup h' (tp j) #[(kv j).1,(kv j).2]:=λ j hj=>by
   obtain ⟨o,e,r⟩:=st.2 j hj;exact ⟨o,k (tp j) o (by simp;exact (nt j hj).1) e,r⟩
  exact hQ _ _ _ (tt i hi) ⟨st',tt⟩ k
 done:=λ s Q E st hQ=>(Walks.list hh I l hne its).done s Q E st.1 hQ
def cP(ps:List (Key × V)):List (Key × V):=ps.foldl (λ a p=>bO a p.1 p.2) []
theorem zgr(ps:List (Key × V))(p:Key × V):cP (ps++[p])=bO (cP ps) p.1 p.2:=by
 unfold cP;rw [List.foldl_append];rfl
theorem uu:∀ (ps acc:List (Key × V)),(ps.foldl (λ a p=>bO a p.1 p.2) acc).length<=acc.length+ps.length
 | [],acc=>az _
 | p::r,acc=>by
  have h1:=uu r (bO acc p.1 p.2);have h2:=jG acc p.1 p.2;show (r.foldl _ (bO acc p.1 p.2)).length<=acc.length+(r.length+1)
  omega
theorem jS(ps:List (Key × V)):(cP ps).length<=ps.length:=by
 have:=uu ps [];rw [List.length_nil,Nat.zero_add] at this;exact this
theorem ng{ps:List (Key × V)}{kv:Nat->Value × Value}{kk:Nat->Key}(hk:∀ (i:Nat) p,ps[i]?=some p->kk i=p.1/\RelV p.2 (kv i).2):∀ i,i<=ps.length->KV (cP (ps.take i)) (gs kk kv i)
 | 0,_=>.nil
 | i+1,h=>by
  have lt:i < ps.length:=h;rw [cL,aG lt];show KV (cP (ps.take i++[ps[i]])) (stored _ _ _);rw [zgr];obtain ⟨e1,e2⟩:=hk i _ (aG lt);rw [e1];exact (ng hk i (aX lt)).put _ e2
theorem zan(hc:X.calm=true):CallR X (.type "dict") (λ xs H Q=>∃ (l:Addr) (as:List Addr) (ps:List (Key × V)),xs=[.ref l]/\H l=some (.lst (as.map V.ref))/\as.length=ps.length/\
  (∀ (i:Nat) a p,as[i]?=some a->ps[i]?=some p->H a=some (.tup [kV p.1,p.2]))/\∀ d,H d=none->Q (.ref d) (upd H d (.dK (cP ps)))):=by
 intro pins s σ H xs us Q I r h;obtain ⟨l,as,ps,rfl,hl,hlen,ht,q⟩:=h;obtain ⟨u,rfl,ru⟩:=dk r;cases ru;obtain ⟨hz,its,n,rv,eo⟩:=(show ObjOk X.prog X.w H s.heap l (.lst (as.map V.ref)) from I.hok l _ hl)
 have li:its.length=as.length:=by rw [← rv.length,ae]
 have hia:∀ (i:Nat) v,its[i]?=some v->∃ a p,as[i]?=some a/\ps[i]?=some p/\v = .ref a:=λ i v e=>by
  have hi:i < as.length:=by rw [← li];exact (al_gs.mp e).1
  obtain ⟨u,hu,ru⟩:=rv.get (i:=i) (x:=.ref as[i]) (by rw [aH,aG hi];rfl);rw [e] at hu;cases hu;exact ⟨as[i],ps[i],aG hi,aG (by omega),ru⟩
 -- the pairs as they lie
 have tup:∀ (i:Nat),∃ kv:Value × Value,∀ a p,as[i]?=some a->ps[i]?=some p->IsTup s.heap a #[kv.1,kv.2]/\RelV (kV p.1) kv.1/\RelV p.2 kv.2:=λ i=>by
  by_cases hi:i < as.length
  ·have e1:=ht i _ _ (aG hi) (aG (by omega:i < ps.length));obtain ⟨_,vs,r2,tt⟩:=(show ObjOk X.prog X.w H s.heap _ (.tup _) from I.hok _ _ e1)
   obtain ⟨u1,u2,rfl,r3,r4⟩:=ji r2;refine ⟨(u1,u2),λ a p ea ep=>?_⟩;rw [aG hi] at ea;cases ea;rw [aG (by omega:i < ps.length)] at ep;cases ep;exact ⟨tt,r3,r4⟩
  ·exact ⟨(.none,.none),λ a p ea _=>absurd (al_gs.mp ea).1 hi⟩
 obtain ⟨kv,hkv⟩:=Classical.axiomOfChoice tup;let tp:Nat->Addr:=λ i=>as.getD i 0;let kk:Nat->Key:=λ i=>(ps.getD i (.inl none,.non)).1;have tpe:∀ {i:Nat} {a:Addr},as[i]?=some a->tp i=a:=λ {i a} e=>by show as.getD i 0=a;rw [List.getD_eq_getElem?_getD,e];rfl
 have kke:∀ {i:Nat} {p:Key × V},ps[i]?=some p->kk i=p.1:=λ {i p} e=>by show (ps.getD i _).1=_;rw [List.getD_eq_getElem?_getD,e];rfl
 have at_:∀ i,i < its.length->∃ a p,as[i]?=some a/\ps[i]?=some p/\tp i=a/\kk i=p.1/\IsTup s.heap a #[(kv i).1,(kv i).2]/\RelV (kV p.1) (kv i).1/\RelV p.2 (kv i).2:=λ i hi=>by
  obtain ⟨a,p,ea,ep,_⟩:=hia i _ (aG hi);obtain ⟨h1,h2,h3⟩:=hkv i a p ea ep;exact ⟨a,p,ea,ep,tpe ea,kke ep,h1,h2,h3⟩
 have ltl:l < s.heap.objs.size:=aS eo;have ltt:∀ i,i < its.length->tp i < s.heap.objs.size:=λ i hi=>by
  obtain ⟨a,p,_,_,e,_,⟨o,eo,_⟩,_⟩:=at_ i hi;rw [e];exact aS eo
 have bk:=λ i hi=>ng (ps:=ps) (kv:=kv) (kk:=kk) (λ j p ep=>⟨kke ep,by
  have hj:j < as.length:=by rw [hlen];exact (al_gs.mp ep).1
  exact (hkv j _ p (aG hj) ep).2.2⟩) i hi
 have hps:ps.length<=sizeLine:=by rw [← hlen];simpa using hz
 have hh:=I.ok.hd hc;refine ub (kn:=cO X.prog X.w) (n:=its.toArray.size) (kv:=kv) (kk:=kk) (ok:=λ _=>True) (T := "list") ⟨_,eo,rfl⟩ (by decide) (λ s' E' Q' k hq=>zd3 (k _ _ eo) (by simp [hh]) hq) (λ s' E' Q' k lt hq=>?_) (λ i hi=>?_) (λ i hi=>?_) λ h' tk hd k=>?_
 ·refine wpAny_pyIter_list ⟨_,k _ _ eo,rfl,n,rfl⟩ ?_;refine hq _ _ _ _ (zfS (by simp [hh]) s'.heap.objs.size l s.heap.objs.size (be (Nat.lt_trans ltl lt)) (Nat.ne_of_gt lt) (be ltl) its.toArray tp kv (λ i v e=>?_) λ i hi=>?_) ⟨⟨⟨_,Heap.get?_push_size _ rfl,rfl,rfl⟩,⟨_,bf _ (k _ _ eo),rfl,n,rfl⟩⟩,λ j hj=>?_⟩ (λ b o e=>bf _ e) λ b hb=>?_
  ·obtain ⟨a,p,ea,_,e⟩:=hia i v (by simpa using e);rw [tpe ea];exact e
  ·have:=ltt i (by simpa using hi);exact ⟨be (Nat.lt_trans this lt),be this⟩
  ·obtain ⟨a,p,_,_,e,_,⟨o,eo,r⟩,_⟩:=at_ j (by simpa using hj);rw [e];exact ⟨o,bf _ (k _ _ eo),r⟩
  ·simp only [al_mi] at hb;exact .inr (by rw [hb];exact az _)
 ·obtain ⟨a,p,_,_,_,e,_,r1,_⟩:=at_ i (by simpa using hi);rw [e];exact hG r1
 ·have hi':i<=ps.length:=by rw [← hlen,← li];simpa using hi
  have:=(bk i hi').length;rw [← this];refine Nat.le_trans (jS _) (Nat.le_trans ?_ hps);rw [bc];omega
 ·have e1:its.toArray.size=ps.length:=by rw [aT,li,hlen]
  rw [e1] at hd;have b1:=bk ps.length (az _);rw [aZ] at b1;refine ⟨.ref s.heap.objs.size,_,I.laid (o:=.dK (cP ps)) (λ b o e=>k b o trivial e) (az _) (jw (Nat.le_trans (jS _) hps) ?_ b1 hd),rfl,q _ (I.hok.fresh (az _))⟩;have:=I.big;simp;exact Nat.ne_of_gt this
def fX(h:Heap)(z TI TO T:Addr):Prop:=∃ b,h.get? z=some { cls:=.type "zip", dict:=none,data:=.fields #[rawInt T,.bool b,.bool false,.ref TI,.ref TO],slots:=#[] }
theorem zjn{Q:Option Obj->Shared->Prop}(h:Q (s.heap.get? a) s):wpAny M A (loadIfAlive a) Q E s:=λ _ _ _=>h
theorem vR{TI TO T:Addr}{Q:Bool->Shared->Prop}(hz:fX s.heap z TI TO T)(hT:∃ o,s.heap.get? T=some o)(q:∀ h',fX h' z TI TO T->Heap.SameBut z s.heap h'->Q false { s with heap:=h' }):
  wpAny (model prog w) A (Builtin.SmallTypes.ownedTupleIsFree (.ref z)) Q E s:=by
 obtain ⟨b,hz⟩:=hz;obtain ⟨o,ho⟩:=hT;unfold Builtin.SmallTypes.ownedTupleIsFree;refine ao (wpAny_field hz rfl (x:=rawInt T) rfl ?_);show wpAny _ _ (loadIfAlive (T:Int).toNat >>= _) _ _ _;refine ao (zjn ?_);rw [Int.toNat_natCast,ho];simp only [Option.isNone_some,Bool.false_eq_true,if_false];refine ao (wpAny_field hz rfl (x:=.bool b) rfl ?_);cases b with
 | true=>
  rw [if_neg (by decide)];exact aL (q s.heap ⟨true,hz⟩ (Heap.SameBut.refl _ _))
 | false=>
  rw [if_pos (by decide)];refine ao (wpAny_setField_rec hz (by simp) λ h' hz' hs'=>aL (q h' ⟨true,hz'⟩ hs'))
theorem zjs{TI TO T:Addr}{k:Nat}{xs ys:Array Value}(D:ZipApart z TI TO i1 i2 l1 l2)(hz:fX s.heap z TI TO T)(hT:∃ o,s.heap.get? T=some o)(hTI:IsPair s.heap TI (.ref i1) (.ref i2))(h1:s.heap.IsListIter i1 l1 k)(h2:s.heap.IsListIter i2 l2 k)(hl1:s.heap.IsList l1 xs)(hl2:s.heap.IsList l2 ys){x y:Value}(hx:xs[k]?=some x)(hy:ys[k]?=some y)(hQ:∀ h',fX h' z TI TO T->h'.IsListIter i1 l1 (k+1)->h'.IsListIter i2 l2 (k+1)->IsPair h' s.heap.objs.size x y->(∀ c o,c≠z->c≠i1->c≠i2->s.heap.get? c=some o->h'.get? c=some o)->Q (.ref s.heap.objs.size) { s with heap:=h' }):
  wpAny (model prog w) A (Builtin.«zip.__next__» ⟨[.ref z],[]⟩) (λ fin s'=>∃ v,fin = .done (.ret v)/\Q v s') E s:=by
 obtain ⟨b,hz0⟩:=id hz;show wpAny _ _ (field (.ref z) 2 >>= _) _ _ _;refine ao (wpAny_field hz0 rfl (x:=.bool false) rfl ?_);show wpAny _ _ (field (.ref z) 3 >>= _) _ _ _;refine ao (wpAny_field hz0 rfl (x:=.ref TI) rfl ?_);refine ao (wpAny_seqItems hTI rfl ?_);show wpAny _ _ (Builtin.SmallTypes.ownedTupleIsFree (.ref z) >>= _) _ _ _;refine ao (vR hz hT λ h₁ hz₁ hs₁=>?_);simp only [Bool.false_eq_true,if_false];refine ao ?_;rw [List.forIn_toArray,List.forIn_cons];refine ao (ao (wpAny_holding ?_));show wpAny _ _ (Builtin.SmallTypes.nextOf (.ref i1) >>= _) _ _ _;refine ao (wpAny_nextOf_list_item (h1.extBut hs₁.extBut D.i1z) (hl1.extBut hs₁.extBut D.l1z) hx λ h₂ h1₂ hs₂=>aL (aL ?_));dsimp only;rw [List.forIn_cons];refine ao (ao (wpAny_holding ?_));show wpAny _ _ (Builtin.SmallTypes.nextOf (.ref i2) >>= _) _ _ _;refine ao (wpAny_nextOf_list_item ((h2.extBut hs₁.extBut D.i2z).extBut hs₂.extBut D.i12.symm) ((hl2.extBut hs₁.extBut D.l2z).extBut hs₂.extBut D.l2i1) hy λ h₃ h2₃ hs₃=>aL (aL ?_));dsimp only;rw [List.forIn_nil];refine aL (ao (wpAny_newTuple (hsz:=by show 2<=sizeLine;decide) (aL ⟨_,rfl,?_⟩)));have hsz:h₃.objs.size=s.heap.objs.size:=by rw [hs₃.1,hs₂.1,hs₁.1]
 show Q (.ref h₃.objs.size) _;obtain ⟨b1,hz₁⟩:=hz₁;have e:=hQ (h₃.push { cls:=.type "tuple", data:=.seq #[x,y] }) ⟨b1,bf _ (hs₃.extBut _ _ D.i2z.symm (hs₂.extBut _ _ D.i1z.symm hz₁))⟩
  ((h1₂.extBut hs₃.extBut D.i12).at λ o e=>bf _ e) (h2₃.at λ o e=>bf _ e) (by rw [← hsz];exact Heap.get?_push_size _ rfl) λ c o c1 c2 c3 q=>bf _ (hs₃.extBut _ _ c3 (hs₂.extBut _ _ c2 (hs₁.extBut _ _ c1 q)))
 rw [hsz];exact e
theorem zjr{TI TO T:Addr}{k:Nat}{xs:Array Value}{Q:Fin->Shared->Prop}(hh:A.handled=none)(D:ZipApart z TI TO i1 i2 l1 l2)(hz:fX s.heap z TI TO T)(hT:∃ o,s.heap.get? T=some o)(hTI:IsPair s.heap TI (.ref i1) (.ref i2))(h1:s.heap.IsListIter i1 l1 k)(hl1:s.heap.IsList l1 xs)(hx:xs[k]?=none)(hE:∀ h' e,(∀ c o,c≠z->c≠i1->s.heap.get? c=some o->h'.get? c=some o)->(∃ o,h'.get? e=some o/\o.cls = .type "StopIteration")->E (.ref e) { s with heap:=h' }):
  wpAny (model prog w) A (Builtin.«zip.__next__» ⟨[.ref z],[]⟩) Q E s:=by
 obtain ⟨b,hz0⟩:=id hz;show wpAny _ _ (field (.ref z) 2 >>= _) _ _ _;refine ao (wpAny_field hz0 rfl (x:=.bool false) rfl ?_);show wpAny _ _ (field (.ref z) 3 >>= _) _ _ _;refine ao (wpAny_field hz0 rfl (x:=.ref TI) rfl ?_);refine ao (wpAny_seqItems hTI rfl ?_);show wpAny _ _ (Builtin.SmallTypes.ownedTupleIsFree (.ref z) >>= _) _ _ _;refine ao (vR hz hT λ h₁ hz₁ hs₁=>?_);simp only [Bool.false_eq_true,if_false];refine ao ?_;rw [List.forIn_toArray,List.forIn_cons];refine ao (ao (wpAny_holding ?_));show wpAny _ _ (Builtin.SmallTypes.nextOf (.ref i1) >>= _) _ _ _;exact ao (wpAny_nextOf_list_end hh (h1.extBut hs₁.extBut D.i1z) (hl1.extBut hs₁.extBut D.l1z) hx λ h₂ e hs₂ he=>hE h₂ e (λ c o c1 c2 q=>hs₂ _ _ c2 (hs₁.extBut _ _ c1 q)) he)
theorem zju{TI TO T:Addr}{k:Nat}{xs ys:Array Value}{Q:Option Value->Shared->Prop}(D:ZipApart z TI TO i1 i2 l1 l2)(hz:fX s.heap z TI TO T)(hT:∃ o,s.heap.get? T=some o)(hTI:IsPair s.heap TI (.ref i1) (.ref i2))(h1:s.heap.IsListIter i1 l1 k)(h2:s.heap.IsListIter i2 l2 k)(hl1:s.heap.IsList l1 xs)(hl2:s.heap.IsList l2 ys){x y:Value}(hx:xs[k]?=some x)(hy:ys[k]?=some y)(hQ:∀ h',fX h' z TI TO T->h'.IsListIter i1 l1 (k+1)->h'.IsListIter i2 l2 (k+1)->IsPair h' s.heap.objs.size x y->(∀ c o,c≠z->c≠i1->c≠i2->s.heap.get? c=some o->h'.get? c=some o)->Q (some (.ref s.heap.objs.size)) { s with heap:=h' }):
  wpAny (model prog w) A (pyNext (.ref z)) Q E s:=by
 have hTy:s.TypeIs (.ref z) "zip" := let ⟨_,e⟩:=hz;⟨_,e,rfl⟩;unfold pyNext;exact ao (wpAny_attempt (wpAny_callSpecial?_slot (name:=Str.ofString "__next__") hTy F.slot_zip_next
  (wpAny_call_entry F.slot_zip_next hTy F.entry_zip_next (zjs D hz hT hTI h1 h2 hl1 hl2 hx hy λ h' a1 a2 a3 a4 a5=>aL (hQ h' a1 a2 a3 a4 a5)) (F.args_zip_next_1 _))))
theorem zjt{TI TO T:Addr}{k:Nat}{xs:Array Value}{Q:Option Value->Shared->Prop}(hh:A.handled=none)(D:ZipApart z TI TO i1 i2 l1 l2)(hz:fX s.heap z TI TO T)(hT:∃ o,s.heap.get? T=some o)(hTI:IsPair s.heap TI (.ref i1) (.ref i2))(h1:s.heap.IsListIter i1 l1 k)(hl1:s.heap.IsList l1 xs)(hx:xs[k]?=none)(hQ:∀ h',(∀ c o,c≠z->c≠i1->s.heap.get? c=some o->h'.get? c=some o)->Q none { s with heap:=h' }):wpAny (model prog w) A (pyNext (.ref z)) Q E s:=by
 have hTy:s.TypeIs (.ref z) "zip" := let ⟨_,e⟩:=hz;⟨_,e,rfl⟩;unfold pyNext;refine ao (wpAny_attempt (wpAny_callSpecial?_slot (name:=Str.ofString "__next__") hTy F.slot_zip_next
  (wpAny_call_entry F.slot_zip_next hTy F.entry_zip_next (zjr hh D hz hT hTI h1 hl1 hx λ h' e hk he=>?_) (F.args_zip_next_1 _))))
 obtain ⟨o,ho,hc⟩:=he;refine ao (wpAny_isInstance (T := "StopIteration") (b:=true) ⟨o,ho,hc⟩ isSubtype_stop ?_);exact aL (hQ _ hk)
theorem zfT(hh:A.handled=none)(z TI TO i1 i2 l1 l2 d:Addr)(D:ZipApart z TI TO i1 i2 l1 l2)(nd:∀ b∈[z,TI,TO,i1,i2,l1,l2],b≠d)(xs ys:Array Value)(hs:xs.size=ys.size)(kv:Nat->Value × Value)(hkv:∀ i < xs.size,xs[i]?=some (kv i).1/\ys[i]?=some (kv i).2):
  kr prog w A z d [z,TO,i1,i2] xs.size kv (λ i h=>d < h.objs.size/\IsPair h TI (.ref i1) (.ref i2)/\h.IsListIter i1 l1 i/\h.IsListIter i2 l2 i/\h.IsList l1 xs/\h.IsList l2 ys/\
   ((IsZip h z TI TO .none/\∃ a b,IsPair h TO a b)\/∃ T,T≠d/\T∉[z,TO,i1,i2]/\fX h z TI TO T/\∃ o,h.get? T=some o)) where
 nw:=λ hb=>by
  simp only [al_mc,List.not_mem_nil,or_false] at hb;rcases hb with e | e | e | e
  ·exact nd z (by simp) e.symm
  ·exact nd TO (by simp) e.symm
  ·exact nd i1 (by simp) e.symm
  ·exact nd i2 (by simp) e.symm
 frame:=λ i h h' st k sz=>by
  obtain ⟨s0,s1,s2,s3,s4,s5,s6⟩:=st;refine ⟨bU s0 sz,k TI _ (nd TI (by simp)) s1,s2.at λ o e=>k i1 o (nd i1 (by simp)) e,s3.at λ o e=>k i2 o (nd i2 (by simp)) e,s4.at λ o e=>k l1 o (nd l1 (by simp)) e,s5.at λ o e=>k l2 o (nd l2 (by simp)) e,?_⟩;rcases s6 with ⟨e1,a,b,e2⟩ | ⟨T,n1,n2,⟨b,e1⟩,o,e2⟩
  ·exact .inl ⟨k z _ (nd z (by simp)) e1,a,b,k TO _ (nd TO (by simp)) e2⟩
  ·exact .inr ⟨T,n1,n2,⟨b,k z _ (nd z (by simp)) e1⟩,o,k T o n1 e2⟩
 item:=λ i s Q E hi st hQ=>by
  obtain ⟨s0,s1,s2,s3,s4,s5,s6⟩:=st;obtain ⟨e1,e2⟩:=hkv i hi;have lt:∀ {c o},s.heap.get? c=some o->s.heap.objs.size≠c:=λ e=>Nat.ne_of_gt (aS e);have li1:s.heap.objs.size≠i1:=let ⟨_,e,_⟩:=s2;lt e;have li2:s.heap.objs.size≠i2:=let ⟨_,e,_⟩:=s3;lt e;rcases s6 with ⟨z1,a,b,z2⟩ | ⟨T,n1,n2,z1,o,z2⟩
  ·refine wpAny_pyNext_zip_item D z1 s1 z2 s2 s3 s4 s5 e1 e2 λ h' a1 a2 a3 a4 a5 a6 hk=>?_;refine hQ _ h' s.toks ⟨_,a5,rfl,_,rfl⟩ ⟨by rw [a6];exact Nat.lt_succ_of_lt s0,hk _ _ D.TIz D.TITO D.TIi1 D.TIi2 s1,a3,a4,s4.at λ o e=>hk _ o D.l1z D.l1TO D.l1i1 D.l1i2 e,s5.at λ o e=>hk _ o D.l2z D.l2TO D.l2i1 D.l2i2 e,.inr ⟨s.heap.objs.size,?_,?_,⟨false,a1⟩,_,a5⟩⟩
    λ c o hc e=>hk c o (λ x=>hc (by simp [x])) (λ x=>hc (by simp [x])) (λ x=>hc (by simp [x])) (λ x=>hc (by simp [x])) e
   ·exact Nat.ne_of_gt s0
   ·simp only [al_mc,List.not_mem_nil,or_false,not_or];exact ⟨lt z1,lt z2,li1,li2⟩
  ·have nz:T≠z/\T≠TO/\T≠i1/\T≠i2:=by simpa using n2
   refine zju D z1 ⟨o,z2⟩ s1 s2 s3 s4 s5 e1 e2 λ h' a1 a3 a4 a5 hk=>?_;exact hQ _ h' s.toks ⟨_,a5,rfl,_,rfl⟩ ⟨Nat.lt_trans s0 (aS a5),hk _ _ D.TIz D.TIi1 D.TIi2 s1,a3,a4,s4.at λ o e=>hk _ o D.l1z D.l1i1 D.l1i2 e,s5.at λ o e=>hk _ o D.l2z D.l2i1 D.l2i2 e,.inr ⟨T,n1,n2,a1,o,hk T o nz.1 nz.2.2.1 nz.2.2.2 z2⟩⟩
    λ c o hc e=>hk c o (λ x=>hc (by simp [x])) (λ x=>hc (by simp [x])) (λ x=>hc (by simp [x])) e
 done:=λ s Q E st hQ=>by
  obtain ⟨s0,s1,s2,s3,s4,s5,s6⟩:=st;have e1:xs[xs.size]?=none:=by simp
  rcases s6 with ⟨z1,a,b,z2⟩ | ⟨T,n1,n2,z1,o,z2⟩
  ·exact wpAny_pyNext_zip_end hh D z1 s1 z2 s2 s3 s4 s5 (.inl e1) λ h' hk=>hQ h' s.toks λ c o hc e=>hk c o (λ x=>hc (by simp [x])) (λ x=>hc (by simp [x])) (λ x=>hc (by simp [x])) (λ x=>hc (by simp [x])) e
  ·exact zjt hh D z1 ⟨o,z2⟩ s1 s2 s4 e1 λ h' hk=>hQ h' s.toks λ c o hc e=>hk c o (λ x=>hc (by simp [x])) (λ x=>hc (by simp [x])) e
theorem zaP:entryFor table "zip.__getattribute__" = some Builtin.«object.__getattribute__»:=
 entryFor_alias (id' := "object.__getattribute__") (by kernel_rfl) (by decide +kernel) (by decide +kernel) (by kernel_rfl)
theorem zc4(a:Addr)(fs:Array Value)(u:Tok):
  Meets (Builtin.«object.__getattribute__» ⟨[.ref a,.str "keys" u],[]⟩) (λ A R s=>s.heap.get? a=some { cls:=.type "zip", dict:=none,data:=.fields fs,slots:=#[] }/\raisesAttr (.ref a) "keys" A R s):=
 Meets.of_wp λ prog w A R s hs=>by
  obtain ⟨hp,g,d,tk,os⟩:=s;obtain ⟨hx,hs⟩:=hs;have hT:(⟨hp,g,d,tk,os⟩:Shared).TypeIs (.ref a) "zip" := ⟨_,hx,rfl⟩
  have hmiss:=zd2;unfold Builtin.«object.__getattribute__»
  repeat (any_goals (first | assumption | wp_step))
  exact wpAny_raiseAttrError hs.1 hs.2 (attrMsg_fits (by decide +kernel) (by decide))
theorem zd4{fs:Array Value}{Q:Option Value->Shared->Prop}(hx:s.heap.get? a=some { cls:=.type "zip", dict:=none,data:=.fields fs,slots:=#[] })(hA:A.handled=none)(h:∀ h' tk,(∀ b ob,s.heap.get? b=some ob->h'.get? b=some ob)->Q none { s with heap:=h',toks:=tk }):wpAny (model prog w) A (getAttr? (.ref a) "keys") Q E s:=by
 obtain ⟨hp,g,d,tk,os⟩:=s;have hT:∀ tk',(⟨hp,g,d,tk',os⟩:Shared).TypeIs (.ref a) "zip" := λ _=>⟨_,hx,rfl⟩
 have f1:=sub_AttributeError;have f3:=F.slot_zip_getattribute.lookup;have f4:=F.slot_zip_getattribute.bind (.ref a);have f5:=zdZ;unfold getAttr? getAttrBy? getAttrBy
 repeat (any_goals (first | assumption | exact hT _ | ((with_reducible show wpAny _ _ (call (Value.builtin "zip.__getattribute__") _ _) _ _ _);refine call_meets F.slot_zip_getattribute (hT _) zaP (F.args_zip_getattribute_2 _ _) (zc4 a fs _) ⟨hx,hA,λ h' tk' e hx'=>?_⟩) | wp_step))
 obtain ⟨t',u',he⟩:=hx'.there;show wpAny _ _ (getattributeRaised _ _ _ _ _ _ _) _ _ _;unfold getattributeRaised
 repeat (any_goals (first | assumption | wp_step))
 exact h _ _ hx'.keeps
theorem ne5{c a b:Nat}(la:a < n)(lb:b < n)(h:c=n+4\/c=n+2\/c=n+3\/c=n\/c=n+1\/c=a\/c=b):c≠n+5:=by omega
theorem nl4{c:Nat}(h:c=n+4\/c=n+3\/c=n\/c=n+1):¬ c < n:=by omega
inductive zix (K:W.Frag) (Q:VK) (vs:List V) (H1:Hp):Prop
 | i (l1 l2:Addr) (ks:List Key) (ys:List V) (_:vs=[.ref l1,.ref l2]) (_:SqL K H1 l1 (ks.map kV)) (_:SqL K H1 l2 ys) (_:ks.length=ys.length) (_:∀ d,H1 d=none->Q (.ref d) (upd H1 d (.dK (cP (ks.zip ys)))))
def ziw(K:W.Frag)(t:TA):TE:=λ σ H Q=>t σ H λ vs H1=>zix K Q vs H1
theorem zf0(K:W.Frag){a b:Expr}{ta:TA}{pos2:Pos}(hc:X.calm=true)(hgd:Gl X "dict")(hmd:X.mg "dict" = none)(hg:Gl X "zip")(hm:X.mg "zip" = none)(ha:PA X [a,b] ta)(hK:X.K=K:=by rfl)(hs:starEach [a,b] X.env=[(false,eval a X.env),(false,eval b X.env)]:=by rfl)(hs2:starEach [b] X.env=[(false,eval b X.env)]:=by rfl)(hs3:starEach [.Call (.Name "zip" p2) [a,b] [] pos2] X.env=[(false,eval (.Call (.Name "zip" p2) [a,b] [] pos2) X.env)]:=by rfl):
  PE X (.Call (.Name "dict" p) [.Call (.Name "zip" p2) [a,b] [] pos2] [] pos) (ziw K ta):=by
 subst hK;intro pins s σ H Q I h;refine Call_ (eJ I hgd hmd PyProof.Rows.Boot.«dict» (PyProof.Rows.callWith_type1 ?_ hs3 rfl));rw [hs3];refine Calls.spliced_cons ?_;refine Call_ (eJ I hg hm PyProof.Rows.Boot.«zip» (PyProof.Rows.callWith_type1 (thn (ha pos2 pins s σ H _ I h) λ us s1 ⟨vs,H1,I1,r1,q1⟩=>?_) (by rw [hs,hs2]) (by rw [hs2];rfl)));obtain ⟨a,b,ks,ys,e,qa,qb,hlen,q⟩:=q1;subst e;obtain ⟨u1,u2,rfl,ra1,ra2⟩:=ji r1;cases ra1;cases ra2;obtain ⟨ia,ra,pa,za⟩:=I1.list qa;obtain ⟨ib,rb,pb,zb⟩:=I1.list qb;have la:a < s1.heap.objs.size:=by obtain ⟨o,_,e,_⟩:=pa;exact aS e
 have lb:b < s1.heap.objs.size:=by obtain ⟨o,_,e,_⟩:=pb;exact aS e
 have lia:ia.length=ks.length:=by rw [← ra.length,ae]
 have lib:ib.length=ks.length:=by rw [← rb.length,hlen]
 refine call_zip_2 pa.isList pb.isList λ h' z1 z2 z3 z4 z5 hsz hk=>?_;refine Calls.spliced_nil ?_;let kv:Nat->Value × Value:=λ i=>(ia.getD i .none,ib.getD i .none)
 let kk:Nat->Key:=λ i=>ks.getD i (.inl none);have at_:∀ i,i < ks.length->∃ k y,ks[i]?=some k/\ys[i]?=some y/\kk i=k/\ia[i]?=some (kv i).1/\ib[i]?=some (kv i).2/\RelV (kV k) (kv i).1/\RelV y (kv i).2:=λ i hi=>by
  have hy:i < ys.length:=by omega
  obtain ⟨u,hu,ru⟩:=ra.get (i:=i) (x:=kV ks[i]) (by rw [aH,aG hi];rfl);obtain ⟨u2,hu2,ru2⟩:=rb.get (i:=i) (x:=ys[i]) (aG hy);have e1:(kv i).1=u:=by show ia.getD i .none=u;rw [List.getD_eq_getElem?_getD,hu];rfl
  have e2:(kv i).2=u2:=by show ib.getD i .none=u2;rw [List.getD_eq_getElem?_getD,hu2];rfl
  refine ⟨ks[i],ys[i],aG hi,aG hy,?_,by rw [e1];exact hu,by rw [e2];exact hu2,by rw [e1];exact ru,by rw [e2];exact ru2⟩;show ks.getD i _=_;rw [List.getD_eq_getElem?_getD,aG hi];rfl
 have bk:=λ i hi=>ng (ps:=ks.zip ys) (kv:=kv) (kk:=kk) (λ j p ep=>by
  have hj:j < ks.length:=by have:=(al_gs.mp ep).1;rw [List.length_zip] at this;omega
  obtain ⟨k,y,e1,e2,e3,_,_,_,r⟩:=at_ j hj;have:p=(k,y):=by
   rw [List.getElem?_zip_eq_some] at ep;rw [e1,e2] at ep;exact Prod.ext (bL ep.1).symm (bL ep.2).symm
  rw [this];exact ⟨e3,r⟩) i hi
 have lz:(ks.zip ys).length=ks.length:=by rw [List.length_zip];omega
 have hps:ks.length<=sizeLine:=by rw [ae] at za;exact za
 have hh:=I1.ok.hd hc;have esz:ia.toArray.size=ks.length:=by rw [aT,lia]
 refine ub (kn:=cO X.prog X.w) (n:=ia.toArray.size) (kv:=kv) (kk:=kk) (ok:=λ b=>b < s1.heap.objs.size) (T := "zip") ⟨_,z1,rfl⟩ (by decide) (λ s' E' Q' k hq=>zd4 (k _ _ z1) (by simp [hh]) hq) (λ s' E' Q' k lt hq=>?_) (λ i hi=>?_) (λ i hi=>?_) λ h3 tk hd k=>?_
 ·refine wpAny_pyIter_zip (k _ _ z1) ?_;refine hq _ s'.heap _ _ (zfT (by simp [hh]) (s1.heap.objs.size+4) (s1.heap.objs.size+2) (s1.heap.objs.size+3) s1.heap.objs.size (s1.heap.objs.size+1) a b _ (zipApart_new la lb) (λ c hc=>?_) ia.toArray ib.toArray (by simp;omega) kv λ i hi=>?_)
   ⟨lt,k _ _ z2,z4.at λ o e=>k _ _ e,z5.at λ o e=>k _ _ e,pa.isList.at λ o e=>k _ _ (hk _ _ e),pb.isList.at λ o e=>k _ _ (hk _ _ e),.inl ⟨k _ _ z1,_,_,k _ _ z3⟩⟩ (λ b o e=>e) λ c hc=>?_
  ·have e:({ s1 with heap:=h' }:Shared).heap.objs.size=s1.heap.objs.size+5:=hsz;rw [e];simp only [al_mc,List.not_mem_nil,or_false] at hc;exact ne5 la lb hc
  ·obtain ⟨_,_,_,_,_,e1,e2,_⟩:=at_ i (by rw [← esz];exact hi);exact ⟨by simpa using e1,by simpa using e2⟩
  ·simp only [al_mc,List.not_mem_nil,or_false] at hc;refine .inl ?_;show ¬ c < s1.heap.objs.size;exact nl4 hc
 ·obtain ⟨_,_,_,_,e3,_,_,r1,_⟩:=at_ i (by rw [← esz];exact hi);rw [e3];exact hG r1
 ·have hi':i<=(ks.zip ys).length:=by rw [lz,← esz];exact hi
  rw [← (bk i hi').length];refine Nat.le_trans (jS _) ?_;rw [bc];omega
 ·rw [esz,← lz] at hd;have b1:=bk _ (az _);rw [aZ] at b1;have hd0:s1.heap.objs.size<=({ s1 with heap:=h' }:Shared).heap.objs.size:=by show _<=h'.objs.size;omega
  refine ⟨.ref _,_,I1.laid (o:=.dK (cP (ks.zip ys))) (λ b o e=>k b o (aS e) (hk _ _ e)) hd0 (jw (Nat.le_trans (jS _) (by rw [lz];exact hps)) ?_ b1 hd),rfl,q _ (I1.hok.fresh hd0)⟩;have:=I1.big;simp;exact Nat.ne_of_gt (bU this hd0)
def Ite(K:W.Frag)(a:Addr):It:=
 ⟨λ i H=>∃ xs x,SqL K H a xs/\xs[i]?=some x,λ i H v H'=>∃ T,H T=none/\v = .ref T/\∀ xs,SqL K H a xs->∃ x,xs[i]?=some x/\H'=upd H T (.tup [.int i,x]),λ i H=>∃ xs,SqL K H a xs/\xs.length<=i⟩
theorem zi8{k:Nat}(a e it:Addr)(n1:e≠it)(n2:a≠e)(n3:a≠it):
  gp P w K (.Tuple elts k pos) (Ite K a) [e,it] e (λ i h=>(∃ old,IsEnum h e it i old)/\h.IsListIter it a i) where
 mem:=by simp
 obj:=λ i h st c hc=>by
  obtain ⟨⟨old,h1⟩,o2,e2,c2,d2⟩:=st;simp only [al_mc,List.not_mem_nil,or_false] at hc;rcases hc with rfl | rfl
  ·exact ⟨_,h1,λ v z=>by cases z⟩
  ·exact ⟨o2,e2,λ v z=>by rw [d2] at z;cases z⟩
 keep:=λ i h h' st kk=>by
  obtain ⟨⟨old,h1⟩,h2⟩:=st;exact ⟨⟨old,kk e (by simp) _ h1⟩,h2.at λ o x=>kk it (by simp) o x⟩
 item:=by
  intro X hP hw hK hc i pins s σ H E I hf st hg;subst hP hw hK;obtain ⟨xs,x,hqa,hx⟩:=hg;obtain ⟨ia,ra,pa,_⟩:=I.list hqa;obtain ⟨ux,hux,rux⟩:=ra.get hx;have hia:i < ia.length:=(al_gs.mp hux).1;have W:=WalksT.enumerate (prog:=X.prog) (w:=X.w) (I.ok.hd hc) e it a n1 n2 n3 ia.toArray;obtain ⟨⟨old,h1⟩,h2⟩:=id st;refine W.item i s _ _ (by rw [aT];exact hia) ⟨⟨old,h1⟩,h2,pa.isList⟩ λ T vals h' tk hP hT hTup hM hk=>?_;refine ⟨.ref T,rfl,W.go elts k pos i T { s with heap:=h',toks:=tk } _ _ hM λ h'' st' hk'=>?_⟩;obtain ⟨tt,x',ex,rfl⟩:=hP;have ex':ux=x':=by
   have:ia[i]?=some x':=by simpa using ex
   rw [hux] at this;exact bL this
  subst ex';have sub:∀ c∈[e,it],c∈[e,it]:=λ _ z=>z;have I1:Inv X pins σ H { s with heap:=h'',toks:=tk }:=I.turnedL (ch:=[e,it]) (λ c o hc' q=>hk' c o hc' (hk c o hc' q)) hf;have hTn:H T=none:=I.hok.fresh hT;have hTup2:IsTup h'' T #[.int i tt,ux]:=hTup.at λ o q=>hk' T o (W.apart i T _ hM) q;have ltT:∀ {c:Addr} {o:Obj},s.heap.get? c=some o->c≠T:=λ q=>be (bU (aS q) hT);have I2:Inv X pins σ (upd H T (.tup [.int i,x])) { s with heap:=h'',toks:=tk }:=by
   refine I1.track hTn ?_ (λ q=>?_) (λ n c q z=>?_) (λ p hp q=>?_) ?_
   ·cases q:X.s₀.heap.get? T with
    | none=>rfl
    | some o=>exact absurd (bU (aS q) (Nat.le_trans I.sz hT)) (Nat.lt_irrefl _)
   ·exact absurd (bU I.lt hT) (by rw [q];exact Nat.lt_irrefl _)
   ·obtain ⟨v,o,ho,_⟩:=I.cell n c q;exact ltT ho z
   ·exact ltT (I.pin p hp).1 q
   ·exact ⟨by show 2<=sizeLine;decide,[.int i tt,ux],.cons ⟨tt,rfl⟩ (.cons rux .nil),hTup2⟩
  refine ⟨.ref T,_,I2,rfl,⟨T,hTn,rfl,λ xs' qa=>?_⟩,⟨st'.1,st'.2.1⟩,λ c hc'=>?_⟩
  ·rw [I.list_inj qa hqa];exact ⟨x,hx,rfl⟩
  ·have:c≠T:=by
    simp only [al_mc,List.not_mem_nil,or_false] at hc';obtain ⟨o2,e2,_⟩:=h2;rcases hc' with rfl | rfl
    ·exact ltT h1
    ·exact ltT e2
   rw [aj this];exact (hf c hc').1
 done:=by
  intro X hP hw hK hc i pins s σ H E I hf st hg;subst hP hw hK;obtain ⟨xs,hqa,hl⟩:=hg;obtain ⟨ia,ra,pa,_⟩:=I.list hqa;obtain ⟨⟨old,h1⟩,h2⟩:=id st;have l1:=ra.length;refine wpAny_pyNext_enum_end (I.ok.hd hc) h1 h2 pa.isList (by simp;omega) λ h' hk=>⟨rfl,I.turnedL (t':=s.toks) (ch:=[e,it]) (λ c o hc' q=>hk c o (λ z=>hc' (by simp [z])) q) hf⟩
 self:=λ _ _ _ _ _ st h=>let ⟨⟨_,q⟩,_⟩:=st;wpAny_pyIter_enum q h
inductive zbo (K:W.Frag) (R:It->Hp->Prop) (vs:List V) (H1:Hp):Prop
 | i (a xs:_) (_:vs=[.ref a]) (_:SqL K H1 a xs) (_:R (Ite K a) H1)
def zbn(K:W.Frag)(ta:TA):TI:=λ σ H R=>ta σ H λ vs H1=>zbo K R vs H1
theorem zf7(K:W.Frag){k:Nat}{a:Expr}{ta:TA}(hg:Gl X "enumerate")(hm:X.mg "enumerate" = none)(ha:PA X [a] ta)(hK:X.K=K:=by rfl)(hs:starEach [a] X.env=[(false,eval a X.env)]:=by rfl):
  PI X (.Tuple elts k tpos) (.Call (.Name "enumerate" p) [a] [] pos) (zbn K ta):=by
 subst hK;intro pins s σ H R I h;refine Call_ (eJ I hg hm PyProof.Rows.Boot.«enumerate» (PyProof.Rows.callWith_type1 (thn (ha pos pins s σ H _ I h) λ us s1 ⟨vs,H1,I1,r1,q1⟩=>?_) hs rfl));obtain ⟨a,xs,e,qa,q⟩:=q1;subst e;obtain ⟨u,rfl,ru⟩:=dk r1;cases ru;obtain ⟨ia,ra,pa,_⟩:=I1.list qa;have la:a < s1.heap.objs.size:=by obtain ⟨o,_,e,_⟩:=pa;exact aS e
 refine call_enumerate_list pa.isList λ h' z1 z2 hsz hk=>?_;refine wpAny_pyIter_enum z1 ?_;refine ⟨s1.heap.objs.size+1,[s1.heap.objs.size+1,s1.heap.objs.size],_,_,H1,rfl,I1.kept (t':=s1.toks) hk,zi8 a _ _ (Nat.ne_of_gt (Nat.lt_succ_self _)) (be (Nat.lt_succ_of_lt la)) (be la),⟨⟨_,z1⟩,z2⟩,λ c hc=>?_,q⟩;have:s1.heap.objs.size<=c:=by
  simp only [al_mc,List.not_mem_nil,or_false] at hc;rcases hc with rfl | rfl
  ·exact Nat.le_succ _
  ·exact az _
 exact I1.fpOk this (I1.hok.fresh this)
theorem ut{l:Addr}{body:Expr}{H0:Hp}(_:H0 l=some (FrO (W.kla_obj "<lambda>" qual ar body sc [(y,c)] pm c' ctv) l))(x:Str)(k:Nat)(sb:V->V->Hp->VK->XK->Prop)(S:LamSc sc x y)(R:kx CX)(hbody:∀ (A:Around) (outer:List Env) (s:Shared) (H:Hp) (v z:V) (Q:VK) (E:XK),Room k (A.deeper (gv qual sc s.heap.objs.size l (.ref c') y c))->sb v z H Q E->
   ∃ t,PE (gY CX P w K mg base x y qual sc l (.ref c') c A outer s H E) body t/\t [some v,some z] H Q)(hb:∀ us:List Value,us.length=[x].length->bindArgs (W.kla_fn "<lambda>" qual ar body sc [(y,c)] pm (.ref c') ctv) ⟨us,[]⟩=pure ([x].zip us)):
  FnOk P w K mg base CX (k+1) l (W.kla_fn "<lambda>" qual ar body sc [(y,c)] pm (.ref c') ctv) [x] (wR qual ar body sc l y c pm c' ctv sb)/\Binds K (W.kla_fn "<lambda>" qual ar body sc [(y,c)] pm (.ref c') ctv) [x] []:=
 ⟨zaY S R hbody,Binds.all hb⟩
section
variable {k:Nat} {f:Addr} {kV dc:Value}
def Bs(P:Program)(w:World)(base:Heap):Prop:=True
def FB(K:W.Frag)(x qual:Str)(st:Stmt)(ps:List Str)(f:Addr):Prop:=∃ fd,Fun K x qual st f fd/\Binds K fd ps []
def DD(K:W.Frag)(mg:Str->Option Value)(x:Str)(st:Stmt)(ps:List Str):Prop:=∃ f,mg x=some (.ref f)/\FB K x x st ps f
def MM(K:W.Frag)(C:Addr)(x qual:Str)(st:Stmt)(ps:List Str):Prop:=∃ f,iH K C x f/\FB K x qual st ps f
def II(K:W.Frag)(C:Addr)(qual:Str)(st:Stmt)(ps:List Str):Prop:=∃ f,Mk K C f/\FB K "__init__" qual st ps f
theorem zaU(l:K.lookup f=some ⟨oc,od,.func (W.fnOf x qual (dr st) (cS st) (av st) .none kV dc pm an cd ct),sl⟩)(c:W.codeIn K cd qual=true)(k:W.keepIn K (.ref f)=true)(h:∀ (kV doc pm:Value) (an:Option Addr) (cdv ct:Value) (us:List Value),us.length=ps.length->bindArgs (W.fnOf x qual (dr st) (cS st) (av st) .none kV doc pm an cdv ct) ⟨us,[]⟩=pure (ps.zip us)):FB K x qual st ps f:=
 ⟨_,kU l c k,(kU l c k).binds h⟩
theorem uZ{p:List Value->Prop}(h:p []):∀ us:List Value,us.length=0->p us
 | [],_=>h
theorem uC{p:List Value->Prop}(h:∀ a us,us.length=n->p (a::us)):∀ us:List Value,us.length=n+1->p us
 | a::us,e=>h a us (Nat.succ.inj e)
def bA(x qual:Str)(st:Stmt)(ps:List Str)(us:List Value):Prop:=∀ (kV doc pm:Value) (an:Option Addr) (cdv ct:Value),bindArgs (W.fnOf x qual (dr st) (cS st) (av st) .none kV doc pm an cdv ct) ⟨us,[]⟩=pure (ps.zip us)
theorem fbU(l:K.lookup f=some ⟨oc,od,.func (W.fnOf x qual (dr st) (cS st) (av st) .none kV dc pm an cd ct),sl⟩)(c:W.codeIn K cd qual=true)(k:W.keepIn K (.ref f)=true)(h:∀ us:List Value,us.length=ps.length->bA x qual st ps us):FB K x qual st ps f:=
 zaU l c k λ kV doc pm an cdv ct us e=>h us e kV doc pm an cdv ct
theorem fb0(l:K.lookup f=some ⟨oc,od,.func (W.fnOf x qual (dr st) (cS st) (av st) .none kV dc pm an cd ct),sl⟩)(c:W.codeIn K cd qual=true)(k:W.keepIn K (.ref f)=true)(h:bA x qual st [] []):FB K x qual st [] f:=
 fbU l c k (uZ (p:=λ t=>bA x qual st [] (t)) (h))
theorem fb1(l:K.lookup f=some ⟨oc,od,.func (W.fnOf x qual (dr st) (cS st) (av st) .none kV dc pm an cd ct),sl⟩)(c:W.codeIn K cd qual=true)(k:W.keepIn K (.ref f)=true)(h:∀ u0,bA x qual st [p0] [u0]):FB K x qual st [p0] f:=
 fbU l c k (uC (p:=λ t=>bA x qual st [p0] (t)) λ u0=>uZ (p:=λ t=>bA x qual st [p0] (u0::t)) (h u0))
theorem fb2(l:K.lookup f=some ⟨oc,od,.func (W.fnOf x qual (dr st) (cS st) (av st) .none kV dc pm an cd ct),sl⟩)(c:W.codeIn K cd qual=true)(k:W.keepIn K (.ref f)=true)(h:∀ u0 u1,bA x qual st [p0,p1] [u0,u1]):FB K x qual st [p0,p1] f:=
 fbU l c k (uC (p:=λ t=>bA x qual st [p0,p1] (t)) λ u0=>uC (p:=λ t=>bA x qual st [p0,p1] (u0::t)) λ u1=>uZ (p:=λ t=>bA x qual st [p0,p1] (u0::u1::t)) (h u0 u1))
theorem fb3{p2:Str}(l:K.lookup f=some ⟨oc,od,.func (W.fnOf x qual (dr st) (cS st) (av st) .none kV dc pm an cd ct),sl⟩)(c:W.codeIn K cd qual=true)(k:W.keepIn K (.ref f)=true)(h:∀ u0 u1 u2,bA x qual st [p0,p1,p2] [u0,u1,u2]):FB K x qual st [p0,p1,p2] f:=
 fbU l c k (uC (p:=λ t=>bA x qual st [p0,p1,p2] (t)) λ u0=>uC (p:=λ t=>bA x qual st [p0,p1,p2] (u0::t)) λ u1=>uC (p:=λ t=>bA x qual st [p0,p1,p2] (u0::u1::t)) λ u2=>uZ (p:=λ t=>bA x qual st [p0,p1,p2] (u0::u1::u2::t)) (h u0 u1 u2))
theorem fb4{p2 p3:Str}(l:K.lookup f=some ⟨oc,od,.func (W.fnOf x qual (dr st) (cS st) (av st) .none kV dc pm an cd ct),sl⟩)(c:W.codeIn K cd qual=true)(k:W.keepIn K (.ref f)=true)(h:∀ u0 u1 u2 u3,bA x qual st [p0,p1,p2,p3] [u0,u1,u2,u3]):FB K x qual st [p0,p1,p2,p3] f:=
 fbU l c k (uC (p:=λ t=>bA x qual st [p0,p1,p2,p3] (t)) λ u0=>uC (p:=λ t=>bA x qual st [p0,p1,p2,p3] (u0::t)) λ u1=>uC (p:=λ t=>bA x qual st [p0,p1,p2,p3] (u0::u1::t)) λ u2=>uC (p:=λ t=>bA x qual st [p0,p1,p2,p3] (u0::u1::u2::t)) λ u3=>uZ (p:=λ t=>bA x qual st [p0,p1,p2,p3] (u0::u1::u2::u3::t)) (h u0 u1 u2 u3))
theorem fb5{p2 p3 p4:Str}(l:K.lookup f=some ⟨oc,od,.func (W.fnOf x qual (dr st) (cS st) (av st) .none kV dc pm an cd ct),sl⟩)(c:W.codeIn K cd qual=true)(k:W.keepIn K (.ref f)=true)(h:∀ u0 u1 u2 u3 u4,bA x qual st [p0,p1,p2,p3,p4] [u0,u1,u2,u3,u4]):FB K x qual st [p0,p1,p2,p3,p4] f:=
 fbU l c k (uC (p:=λ t=>bA x qual st [p0,p1,p2,p3,p4] (t)) λ u0=>uC (p:=λ t=>bA x qual st [p0,p1,p2,p3,p4] (u0::t)) λ u1=>uC (p:=λ t=>bA x qual st [p0,p1,p2,p3,p4] (u0::u1::t)) λ u2=>uC (p:=λ t=>bA x qual st [p0,p1,p2,p3,p4] (u0::u1::u2::t)) λ u3=>uC (p:=λ t=>bA x qual st [p0,p1,p2,p3,p4] (u0::u1::u2::u3::t)) λ u4=>uZ (p:=λ t=>bA x qual st [p0,p1,p2,p3,p4] (u0::u1::u2::u3::u4::t)) (h u0 u1 u2 u3 u4))
theorem DD.cal(D:DD K mg x st ps)(b:Bs P w base)(h:∀ f fd,Fun K x x st f fd->FnOk P w K mg base CX k f fd ps sp):Cal P w K mg base CX k x ps sp:=
 let ⟨f,m,fd,F,b⟩:=D;⟨f,fd,h f fd F,m,F.kp,b⟩
theorem MM.cal(D:MM K C x qual st ps)(b:Bs P w base)(h:∀ f fd,Fun K x qual st f fd->FnOk P w K mg base CX k f fd ps sp):bF P w K mg base CX k C x ps sp:=
 let ⟨f,m,fd,F,b⟩:=D;⟨f,fd,h f fd F,m,b⟩
theorem II.cal(D:II K C qual st ps)(b:Bs P w base)(h:∀ f fd,Fun K "__init__" qual st f fd->FnOk P w K mg base CX k f fd ps sp):jl P w K mg base CX k C ps sp:=
 let ⟨f,m,fd,F,b⟩:=D;⟨f,fd,h f fd F,m,b⟩
theorem DD.rec(D:DD K mg x st ps)(b:Bs P w base){sp:Nat->Sp}(h0:∀ vs H Q E,¬ sp 0 vs H Q E)(h:∀ m f fd,Cal P w K mg base CX (k+m) x ps (sp m)->Fun K x x st f fd->FnOk P w K mg base CX (k+m+1) f fd ps (sp (m+1))):∀ m,Cal P w K mg base CX (k+m) x ps (sp m)
 | 0=>D.cal b λ f fd F=>⟨λ vs H Q E z=>(h0 vs H Q E z).elim,λ A o s H a us vs Q E _ _ _ _ z=>(h0 vs H Q E z).elim⟩
 | m+1=>D.cal b λ f fd F=>h m f fd (DD.rec D b h0 h m) F
end
theorem cut_take(xs:List V)(n:Nat):cH xs none (some (n:Int))=xs.take n:=by
 unfold cH;rw [HT.sIx_none,HT.sIx_nat,List.drop_zero,Nat.sub_zero];rcases Nat.le_total n xs.length with h | h
 ·rw [Nat.min_eq_left h]
 ·rw [Nat.min_eq_right h,List.take_of_length_le (az _),List.take_of_length_le h]
theorem cut_drop(xs:List V){b:Nat}(h:b<=xs.length):cH xs (some (b:Int)) none=xs.drop b:=by
 unfold cH;rw [HT.sIx_none,HT.sIx_nat,Nat.min_eq_left h,List.take_of_length_le (by simp)]
theorem PI.alt{wa wb:TI}(ha:PI X tg e wa)(hb:PI X tg e wb):PI X tg e (λ σ H R=>wa σ H R\/wb σ H R):=λ pins s σ H R I h=>h.elim (ha pins s σ H R I) (hb pins s σ H R I)
theorem ba{t u:TS}(h:∀ N:St->Hp->Prop,(∀ σ' H',u D σ' H'->N σ' H')->t { D with nx:=N } σ H):cU t u D σ H:=h _ λ _ _ x=>x
section
variable {xs:List Stmt} {t u:TS}
end
section
variable (K:W.Frag)
theorem zfI(h:X.K=K:=by rfl):OpR X (binaryOp .Add) (wo K):=h ▸ zfH
inductive zgP (xs:List V) (H:Hp) (Q:VK):Prop
 | i (p ys:_) (_:xs=[.ref p]) (_:((SqL K H p ys/\∀ l,H l=none->Q (.ref l) (upd H l (.tup ys)))\/(SqT K H p ys/\Q (.ref p) H)))
theorem zaw(h:X.K=K:=by rfl):CallR X (.type "tuple") (zgP K):=by subst h;exact call_tuple_of.ex λ _ _ _ ⟨a,b,c,d⟩=>⟨a,b,c,d⟩
end
structure PPn (X:Cx) (pos:Pos) (keys:List (Option Expr)) (values:List Expr) (trs:List (TE × TE)) (n:Nat):Prop where
 h:PPs X pos keys values trs
 all:keys.all (·.isSome)=true
 lk:keys.length=n
 lv:values.length=n
theorem zgd   : PPn X pos [] [] [] 0:=⟨zgf,rfl,rfl,rfl⟩
theorem oM{k v:Expr}{vs:List Expr}{tk:TE}(hk:PE X k tk)(hv:PE X v tv)(hr:PPn X pos ks vs trs n):PPn X pos (some k::ks) (v::vs) ((tk,tv)::trs) (n+1):=
 ⟨zge hk hv hr.h,by rw [List.all_cons,hr.all];rfl,congrArg (· + 1) hr.lk,congrArg (· + 1) hr.lv⟩
theorem zf2{keys:List (Option Expr)}(h:PPn X pos keys values trs (n+1))(h15:n+1<=15):PE X (.Dict keys values pos) (rQ trs):=
 zf1 h.h h.all (h.lk.trans h.lv.symm) (λ e=>by have:=h.lk;rw [e] at this;cases this) (by rw [h.lk];exact h15)
section
variable {k:Nat} {f T:Addr} {kV dc:Value}
def FC(K:W.Frag)(x:Str)(st:Stmt)(ps:List Str)(f c T:Addr):Prop:=W.keepIn K (.ref f)=true/\∃ fd,FunC K x x st f fd c T/\Binds K fd ps []
def DC(K:W.Frag)(mg:Str->Option Value)(x:Str)(st:Stmt)(ps:List Str)(c T:Addr):Prop:=∃ f,mg x=some (.ref f)/\FC K x st ps f c T
theorem DC.cal(D:DC K mg x st ps c T)(b:Bs P w base)(h:∀ f fd,FunC K x x st f fd c T->FnOk P w K mg base CX k f fd ps sp):Cal P w K mg base CX k x ps sp:=
 let ⟨f,m,kp,fd,F,b⟩:=D;⟨f,fd,h f fd F,m,kp,b⟩
theorem DC.hd(D:DC K mg x st ps c T):W.codeHdIn K c T=true:=let ⟨_,_,_,_,F,_⟩:=D;F.hd
theorem fc2(l:K.lookup f=some ⟨oc,od,.func (W.fnOf x x (dr st) (cS st) (av st) .none kV dc pm an (.ref c) ct),sl⟩)(cd:W.codeIn K (.ref c) x=true)(hd:W.codeHdIn K c T=true)(k:W.keepIn K (.ref f)=true)(h:∀ u0 u1,bA x x st [p0,p1] [u0,u1]):FC K x st [p0,p1] f c T:=
 ⟨k,_,⟨⟨oc,od,kV,dc,pm,an,ct,sl,rfl,l,cd⟩,hd⟩,(kU l cd k).binds λ kV doc pm an cdv ct us e=>uC (p:=λ t=>bA x x st [p0,p1] t) (λ u0=>uC (p:=λ t=>bA x x st [p0,p1] (u0::t)) λ u1=>uZ (p:=λ t=>bA x x st [p0,p1] (u0::u1::t)) (h u0 u1)) us e kV doc pm an cdv ct⟩
end
inductive zgJ (K:W.Frag) (x:V) (y:V) (H:Hp) (Q:VK):Prop
 | i (p q:Addr) (xs ys:List V) (_:x = .ref p) (_:y = .ref q) (_:SqT K H p xs) (_:SqT K H q ys) (_:xs.length=ys.length) (_:(∀ (j:Nat) (a b:V),xs[j]?=some a->ys[j]?=some b->Eqd K H 50 a b)) (_:Q (.bl false) H)
theorem zfN(K:W.Frag)(hu:X.A.units+64 < cLine)(hK:X.K=K:=by rfl):OpR X (compareOp .NotEq) (zgJ K):=by
 subst hK;intro pins s σ H x y v u Q I rx ry h;obtain ⟨p,q,xs,ys,rfl,rfl,hp,hq,hl,hj,k⟩:=h;cases rx;cases ry;obtain ⟨its,r,pl,_⟩:=I.tuple hp;obtain ⟨its2,r2,pl2,_⟩:=I.tuple hq;have l1:=r.length;have l2:=r2.length;show wpAny (model X.prog X.w) X.A (richCompare .NotEq (.ref p) (.ref q)) _ _ s;refine SeqAt.RcNeAt.tuples (e:=λ _=>true) pl pl2 (by omega) (λ j h1 h2=>?_) X.prog X.w _ _ ?_
 ·obtain ⟨a,ha,ra⟩:=gM r h1;obtain ⟨b,hb,rb⟩:=gM r2 h2;exact ui I (hj j a b ha hb) ra rb (by show X.A.units+1+50 < cLine;omega)
 ·have e2:(its.toArray.size == its2.toArray.size)=true:=by rw [aT,aT];simp;omega
  rw [kD,e2];exact ⟨.bl false,H,I,rfl,k⟩
end L2
set_option maxHeartbeats 8000000
namespace T1
open PySem L2
local macro_rules | `(tactic| walk_at "sc")=>`(tactic| exact ⟨rfl,rfl,rfl,by decide +kernel,rfl,by decide +kernel,by decide +kernel⟩)
variable {b e i j k n:Nat} {C a a' c d dx f g l p r:Addr} {M m:Int} {P:Program} {w:World} {K:W.Frag} {mg:Str->Option Value} {base:Heap} {fd:FuncData} {H H' H1 H2 H4:Hp} {Q:VK} {q x:Str} {ns:List Int} {α:Type} {as bs:List Addr} {zs:List V} {o:HO} {es:Array DictEntry} {A B L X:List Nat} {E:XK} {sp:Sp} {σ:St} {pos:Pos} {te:TE} {ksl:Array (Option Value)}
abbrev OI:=Option Int
variable {each xs:List OI} {v:OI}
def aK(n:Nat):Nat:=if h:n=0 then 0 else aK (n / 2)+1
termination_by n
decreasing_by omega
theorem oz:aK 0=0:=by rw [aK];simp
theorem vF(h:0 < n):aK n=aK (n / 2)+1:=by
 rw [aK,dif_neg (by omega)]
def bw(d:Int):Int:=if 0<=d then 2 * d else -2 * d - 1
theorem nG(d:Int):0<=bw d:=by unfold bw;split <;> omega
structure Ty where
 length:Nat
 last:OI
 runs:Nat
 book:List OI
 none:Bool
 least:OI
 greatest:OI
 widest:Int
variable {y:Ty}
def gg(m:OI)(i:Int):Int:=match m with | .none=>i | .some k=>if i < k then i else k
def eB(m:OI)(i:Int):Int:=match m with | .none=>i | .some k=>if k < i then i else k
def Ty.add(t:Ty)(v:OI):Ty where
 length:=t.length+1
 last:=v
 runs:=if t.length=0\/v≠t.last then t.runs+1 else t.runs
 book:=if v∈t.book then t.book else t.book++[v]
 none:=if v = .none then true else t.none
 least:=match v with | .none=>t.least | .some i=>some (gg t.least i)
 greatest:=match v with | .none=>t.greatest | .some i=>some (eB t.greatest i)
 widest:=match v with
  | .none=>t.widest
  | .some i=>if 0 < t.length/\t.none=false then (if bw (i - t.last.getD 0) > t.widest then bw (i - t.last.getD 0) else t.widest) else t.widest
def Ty.zero:Ty:=⟨0,.none,0,[],false,.none,.none,0⟩
def aq(xs:List OI):Ty:=xs.foldl Ty.add Ty.zero
theorem gL:aq []=Ty.zero:=rfl
theorem ya(xs:List OI)(v:OI):aq (xs++[v])=(aq xs).add v:=by
 unfold aq;rw [List.foldl_append];rfl
def at'(xs:List OI)(k:Nat):OI:=xs.getD k .none
theorem at'_of(h:xs[k]?=some v):at' xs k=v:=by
 unfold at';simp [List.getD,h]
theorem cB(h:n < xs.length):xs.take (n+1)=xs.take n++[at' xs n]:=by
 rw [cL,aG h,at'_of (aG h)];rfl
theorem fC(h:n < xs.length):aq (xs.take (n+1))=(aq (xs.take n)).add (at' xs n):=by
 rw [cB h,ya]
theorem lZ(xs:List OI):(aq xs).length=xs.length:=by
 have key:∀ (n:Nat),n<=xs.length->(aq (xs.take n)).length=n:=by
  intro n;induction n with
  | zero=>intro _;simp [gL,Ty.zero]
  | succ n ih=>intro h;rw [fC h];show (aq (xs.take n)).length+1=_;rw [ih (by omega)]
 have:=key xs.length (az _)
 rwa [aZ] at this
theorem yb(h:n<=xs.length):(aq (xs.take n)).length=n:=by
 rw [lZ,bc];omega
theorem rY(h:n < xs.length):(aq (xs.take (n+1))).last=at' xs n:=by
 rw [fC h];rfl
def dif(xs:List OI):Nat->Nat
 | 0=>0
 | n+1=>dif xs n+(if 1<=n/\at' xs n≠at' xs (n - 1) then 1 else 0)
theorem ziY  : ∀ {n:Nat},n<=xs.length->(aq (xs.take n)).runs=if n=0 then 0 else 1+dif xs n:=by
 intro n;induction n with
 | zero=>intro _;simp [gL,Ty.zero]
 | succ n ih=>
  intro h;rw [fC h];show (if (aq (xs.take n)).length=0\/at' xs n≠(aq (xs.take n)).last then (aq (xs.take n)).runs+1 else (aq (xs.take n)).runs)=_;rw [yb (by omega),ih (by omega)];cases n with
  | zero=>simp [dif]
  | succ m=>
   rw [rY (by omega)];simp only [dif,Nat.add_one_ne_zero,false_or,if_false,Nat.add_sub_cancel];by_cases e:at' xs (m+1)=at' xs m
   ·simp [e]
   ·simp [e];omega
def fst(xs:List OI):Nat->List OI
 | 0=>[]
 | n+1=>if at' xs n∈xs.take n then fst xs n else fst xs n++[at' xs n]
theorem jD(xs:List OI)(n:Nat):fst xs (n+1)=if at' xs n∈xs.take n then fst xs n else fst xs n++[at' xs n]:=rfl
theorem om  : ∀ (n:Nat) (v:OI),n<=xs.length->(v∈(aq (xs.take n)).book↔v∈xs.take n):=by
 intro n;induction n with
 | zero=>intro v _;simp [gL,Ty.zero]
 | succ n ih=>
  intro v h;rw [fC h,cB h];show v∈(if at' xs n∈(aq (xs.take n)).book then (aq (xs.take n)).book else (aq (xs.take n)).book++[at' xs n])↔_;by_cases e:at' xs n∈(aq (xs.take n)).book
  ·rw [if_pos e,ih v (by omega),al_mp];constructor
   ·exact Or.inl
   ·rintro (q | q)
    ·exact q
    ·have:v=at' xs n:=by simpa using q
     rw [this];exact (ih _ (by omega)).mp e
  ·rw [if_neg e,al_mp,al_mp,ih v (by omega)]
theorem lY  : ∀ (n:Nat),n<=xs.length->(aq (xs.take n)).book=fst xs n:=by
 intro n;induction n with
 | zero=>intro _;simp [gL,Ty.zero,fst]
 | succ n ih=>
  intro h;rw [fC h];show (if at' xs n∈(aq (xs.take n)).book then (aq (xs.take n)).book else (aq (xs.take n)).book++[at' xs n])=_;rw [ih (by omega),jD];have q:=om n (at' xs n) (show n<=xs.length by omega);rw [ih (by omega)] at q;by_cases e:at' xs n∈fst xs n
  ·rw [if_pos e,if_pos (q.mp e)]
  ·rw [if_neg e,if_neg (λ z=>e (q.mpr z))]
theorem jC(xs:List OI):∀ n,(fst xs n).length<=n
 | 0=>az _
 | n+1=>by
  rw [jD];have:=jC xs n
  split
  ·omega
  ·rw [bn,d5];omega
theorem uB{xs:List OI}:∀ {n:Nat},0 < n->0 < (fst xs n).length
 | n+1,_=>by
  cases n with
  | zero=>simp [fst]
  | succ m=>
   have:=uB (xs:=xs) (n:=m+1) (by omega);rw [jD]
   split
   ·exact this
   ·rw [bn];omega
theorem rZ  : ∀ (n:Nat),n<=xs.length->((aq (xs.take n)).none=true↔.none∈xs.take n):=by
 intro n;induction n with
 | zero=>intro _;simp [gL,Ty.zero]
 | succ n ih=>
  intro h;rw [fC h,cB h];show (if at' xs n = .none then true else (aq (xs.take n)).none)=true↔_;by_cases e:at' xs n = .none
  ·simp [e]
  ·rw [if_neg e,ih (by omega),al_mp];constructor
   ·exact Or.inl
   ·rintro (q | q)
    ·exact q
    ·exact absurd (by simpa using q:(.none:OI)=at' xs n).symm e
def aN(xs:List OI):List Int:=xs.filterMap id
theorem j0(xs:List OI):aN (xs++[.none])=aN xs:=by simp [aN]
theorem j3(xs:List OI)(i:Int):aN (xs++[.some i])=aN xs++[i]:=by simp [aN]
def bH:List Int->OI
 | []=>.none
 | x::r=>some (r.foldl (λ m i=>if i < m then i else m) x)
def cJ:List Int->OI
 | []=>.none
 | x::r=>some (r.foldl (λ m i=>if m < i then i else m) x)
theorem zcY(l:List Int)(i:Int):bH (l++[i])=some (gg (bH l) i):=by
 cases l with
 | nil=>rfl
 | cons x r=>simp [bH,gg,List.foldl_append]
theorem vm(l:List Int)(i:Int):cJ (l++[i])=some (eB (cJ l) i):=by
 cases l with
 | nil=>rfl
 | cons x r=>simp [cJ,eB,List.foldl_append]
theorem x9  : ∀ (n:Nat),n<=xs.length->(aq (xs.take n)).least=bH (aN (xs.take n))/\(aq (xs.take n)).greatest=cJ (aN (xs.take n)):=by
 intro n;induction n with
 | zero=>intro _;simp [gL,Ty.zero,aN,bH,cJ]
 | succ n ih=>
  intro h;obtain ⟨h1,h2⟩:=ih (by omega);rw [fC h,cB h];cases e:at' xs n with
  | none=>rw [j0];exact ⟨h1,h2⟩
  | some i=>
   rw [j3,zcY,vm];show some (gg (aq (xs.take n)).least i)=_/\some (eB (aq (xs.take n)).greatest i)=_;rw [h1,h2];exact ⟨rfl,rfl⟩
def above(m:Int)(v:OI):Int:=match v with | .none=>0 | .some i=>i - m+1
theorem gf{l:List Int}(h:bH l=some m):∀ i∈l,m<=i:=by
 cases l with
 | nil=>cases h
 | cons x r=>
  simp [bH] at h;have key:∀ (r:List Int) (x:Int),r.foldl (λ m i=>if i < m then i else m) x<=x/\∀ i∈r,r.foldl (λ m i=>if i < m then i else m) x<=i:=by
   intro r;induction r with
   | nil=>intro x;simp
   | cons y r ih=>
    intro x;simp only [List.foldl_cons];obtain ⟨a,b⟩:=ih (if y < x then y else x);have le:(if y < x then y else x)<=x/\(if y < x then y else x)<=y:=by split <;> omega
    refine ⟨by omega,λ i hi=>?_⟩;rcases al_mc.mp hi with rfl | hi
    ·omega
    ·exact b i hi
  obtain ⟨a,b⟩:=key r x;intro i hi;rcases al_mc.mp hi with rfl | hi
  ·omega
  ·have:=b i hi;omega
theorem i3{l:List Int}(h:cJ l=some m):∀ i∈l,i<=m:=by
 cases l with
 | nil=>cases h
 | cons x r=>
  simp [cJ] at h;have key:∀ (r:List Int) (x:Int),x<=r.foldl (λ m i=>if m < i then i else m) x/\∀ i∈r,i<=r.foldl (λ m i=>if m < i then i else m) x:=by
   intro r;induction r with
   | nil=>intro x;simp
   | cons y r ih=>
    intro x;simp only [List.foldl_cons];obtain ⟨a,b⟩:=ih (if x < y then y else x);have le:x<=(if x < y then y else x)/\y<=(if x < y then y else x):=by split <;> omega
    refine ⟨by omega,λ i hi=>?_⟩;rcases al_mc.mp hi with rfl | hi
    ·omega
    ·exact b i hi
  obtain ⟨a,b⟩:=key r x;intro i hi;rcases al_mc.mp hi with rfl | hi
  ·omega
  ·have:=b i hi;omega
theorem gy{l:List Int}(h:cJ l=some m):m∈l:=by
 cases l with
 | nil=>cases h
 | cons x r=>
  simp [cJ] at h;have key:∀ (r:List Int) (x:Int),r.foldl (λ m i=>if m < i then i else m) x=x\/r.foldl (λ m i=>if m < i then i else m) x∈r:=by
   intro r;induction r with
   | nil=>intro x;simp
   | cons y r ih=>
    intro x;simp only [List.foldl_cons];rcases ih (if x < y then y else x) with a | a
    ·rw [a]
     split
     ·right;simp
     ·left;rfl
    ·right;exact bV _ a
  rcases key r x with a | a
  ·rw [← h,a];simp
  ·rw [← h];exact bV _ a
theorem gA{l:List Int}(h:bH l=some m):m∈l:=by
 cases l with
 | nil=>cases h
 | cons x r=>
  simp [bH] at h;have key:∀ (r:List Int) (x:Int),r.foldl (λ m i=>if i < m then i else m) x=x\/r.foldl (λ m i=>if i < m then i else m) x∈r:=by
   intro r;induction r with
   | nil=>intro x;simp
   | cons y r ih=>
    intro x;simp only [List.foldl_cons];rcases ih (if y < x then y else x) with a | a
    ·rw [a]
     split
     ·right;simp
     ·left;rfl
    ·right;exact bV _ a
  rcases key r x with a | a
  ·rw [← h,a];simp
  ·rw [← h];exact bV _ a
theorem oj{l:List Int}(h1:m∈l)(h2:∀ i∈l,i<=m):cJ l=some m:=by
 cases e:cJ l with
 | none=>cases l with
  | nil=>cases h1
  | cons x r=>cases e
 | some k=>
  have a:=i3 e m h1;have b:=h2 k (gy e);rw [show k=m by omega]
theorem mem_somes{i:Int}:i∈aN xs↔some i∈xs:=by
 simp [aN]
theorem zcQ(hne:xs≠[]):
  cJ (xs.map (above ((bH (aN xs)).getD 0)))=some (match bH (aN xs),cJ (aN xs) with | some a,some b=>b - a+1 | _,_=>0):=by
 cases e1:bH (aN xs) with
 | none=>
  have nil:aN xs=[]:=by cases q:aN xs with | nil=>rfl | cons x r=>rw [q] at e1;cases e1
  have all:∀ v∈xs,v = .none:=by
   intro v hv;cases v with
   | none=>rfl
   | some i=>have:=mem_somes.mpr hv;rw [nil] at this;cases this
  refine oj ?_ ?_
  ·cases xs with
   | nil=>exact absurd rfl hne
   | cons x r=>rw [all x (by simp)];simp [above]
  ·intro i hi;obtain ⟨v,hv,rfl⟩:=List.mem_map.mp hi;rw [all v hv];simp [above]
 | some a=>
  cases e2:cJ (aN xs) with
  | none=>
   have:=gA e1;cases q:aN xs with | nil=>rw [q] at this;cases this | cons x r=>rw [q] at e2;cases e2
  | some b=>
   simp only [Option.getD_some];refine oj ?_ ?_
   ·exact List.mem_map.mpr ⟨some b,mem_somes.mp (gy e2),rfl⟩
   ·intro i hi;obtain ⟨v,hv,rfl⟩:=List.mem_map.mp hi;have hab:a<=b:=gf e1 b (gy e2);cases v with
    | none=>simp [above];omega
    | some j=>
     have:=i3 e2 j (mem_somes.mpr hv);simp [above];omega
def stp(xs:List OI):Nat->List Int
 | 0=>[]
 | n+1=>if 1<=n then stp xs n++[bw ((at' xs n).getD 0 - (at' xs (n - 1)).getD 0)] else stp xs n
theorem zi0  : ∀ (n:Nat),n<=xs.length->.none∉xs.take n->cJ (0::stp xs n)=some (aq (xs.take n)).widest:=by
 intro n;induction n with
 | zero=>intro _ _;simp [gL,Ty.zero,stp,cJ]
 | succ n ih=>
  intro h hn;rw [cB h] at hn;have hn1 : .none∉xs.take n:=λ z=>hn (List.mem_append_left _ z);have ih:=ih (by omega) hn1;cases e:at' xs n with
  | none=>exact absurd (by simp [e]) hn
  | some i=>
   rw [fC h];show _=some (match at' xs n with
    | .none=>(aq (xs.take n)).widest
    | .some i=>if 0 < (aq (xs.take n)).length/\(aq (xs.take n)).none=false then (if bw (i - (aq (xs.take n)).last.getD 0) > (aq (xs.take n)).widest then bw (i - (aq (xs.take n)).last.getD 0) else (aq (xs.take n)).widest) else (aq (xs.take n)).widest)
   rw [e];simp only;have nn:(aq (xs.take n)).none=false:=by
    cases q:(aq (xs.take n)).none with
    | false=>rfl
    | true=>exact absurd ((rZ n (by omega)).mp q) hn1
   rw [nn,yb (by omega)];cases n with
   | zero=>simp [stp] at ih ⊢;exact ih
   | succ m=>
    rw [rY (by omega)] at *;simp only [stp,Nat.le_add_left,if_true,Nat.add_sub_cancel,e,Option.getD_some] at ih ⊢;rw [show (0::((if 1<=m then stp xs m++[bw ((at' xs m).getD 0 - (at' xs (m - 1)).getD 0)] else stp xs m)++[bw (i - (at' xs m).getD 0)]))=(0::(if 1<=m then stp xs m++[bw ((at' xs m).getD 0 - (at' xs (m - 1)).getD 0)] else stp xs m))++[bw (i - (at' xs m).getD 0)] from rfl,vm,ih];simp [eB]
def zal(xs:List OI):OI:=if 64 < (fst xs xs.length).length then .none else some (11+(6+24 * (fst xs xs.length).length+(aK ((fst xs xs.length).length - 1):Int) * xs.length))
def iW(xs:List OI):Int:=match bH (aN xs),cJ (aN xs) with | some a,some b=>b - a+1 | _,_=>0
def zaa(xs:List OI):Int:=11+(24+5+(aK (iW xs).toNat:Int) * xs.length)
def zib(xs:List OI):OI:=if .none∈xs then .none else some (11+(24+5+(aK (aq xs).widest.toNat:Int) * (xs.length - 1)))
def zj5(xs:List OI):List OI:=[some (11+24 * xs.length),some (11+(8+(24+8) * (1+dif xs xs.length:Nat))),zal xs,some (zaa xs),zib xs]
def top(i:Nat):Stmt:=PySem.Challenge.pw_tightrows_k20_whole_questions.main.body.getD i (.Pass ⟨0,0,0,0⟩)
abbrev qw:Stmt:=top 12
abbrev pT:Stmt:=top 13
abbrev pd:Stmt:=cI (top 14) 0
abbrev pc:Stmt:=cI (top 14) 1
abbrev pf:Stmt:=cI (top 14) 2
abbrev ph:Stmt:=cI (top 14) 3
abbrev lK:Stmt:=top 28
abbrev pX:Stmt:=top 29
abbrev pC:Stmt:=top 30
abbrev pV:Stmt:=top 31
abbrev pI:Stmt:=top 32
abbrev pL:Stmt:=top 33
abbrev pS:Stmt:=top 34
abbrev qP:Stmt:=top 35
abbrev pw:Stmt:=cI (top 36) 0
abbrev pi:Stmt:=cI (top 36) 1
abbrev pj:Stmt:=cI (top 36) 2
abbrev pq:Stmt:=cI (top 36) 3
abbrev pk:Stmt:=cI (top 36) 4
abbrev pA:Stmt:=cI (top 36) 5
abbrev pz:Stmt:=cI (top 36) 6
abbrev px:Stmt:=cI (top 36) 7
abbrev qM:Stmt:=top 37
abbrev qG:Stmt:=top 38
abbrev pE:Stmt:=top 39
abbrev qR:Stmt:=top 40
abbrev qy:Stmt:=top 41
abbrev qK:Stmt:=top 42
abbrev qJ:Stmt:=top 43
abbrev pH:Stmt:=top 44
abbrev pR:Stmt:=top 45
abbrev pD:Stmt:=top 46
abbrev qL:Stmt:=top 47
abbrev qx:Stmt:=top 49
abbrev qF:Stmt:=top 50
abbrev qC:Stmt:=top 51
abbrev qD:Stmt:=top 52
abbrev qB:Stmt:=top 53
abbrev qz:Stmt:=top 54
abbrev qE:Stmt:=top 55
abbrev qA:Stmt:=top 57
abbrev qQ:Stmt:=top 58
abbrev pW:Stmt:=top 63
abbrev pP:Stmt:=top 64
abbrev pK:Stmt:=top 65
abbrev qN:Stmt:=top 66
abbrev pO:Stmt:=top 67
abbrev lJ:Stmt:=top 68
abbrev pM:Stmt:=top 69
abbrev pB:Stmt:=top 70
abbrev qv:Stmt:=top 71
abbrev lL:Stmt:=top 72
abbrev pJ:Stmt:=top 75
abbrev qI:Stmt:=top 76
abbrev pF:Stmt:=top 77
abbrev qH:Stmt:=top 78
abbrev qt:Stmt:=top 79
abbrev qu:Stmt:=top 80
abbrev pQ:Stmt:=top 81
abbrev pG:Stmt:=top 82
abbrev qO:Stmt:=top 83
abbrev pN:Stmt:=top 85
abbrev qS:Stmt:=top 86
abbrev o0:Stmt:=cI (top 87) 0
abbrev o6:Stmt:=cI (top 87) 1
abbrev o7:Stmt:=cI (top 87) 2
abbrev o3:Stmt:=cI (top 87) 3
abbrev oX:Stmt:=cI (top 87) 4
abbrev o9:Stmt:=cI (top 87) 5
abbrev oW:Stmt:=cI (top 87) 6
abbrev o4:Stmt:=cI (top 87) 7
abbrev o5:Stmt:=cI (top 87) 8
abbrev oZ:Stmt:=cI (top 87) 9
abbrev o8:Stmt:=cI (top 87) 10
abbrev oY:Stmt:=cI (top 87) 11
abbrev p9:Stmt:=top 89
abbrev qe:Stmt:=top 90
abbrev qr:Stmt:=top 91
abbrev qm:Stmt:=top 92
abbrev qp:Stmt:=top 93
abbrev qf:Stmt:=top 94
abbrev qj:Stmt:=top 95
abbrev p5:Stmt:=top 96
abbrev pY:Stmt:=top 97
abbrev qk:Stmt:=top 98
abbrev qi:Stmt:=top 99
abbrev pZ:Stmt:=top 100
abbrev qg:Stmt:=top 101
abbrev qc:Stmt:=top 102
abbrev qh:Stmt:=top 103
abbrev qo:Stmt:=top 104
abbrev qd:Stmt:=top 105
abbrev io:Stmt:=top 106
def kindsS:List Str:=["plain", "runs", "book", "base", "steps"]
def kindsV:List V:=kindsS.map V.str
structure Ad where
 bh:Addr
 aw:Addr
 bi:Addr
 jx:Addr
 dQ:Addr
 fu:Addr
 gb:Addr
 cN:Addr
 dP:Addr
 iQ:Addr
 iO:Addr
 iP:Addr
 eW:Addr
 gW:Addr
 p_check_question_of:Addr
 gX:Addr
 p_marked_values:Addr
variable {t:Ad}
structure Txt (K:W.Frag) (mg:Str->Option Value) (t:Ad):Prop where
 za7:mg "Reader" = some (.ref t.bh)
 cA:Cls K t.bh
 jp:NoAttr K t.bh "text"
 gP:NoAttr K t.bh "place"
 uF:mg "Tally" = some (.ref t.aw)
 a9:Cls K t.aw
 fG:NoAttr K t.aw "length"
 jq:NoAttr K t.aw "last"
 kz:NoAttr K t.aw "runs"
 mU:NoAttr K t.aw "book"
 ky:NoAttr K t.aw "has_none"
 gQ:NoAttr K t.aw "least"
 iJ:NoAttr K t.aw "greatest"
 kA:NoAttr K t.aw "widest"
 za4:mg "Column" = some (.ref t.bi)
 cC:Cls K t.bi
 jo:NoAttr K t.bi "lying"
 uG:∃ k,mg "FARTHEST" = some (.int 4000000 k)
 kW:∃ k,mg "SHIFT" = some (.int 4000001 k)
 zbb:∃ k,mg "MOST_IN_BLOCK" = some (.int 100 k)
 zbc:∃ k,mg "MOST_IN_BOOK" = some (.int 64 k)
 nO:∃ k,mg "KIND_BITS" = some (.int 3 k)
 nP:∃ k,mg "LENGTH_BITS" = some (.int 8 k)
 gc:∃ k,mg "VALUE_BITS" = some (.int 24 k)
 nQ:∃ k,mg "RUNS_BITS" = some (.int 8 k)
 nR:∃ k,mg "TIMES_BITS" = some (.int 8 k)
 nM:∃ k,mg "BOOK_BITS" = some (.int 6 k)
 jE:∃ k,mg "WIDTH_BITS" = some (.int 5 k)
 zbe:∃ k,mg "MOST_WITHIN" = some (.int 6 k)
 zbd:∃ k,mg "MOST_IN_COLUMN" = some (.int 64 k)
 iV:mg "KINDS" = some (.ref t.eW)
 iZ:∀ H,SqT K H t.eW kindsV
 uV:∃ o,K.lookup t.eW=some o/\o.cls = .type "tuple" /\ o.dict=none
 za8:mg "RowsError" = some (.ref t.jx)
 nI:mg "BadValue" = some (.ref t.dQ)
 yr:ExcC K t.dQ
 nK:mg "NoPacking" = some (.ref t.fu)
 yt:ExcC K t.fu
 nH:mg "BadBits" = some (.ref t.gb)
 yq:ExcC K t.gb
 uE:mg "NoRow" = some (.ref t.cN)
 zjq:ExcC K t.cN
 zbW:gN K t.cN
 zco:W.exmOne K (.ref t.cN) (.ref t.jx)=some true
 zjh:W.kitOne K (.ref t.cN) (.type "ValueError")=some true
 zbv:W.kitOne K (.ref t.cN) (.ref t.dQ)=some false
 zbx:W.kitOne K (.ref t.cN) (.ref t.fu)=some false
 zbr:W.kitOne K (.ref t.cN) (.ref t.gb)=some false
 zby:W.kitOne K (.ref t.cN) (.ref t.cN)=some true
 zbs:W.kitOne K (.ref t.cN) (.ref t.dP)=some false
 zbw:W.kitOne K (.ref t.cN) (.ref t.iQ)=some false
 zbt:W.kitOne K (.ref t.cN) (.ref t.iO)=some false
 zbu:W.kitOne K (.ref t.cN) (.ref t.iP)=some false
 iU:mg "BadQuestion" = some (.ref t.dP)
 kb:ExcC K t.dP
 za5:mg "NoColumn" = some (.ref t.iQ)
 za2:mg "BadRow" = some (.ref t.iO)
 za3:mg "BadTable" = some (.ref t.iP)
 ii:W.kitOne K (.type "int") (.type "int")=some true
 ib:W.kitOne K (.type "int") (.type "bool")=some false
 ill:W.kitOne K (.type "list") (.type "list")=some true
 itt:W.kitOne K (.type "tuple") (.type "tuple")=some true
 iss:W.kitOne K (.type "str") (.type "str")=some true
 zdg:mg "ValueError" = none
 ox:mg "all" = none
 zdm:mg "any" = none
 vv:mg "bool" = none
 vD:mg "dict" = none
 zdW:mg "enumerate" = none
 lq:mg "int" = none
 dI:mg "isinstance" = none
 bv:mg "len" = none
 jK:mg "list" = none
 gB:mg "max" = none
 gC:mg "min" = none
 dB:mg "range" = none
 zd6:mg "reversed" = none
 zd7:mg "str" = none
 vI:mg "sum" = none
 vJ:mg "tuple" = none
 jM:mg "zip" = none
theorem oy(n:Nat):aK n=if n=0 then 0 else n.log2+1:=by
 induction n using Nat.strongRecOn with
 | ind n ih=>
  by_cases h:n=0
  ·subst h;simp [oz]
  ·rw [if_neg h,vF (by omega),Nat.log2_def];by_cases h2:2<=n
   ·rw [if_pos h2,ih (n / 2) (by omega),if_neg (by omega)]
   ·rw [if_neg h2,show n / 2=0 by omega,oz]
def okV:OI->Bool
 | .none=>true
 | .some i=>decide (-4000000<=i/\i<=4000000)
def okB(xs:List OI):Bool:=decide (1<=xs.length/\xs.length<=100) && xs.all okV
def ov:OI->V
 | .none=>.non
 | .some i=>.int i
theorem oG(o:OI):b9 (ov o)=true:=by cases o <;> rfl
theorem lx(xs:List OI):(xs.map ov).all b9=true:=by
 rw [al_ae];intro x hx;obtain ⟨o,_,rfl⟩:=List.mem_map.mp hx;exact oG o
theorem zfQ{a b:OI}(h:ov a=ov b):a=b:=by
 cases a <;> cases b <;> first | rfl | (injection h with h;rw [h]) | cases h
theorem lw(a b:OI):qY (ov a) (ov b)=true:=by cases a <;> cases b <;> rfl
theorem oE(a b:OI):decide (ov a=ov b)=decide (a=b):=by
 by_cases h:a=b
 ·subst h;simp
 ·rw [aU h,aU λ z=>h (zfQ z)]
theorem oF(a b:OI):eqV (ov a) (ov b)=decide (a=b):=by
 cases a <;> cases b <;> simp [ov,eqV]
 rename_i i j
 by_cases h:i=j
 ·subst h;simp
 ·simp [h]
inductive iq (vs:List V) (H:Hp) (Q:VK) (_E:XK):Prop
 | i (n:Int) (_:vs=[.int n]) (_:0<=n) (_:Q (.int (aK n.toNat)) H)
theorem zhO:aC ["number"] ["number"] (av qw):=by walk_at "sc"
theorem zai{n:Int}(h:0<=n):((Builtin.Int.intBits n:Nat):Int)=(aK n.toNat:Int):=by
 rw [oy];unfold Builtin.Int.intBits;by_cases e:n=0
 ·subst e;simp
 ·have e':(n == 0)=false:=by simpa using e
  rw [e',if_neg (by decide),if_neg (by omega),show n.natAbs=n.toNat by omega]
theorem ze9(F:Fun K "needed" "needed" qw f fd):FnOk P w K mg base CX0 1 f fd ["number"] iq:=by
 refine F.ok zhO (λ vs H Q E h=>?_) (λ cdv A outer s H vs Q E hr h=>?_)
 ·obtain ⟨n,rfl,_⟩:=h;rfl
 ·obtain ⟨n,rfl,h0,k⟩:=h;refine ⟨_,ap (ay (zfW PySem.F.plainAttrs_int PySem.F.slot_int_bit_length PySem.F.type_int_bit_length zc7 (pv 0))),?_⟩;refine ⟨_,rfl,rfl,n,rfl,rfl,?_⟩;rw [zai h0];exact k
inductive xi (vs:List V) (H:Hp) (Q:VK) (_E:XK):Prop
 | i (i:Int) (_:vs=[.int i]) (_:Q (.bl true) H)
theorem zhI:aC ["thing"] ["thing"] (av lK):=by walk_at "sc"
theorem vP(T:Txt K mg t)(F:Fun K "is_whole" "is_whole" lK f fd):FnOk P w K mg base CX0 1 f fd ["thing"] xi:=by
 refine F.ok zhI (λ vs H Q E h=>?_) (λ cdv A outer s H vs Q E hr h=>?_)
 ·obtain ⟨n,rfl,_⟩:=h;rfl
 ·obtain ⟨i,rfl,k⟩:=h;refine ⟨_,(ap (ay (i8 (aM (dG K) (by rfl) T.dI PyProof.Rows.Boot.«isinstance» (aa (pv 0) (aa (gH T.lq PyProof.Rows.Boot.«int») ad))) (gG (lA (aM (dG K) (by rfl) T.dI PyProof.Rows.Boot.«isinstance» (aa (pv 0) (aa (gH T.vv PyProof.Rows.Boot.«bool») ad)))))))),?_⟩;refine ⟨_,rfl,_,_,_,rfl,g8 (.int i) T.ii,_,rfl,?_⟩;refine aA ⟨_,rfl,_,_,_,rfl,g8 (.int i) T.ib,_,rfl,?_⟩;exact k
inductive xh (vs:List V) (H:Hp) (Q:VK) (_E:XK):Prop
 | i (o:OI) (_:vs=[ov o]) (_:Q (.bl (okV o)) H)
theorem zhH:aC ["value"] ["value"] (av pX):=by walk_at "sc"
theorem zeI(T:Txt K mg t)(mx:Cal P w K mg base CX0 1 "is_whole" ["thing"] xi)(F:Fun K "is_value" "is_value" pX f fd):FnOk P w K mg base CX0 2 f fd ["value"] xh:=by
 refine F.ok zhH (λ vs H Q E h=>?_) (λ cdv A outer s H vs Q E hr h=>?_)
 ·obtain ⟨n,rfl,_⟩:=h;rfl
 ·obtain ⟨o,rfl,k⟩:=h;refine ⟨_,(ap (ay (vZ (dY dL (pv 0) bx (aB _)) (gG (i8 (mx.pe hr ax (aa (pv 0) ad)) (gG (vT i7 i7 (dC dF (bz T.uG)) (pv 0) (bz T.uG)))))))),?_⟩;refine ⟨_,rfl,rfl,_,rfl,?_⟩;cases o with
  | none=>exact aA k
  | some i=>
   refine au ?_;refine ⟨_,rfl,i,rfl,_,rfl,?_⟩;refine aA ?_;refine ⟨_,rfl,_,rfl,_,_,rfl,rfl,_,rfl,?_⟩;by_cases h1 : -4000000<=i
   ·rw [aV h1];refine aA ⟨_,_,rfl,rfl,?_⟩;have e:okV (some i)=decide (i<=4000000):=by simp [okV,h1]
    show Q (.bl (decide (i<=4000000))) H;rw [← e];exact k
   ·rw [aU h1];refine au ?_;have e:okV (some i)=false:=by simp [okV,h1]
    show Q (.bl false) H;rw [← e];exact k
theorem zdV:(["value"]:List Str).Nodup:=by decide +kernel
inductive rf (K:W.Frag) (vs:List V) (H:Hp) (Q:VK) (_E:XK):Prop
 | i (p:Addr) (xs:List OI) (_:vs=[.ref p]) (_:SqL K H p (xs.map ov)) (_:xs.length<=1000) (_:∀ H',Same H H'->Q (.bl (xs.all okV)) H')
theorem zhr:aC ["values"] ["values"] (av pC):=by walk_at "sc"
theorem zei(T:Txt K mg t)(C1:Cal P w K mg base CX0 2 "is_value" ["value"] xh)(F:Fun K "are_values" "are_values" pC f fd):FnOk P w K mg base CX0 3 f fd ["values"] (rf K):=by
 refine F.ok zhr (λ vs H Q E h=>?_) (λ cdv A outer s H vs Q E hr h=>?_)
 ·obtain ⟨p,xs,rfl,_⟩:=h;rfl
 ·obtain ⟨p,xs,rfl,hS,hl,k⟩:=h;refine ⟨_,ap (ay (aM (tF rfl) (by rfl) T.ox PyProof.Rows.Boot.«all» (aa
   (ly (N:=["value"]) (fr:=[none]) ⟨rfl,rfl,rfl,rfl,rfl,rfl⟩ rfl (bN (pv 0))
    (λ C fp s H=>⟨aR (i:=0) zdV rfl (Or.inl rfl),bS,C1.pe hr ax (aa (pv 0) ad)⟩)) ad))),?_⟩
  refine ⟨_,rfl,p,rfl,⟨_,hS⟩,cD (xs:=xs.map ov) (λ i acc H'=>Same H H'/\acc=((xs.take i).map λ o=>V.bl (okV o))) ⟨Same.refl _,rfl⟩ ?_ ?_ ?_ ?_⟩
  ·rintro i acc H' hi ⟨s1,rfl⟩;refine ⟨s1.seq hS,?_⟩;rw [ae,bc];omega
  ·rw [ae];exact aX (aY hl)
  ·rintro i x acc H' hx hlt ⟨s1,rfl⟩;rw [ae] at hlt;have ex:xs[i]?=some xs[i]:=by simp [hlt]
   rw [aH,ex] at hx;cases hx;refine ⟨Wk.set rfl,?_⟩;refine tT ⟨_,rfl,xs[i],rfl,?_⟩;refine cw (by rw [ae];exact hlt) ⟨s1,?_⟩;rw [cL,ex,aE];rfl
  ·rintro acc H' ⟨s1,rfl⟩ q hq;refine ⟨q,xs.map okV,rfl,.of ?_,?_⟩
   ·rw [ag,ae,aZ,List.map_map];rfl
   ·show Q _ _;rw [List.all_map,Function.id_comp];exact k _ (aJ s1 hq)
inductive rA (K:W.Frag) (vs:List V) (H:Hp) (Q:VK) (_E:XK):Prop
 | i (p:Addr) (xs:List OI) (_:vs=[.ref p]) (_:SqL K H p (xs.map ov)) (_:xs.length<=16777216) (_:∀ H',Same H H'->Q (.bl (okB xs)) H')
theorem zhF:aC ["values"] ["values"] (av pV):=by walk_at "sc"
theorem zeH(T:Txt K mg t)(C1:Cal P w K mg base CX0 3 "are_values" ["values"] (rf K))(F:Fun K "is_block" "is_block" pV f fd):FnOk P w K mg base CX0 4 f fd ["values"] (rA K):=by
 refine F.ok zhF (λ vs H Q E h=>?_) (λ cdv A outer s H vs Q E hr h=>?_)
 ·obtain ⟨p,xs,rfl,_⟩:=h;rfl
 ·obtain ⟨p,xs,rfl,hS,hl,k⟩:=h;refine ⟨_,ap (ay (i8 (vT i7 i7 af (aM call_len_seq (by rfl) T.bv PyProof.Rows.Boot.«len» (aa (pv 0) ad)) (bz T.zbb))
   (gG (C1.pe hr ax (aa (pv 0) ad))))),?_⟩
  refine ⟨_,rfl,p,_,rfl,.inl hS,_,_,rfl,rfl,_,rfl,?_⟩;rw [ae];have same:=Same.refl H;by_cases h1:(1:Int)<=(xs.length:Int)
  ·rw [aV h1];refine aA ⟨_,_,rfl,rfl,_,rfl,?_⟩;by_cases h2:(xs.length:Int)<=100
   ·rw [aV h2];refine aA ⟨_,rfl,p,xs,rfl,hS,by omega,λ H' s1=>?_⟩;have e:okB xs=xs.all okV:=by simp [okB,show 1<=xs.length by omega,show xs.length<=100 by omega]
    show Q _ _;rw [← e];exact k _ s1
   ·rw [aU h2];refine au ?_;have e:okB xs=false:=by simp [okB,show ¬ xs.length<=100 by omega]
    show Q (.bl false) H;rw [← e];exact k _ same
  ·rw [aU h1];refine au ⟨_,rfl,?_⟩;refine au ?_;have e:okB xs=false:=by simp [okB,show ¬ 1<=xs.length by omega]
   show Q (.bl false) H;rw [← e];exact k _ same
inductive rg (K:W.Frag) (t:Ad) (vs:List V) (H:Hp) (Q:VK) (E:XK):Prop
 | i (p:Addr) (xs:List OI) (_:vs=[.ref p]) (_:SqL K H p (xs.map ov)) (_:xs.length<=1000) (_:(okB xs=true->∀ H',Same H H'->Q .non H')) (_:(okB xs=false->∀ H',Same H H'->E (.ref t.dQ) none H'))
theorem zhu:aC ["values"] ["values"] (av pI):=by walk_at "sc"
theorem zer(T:Txt K mg t)(C1:Cal P w K mg base CX0 4 "is_block" ["values"] (rA K))(F:Fun K "check_block" "check_block" pI f fd):FnOk P w K mg base (CXr P w) 5 f fd ["values"] (rg K t):=by
 refine F.okX zhu (λ vs H Q E h=>?_) (λ cdv A outer s H vs Q E hr h=>?_)
 ·obtain ⟨p,xs,rfl,_⟩:=h;rfl
 ·obtain ⟨p,xs,rfl,hS,hl,k1,k2⟩:=h;refine ⟨_,ap (aW (eE (dE (C1.pe hr ax (aa (pv 0) ad)))) (ap (fj fm T.yr rfl (by rfl) T.nI (aa aQ ad))) a8),?_⟩;refine ⟨_,rfl,p,xs,rfl,hS,by omega,λ H' s1=>⟨_,rfl,?_⟩⟩;cases e:okB xs with
  | true=>exact au (k1 e H' s1)
  | false=>exact aA ⟨by show 1<=sizeLine;decide,k2 e H' s1⟩
inductive w9 (t:Ad) (vs:List V) (H:Hp) (Q:VK) (E:XK):Prop
 | i (x:Str) (_:vs=[.str x]) (_:(x∈kindsS->Q .non H)) (_:(x∉kindsS->E (.ref t.fu) none H))
theorem zhx:aC ["kind"] ["kind"] (av pL):=by walk_at "sc"
theorem zbK(x:Str):inV (.str x) kindsV=decide (x∈kindsS):=by
 unfold inV kindsV;rw [List.any_map];have key:∀ l:List Str,l.any ((λ y=>eqV y (.str x)) ∘ V.str)=decide (x∈l):=by
  intro l;induction l with
  | nil=>simp
  | cons a l ih=>
   rw [List.any_cons,ih];by_cases e:x=a
   ·subst e;simp [eqV]
   ·have:(a == x)=false:=by simpa using λ z=>e z.symm
    simp [eqV,this,e]
 exact key _
theorem zet(T:Txt K mg t)(F:Fun K "check_kind" "check_kind" pL f fd):FnOk P w K mg base (CXr P w) 1 f fd ["kind"] (w9 t):=by
 refine F.okX zhx (λ vs H Q E h=>?_) (λ cdv A outer s H vs Q E hr h=>?_)
 ·obtain ⟨p,rfl,_⟩:=h;rfl
 ·obtain ⟨x,rfl,k1,k2⟩:=h;refine ⟨_,ap (aW (aF vQ (pv 0) (dZ T.iV) (by rfl)) (ap (fj fm T.yt rfl (by rfl) T.nK (aa aQ ad))) a8),?_⟩;refine ⟨_,rfl,t.eW,kindsV,rfl,.inr (T.iZ _),rfl,rfl,_,rfl,?_⟩;rw [if_pos rfl,zbK];by_cases e:x∈kindsS
  ·rw [aV e];exact au (k1 e)
  ·rw [aU e];exact aA ⟨by show 1<=sizeLine;decide,k2 e⟩
inductive lP (vs:List V) (H:Hp) (Q:VK) (_E:XK):Prop
 | i (d:Int) (_:vs=[.int d]) (_:Q (.int (bw d)) H)
theorem zhC:aC ["step"] ["step"] (av pS):=by walk_at "sc"
theorem zeD(F:Fun K "folded" "folded" pS f fd):FnOk P w K mg base CX0 1 f fd ["step"] lP:=by
 refine F.ok zhC (λ vs H Q E h=>?_) (λ cdv A outer s H vs Q E hr h=>?_)
 ·obtain ⟨p,rfl,_⟩:=h;rfl
 ·obtain ⟨d,rfl,k⟩:=h;refine ⟨_,ap (ay (c6 (aF lu (pv 0) af (aB _)) (ak cX af (pv 0)) (ak bK (ak cX (dC dF af) (pv 0)) af))),?_⟩;refine ⟨_,rfl,_,_,rfl,rfl,_,rfl,?_⟩;by_cases e:0<=d
  ·rw [aV e];refine aA ⟨_,rfl,_,_,rfl,rfl,.inl ⟨by decide,by decide⟩,?_⟩;show Q (.int (2 * d)) H;rw [show 2 * d=bw d by simp [bw,e]];exact k
  ·rw [aU e];refine au ⟨_,rfl,_,rfl,_,_,rfl,rfl,.inl ⟨by decide,by decide⟩,_,_,rfl,rfl,?_⟩;show Q (.int (-2 * d - 1)) H;rw [show -2 * d - 1=bw d by simp [bw,e]];exact k
def Ty.addNum(y:Ty)(i:Int):Ty:={ y with
 least:=some (gg y.least i),greatest:=some (eB y.greatest i),
 widest:=if 0 < y.length/\y.none=false then (if bw (i - y.last.getD 0) > y.widest then bw (i - y.last.getD 0) else y.widest) else y.widest }
theorem ziX(h:0 < xs.length)(hn:(aq xs).none=false):∃ j,(aq xs).last=some j:=by
 have e:=rY (xs:=xs) (n:=xs.length - 1) (by omega);rw [show xs.length - 1+1=xs.length by omega,aZ] at e;cases q:at' xs (xs.length - 1) with
 | some j=>exact ⟨j,by rw [e,q]⟩
 | none=>
  have m : .none∈xs:=by
   rw [← q];have:xs.length - 1 < xs.length:=by omega
   unfold at';simp [List.getD,this]
  have:=(rZ xs.length (az _)).mpr (by rwa [aZ]);rw [aZ,hn] at this;cases this
def fv(d:Addr)(y:Ty):List (Str × V):=[("length", .int y.length),("last", ov y.last),("runs", .int y.runs),("book", .ref d),("has_none", .bl y.none),("least", ov y.least),("greatest", ov y.greatest),("widest", .int y.widest)]
def bk(l:List OI):List (Key × V):=l.map λ o=>(Sum.inl o,.bl true)
structure eV (C:Addr) (H:Hp) (p d:Addr) (y:Ty):Prop where
 ob:∃ dx,H p=some (.ins C dx (fv d y))
 dc:H d=some (.dK (bk y.book))
theorem zfR(o:OI):ov o=kV (Sum.inl o):=by cases o <;> rfl
theorem zak(l:List OI)(v:OI):bO (bk l) (Sum.inl v) (.bl true)=bk (if v∈l then l else l++[v]):=by
 unfold bO bk;by_cases h:v∈l
 ·rw [if_pos h,if_pos]
  ·rw [List.map_map];apply List.map_congr_left;intro o _;dsimp only [Function.comp]
   split <;> rfl
  ·rw [List.any_map,List.any_eq_true];exact ⟨v,h,by simp⟩
 ·rw [if_neg h,if_neg]
  ·rw [aE];rfl
  ·rw [List.any_map,List.any_eq_true];rintro ⟨o,ho,e⟩;have e':(Sum.inl o:Key)=Sum.inl v:=of_decide_eq_true e;exact h (Sum.inl.inj e' ▸ ho)
inductive rq (C:Addr) (vs:List V) (H:Hp) (Q:VK) (_E:XK):Prop
 | i (p dx:Addr) (_:vs=[.ref p]) (_:H p=some (.ins C dx [])) (_:∀ (d:Addr) (H':Hp),H d=none->eV C H' p d Ty.zero->(∀ b,b≠p->b≠d->H' b=H b)->Q .non H')
theorem zhE:aC ["self"] ["self"] (av pw):=by walk_at "sc"
theorem zeG(T:Txt K mg t)(F:Fun K "__init__" "Tally.__init__" pw f fd):FnOk P w K mg base CX0 1 f fd ["self"] (rq t.aw):=by
 refine F.ok zhE (λ vs H Q E h=>?_) (λ cdv A outer s H vs Q E hr h=>?_)
 ·obtain ⟨p,dx,rfl,_⟩:=h;rfl
 ·obtain ⟨p,dx,rfl,hp,k⟩:=h;refine ⟨_,ah (dD (pv 0) af rfl) (ah (dD (pv 0) bx rfl) (ah (dD (pv 0) af rfl) (ah (dD (pv 0) vU rfl) (ah (dD (pv 0) dX rfl)
   (ah (dD (pv 0) bx rfl) (ah (dD (pv 0) bx rfl) (ap (dD (pv 0) af rfl)))))))),?_⟩
  refine ⟨_,rfl,p,t.aw,dx,_,rfl,hp,T.a9,T.fG,by show 0 < 1000;decide,?_⟩;refine ⟨_,rfl,p,t.aw,dx,_,rfl,ag,T.a9,T.jq,by show 1 < 1000;decide,?_⟩;refine ⟨_,rfl,p,t.aw,dx,_,rfl,ag,T.a9,T.kz,by show 2 < 1000;decide,?_⟩;intro d hd;have npd:p≠d:=λ z=>by rw [z] at hd;rw [ag] at hd;cases hd
  refine ⟨_,rfl,p,t.aw,dx,_,rfl,(by rw [aj npd];exact ag),T.a9,T.mU,by show 3 < 1000;decide,?_⟩;refine ⟨_,rfl,p,t.aw,dx,_,rfl,ag,T.a9,T.ky,by show 4 < 1000;decide,?_⟩;refine ⟨_,rfl,p,t.aw,dx,_,rfl,ag,T.a9,T.gQ,by show 5 < 1000;decide,?_⟩;refine ⟨_,rfl,p,t.aw,dx,_,rfl,ag,T.a9,T.iJ,by show 6 < 1000;decide,?_⟩;refine ⟨_,rfl,p,t.aw,dx,_,rfl,ag,T.a9,T.kA,by show 7 < 1000;decide,?_⟩;refine k d _ ?_ ⟨⟨dx,ag⟩,?_⟩ λ b h1 h2=>?_
  ·rw [aj npd.symm,aj npd.symm,aj npd.symm] at hd;exact hd
  ·rw [aj npd.symm,aj npd.symm,aj npd.symm,aj npd.symm,aj npd.symm,ag];rfl
  ·rw [aj h1,aj h1,aj h1,aj h1,aj h1,aj h2,aj h1,aj h1,aj h1]
inductive re (C:Addr) (vs:List V) (H:Hp) (Q:VK) (_E:XK):Prop
 | i (p d dx:Addr) (y:Ty) (i:Int) (_:vs=[.ref p,.int i]) (_:H p=some (.ins C dx (fv d y))) (_:(0 < y.length->y.none=false->∃ j,y.last=some j)) (_:∀ H':Hp,H' p=some (.ins C dx (fv d (y.addNum i)))->(∀ b,b≠p->H' b=H b)->Q .non H')
def ts3(K:W.Frag):TS:=j9 (xR (je (tOp (rI0 λ i j=>.bl (decide (j < i))) (gl K (cf 0) "length") (tC (.int 0)))) (xY (tB (gl K (cf 0) "has_none"))))
 (jZ K (cf 0) (tCB (λ xs H Q=>∃ i j,xs=[.int i,.int j]/\Q (.int (if j > i then j else i)) H) (ir (gl K (cf 0) "widest") (ir (rP lP [] E0 (ir (tOp (rI0 λ i j=>.int (i - j)) (cf 1) (gl K (cf 0) "last")) fT)) fT))) "widest") rS
def ts2(K:W.Frag):TS:=cU (j9 (tOr (je (tOp (λ x y H Q=>y = .non/\Q (.bl (decide (x = .non))) H) (gl K (cf 0) "greatest") (tC .non))) (je (tOp (rI0 λ i j=>.bl (decide (j < i))) (cf 1) (gl K (cf 0) "greatest"))))
 (jZ K (cf 0) (cf 1) "greatest") rS) (ts3 K)
def Ty.w3(y:Ty)(i:Int):Ty:={ y with widest:=if 0 < y.length/\y.none=false then (if bw (i - y.last.getD 0) > y.widest then bw (i - y.last.getD 0) else y.widest) else y.widest }
theorem mW{i:Int}(T:Txt K mg t)(hlast:0 < y.length->y.none=false->∃ j,y.last=some j)(h2:H2 p=some (.ins t.aw dx (fv d y)))(hb:∀ b,b≠p->H2 b=H b)(k:∀ H':Hp,H' p=some (.ins t.aw dx (fv d (Ty.w3 y i)))->(∀ b,b≠p->H' b=H b)->Q .non H'):
  ts3 K { nx:=λ _ H'=>Q .non H',rt:=Q } [some (.ref p),some (.int i)] H2:=by
 have same:y={ y with widest:=y.widest }:=by cases y;rfl
 refine ⟨_,rfl,p,t.aw,dx,_,_,rfl,h2,T.a9,T.fG,rfl,_,_,rfl,rfl,_,rfl,?_⟩;by_cases hl:0 < y.length
 ·rw [aV (show (0:Int) < (y.length:Int) by omega)];refine aA ⟨_,rfl,p,t.aw,dx,_,_,rfl,h2,T.a9,T.ky,rfl,_,rfl,?_⟩;cases en:y.none with
  | true=>
   refine au (k H2 ?_ hb);have:Ty.w3 y i=y:=by
    cases y
    simp_all [Ty.w3]
   rw [this];exact h2
  | false=>
   refine aA ?_;obtain ⟨j,hj⟩:=hlast hl en;refine ⟨_,rfl,p,t.aw,dx,_,_,rfl,h2,T.a9,T.kA,rfl,_,rfl,_,rfl,p,t.aw,dx,_,_,rfl,h2,T.a9,T.jq,rfl,_,_,rfl,(by rw [hj];rfl),i - j,rfl,_,_,rfl,_,rfl,p,t.aw,dx,_,rfl,h2,T.a9,T.kA,by show 8 < 1000;decide,?_⟩;refine k _ ?_ λ b hbp=>by rw [aj hbp];exact hb b hbp
   have ew:Ty.w3 y i={ y with widest:=if bw (i - j) > y.widest then bw (i - j) else y.widest }:=by simp [Ty.w3,en,hl,hj]
   rw [ag,ew];rfl
 ·rw [aU (show ¬ (0:Int) < (y.length:Int) by omega)];refine au (au (k H2 ?_ hb));have:Ty.w3 y i=y:=by
   cases y
   simp_all [Ty.w3]
  rw [this];exact h2
theorem mV{y1:Ty}{i:Int}(T:Txt K mg t)(hlast:0 < y.length->y.none=false->∃ j,y.last=some j)(e1:y1.length=y.length)(e2:y1.none=y.none)(e3:y1.last=y.last)(e4:y1.widest=y.widest)(e5:y1.greatest=y.greatest)(h1:H1 p=some (.ins t.aw dx (fv d y1)))(hb:∀ b,b≠p->H1 b=H b)(k:∀ H':Hp,H' p=some (.ins t.aw dx (fv d (Ty.w3 { y1 with greatest:=some (eB y.greatest i) } i)))->(∀ b,b≠p->H' b=H b)->Q .non H'):
  ts2 K { nx:=λ _ H'=>Q .non H',rt:=Q } [some (.ref p),some (.int i)] H1:=by
 refine ⟨_,rfl,p,t.aw,dx,_,_,rfl,h1,T.a9,T.iJ,rfl,rfl,_,rfl,?_⟩;cases el:y1.greatest with
 | none=>
  refine aA (aA ⟨_,rfl,_,rfl,p,t.aw,dx,_,rfl,h1,T.a9,T.iJ,by show 8 < 1000;decide,?_⟩);refine mW (y:={ y1 with greatest:=some i }) (H:=H) T (λ a b=>by obtain ⟨j,q⟩:=hlast (e1 ▸ a) (e2 ▸ b);exact ⟨j,e3.trans q⟩) ag (λ b hb'=>by rw [aj hb'];exact hb b hb') ?_;have:eB y.greatest i=i:=by rw [← e5,el];rfl
  rw [this] at k;exact k
 | some m=>
  refine au ⟨_,rfl,_,rfl,p,t.aw,dx,_,_,rfl,h1,T.a9,T.iJ,rfl,_,_,rfl,(by rw [el];rfl),_,rfl,?_⟩;by_cases hm:m < i
  ·rw [aV hm];refine aA ⟨_,rfl,_,rfl,p,t.aw,dx,_,rfl,h1,T.a9,T.iJ,by show 8 < 1000;decide,?_⟩;refine mW (y:={ y1 with greatest:=some i }) (H:=H) T (λ a b=>by obtain ⟨j,q⟩:=hlast (e1 ▸ a) (e2 ▸ b);exact ⟨j,e3.trans q⟩) ag (λ b hb'=>by rw [aj hb'];exact hb b hb') ?_;have:eB y.greatest i=i:=by rw [← e5,el];simp [eB,hm]
   rw [this] at k;exact k
  ·rw [aU hm];refine au ?_;refine mW (y:=y1) (H:=H) T (λ a b=>by obtain ⟨j,q⟩:=hlast (e1 ▸ a) (e2 ▸ b);exact ⟨j,e3.trans q⟩) h1 hb ?_;have:({ y1 with greatest:=some (eB y.greatest i) }:Ty)=y1:=by
    have:eB y.greatest i=m:=by rw [← e5,el];simp [eB,hm]
    rw [this,← el]
   rw [this] at k;exact k
theorem zhp:aC ["self", "number"] ["self", "number"] (av pj):=by walk_at "sc"
theorem zef(T:Txt K mg t)(C1:Cal P w K mg base CX0 1 "folded" ["step"] lP)(F:Fun K "add_number" "Tally.add_number" pj f fd):FnOk P w K mg base CX0 3 f fd ["self", "number"] (re t.aw):=by
 refine F.ok zhp (λ vs H Q E h=>?_) (λ cdv A outer s H vs Q E hr h=>?_)
 ·obtain ⟨p,d,dx,y,i,rfl,_⟩:=h;rfl
 ·obtain ⟨p,d,dx,y,i,rfl,hp,hlast,k⟩:=h;refine ⟨_,ah (aW (dO (aF dL (cM (pv 0) rfl) bx (aB _)) (eN (aF ig (pv 1) (cM (pv 0) rfl) (aB _)))).pt (ap (dD (pv 0) (pv 1) rfl)) a8)
   (ah (aW (dO (aF dL (cM (pv 0) rfl) bx (aB _)) (eN (aF dU (pv 1) (cM (pv 0) rfl) (aB _)))).pt (ap (dD (pv 0) (pv 1) rfl)) a8)
   (ap (aW (ik (aF dU (cM (pv 0) rfl) af (aB _)) (jT (eE (dE (cM (pv 0) rfl))))).pt
    (ap (dD (pv 0) (aM (tI rfl) (by rfl) T.gB PyProof.Rows.Boot.«max» (aa (cM (pv 0) rfl) (aa (C1.pe hr ax (aa (ak bK (pv 1) (cM (pv 0) rfl)) ad)) ad))) rfl)) a8))),?_⟩
  -- if self.least is None or number < self.least: self.least=number
  refine ⟨_,rfl,p,t.aw,dx,_,_,rfl,hp,T.a9,T.gQ,rfl,rfl,_,rfl,?_⟩;cases el:y.least with
  | none=>
   refine aA (aA ⟨_,rfl,_,rfl,p,t.aw,dx,_,rfl,hp,T.a9,T.gQ,by show 8 < 1000;decide,?_⟩);exact mV T hlast (y1:={ y with least:=some i }) rfl rfl rfl rfl rfl ag (λ b hb=>aj hb) λ H' h1 h2=>k H' (by rw [h1];simp [Ty.addNum,Ty.w3,el,gg]) h2
  | some m=>
   refine au ⟨_,rfl,_,rfl,p,t.aw,dx,_,_,rfl,hp,T.a9,T.gQ,rfl,_,_,rfl,(by rw [el];rfl),_,rfl,?_⟩;by_cases hm:i < m
   ·rw [aV hm];refine aA ⟨_,rfl,_,rfl,p,t.aw,dx,_,rfl,hp,T.a9,T.gQ,by show 8 < 1000;decide,?_⟩;exact mV T hlast (y1:={ y with least:=some i }) rfl rfl rfl rfl rfl ag (λ b hb=>aj hb) λ H' h1 h2=>k H' (by rw [h1];simp [Ty.addNum,Ty.w3,el,gg,hm]) h2
   ·rw [aU hm];refine au ?_;exact mV T hlast (y1:=y) rfl rfl rfl rfl rfl hp (λ b _=>rfl) λ H' h1 h2=>k H' (by rw [h1];simp [Ty.addNum,Ty.w3,el,gg,hm]) h2
def fM(y:Ty):Int:=match y.least,y.greatest with | some a,some b=>b - a+1 | _,_=>0
def dm(y:Ty):List OI:=[some (24 * (y.length:Int)),some (8+(24+8) * (y.runs:Int)),(if 64 < y.book.length then .none else some (6+24 * (y.book.length:Int)+(aK (y.book.length - 1):Int) * y.length)),
 some (24+5+(aK (fM y).toNat:Int) * y.length),(if y.none=true then .none else some (24+5+(aK y.widest.toNat:Int) * ((y.length:Int) - 1)))]
def fD:OI->OI
 | .none=>.none
 | .some b=>some (3+8+b)
def bd(y:Ty):List OI:=(dm y).map fD
structure YOk (y:Ty):Prop where
 pos:0 < y.book.length
 bl:y.book.length<=1000
 len:y.length<=1000
 hi:(y.least = .none/\y.greatest = .none)\/∃ a b,y.least=some a/\y.greatest=some b/\a<=b
 wid:0<=y.widest
theorem jJ{l:List Int}(h:l≠[]):∃ m,bH l=some m:=by
 cases l with
 | nil=>exact absurd rfl h
 | cons x r=>exact ⟨_,rfl⟩
def tsA(K:W.Frag)(C:Addr):TS:=cU (wI (gl K (cf 0) "book") (cf 1) (tC (.bl true))) (cU (j9 (je (tOp (λ x y H Q=>y = .non/\Q (.bl (decide (x = .non))) H) (cf 1) (tC .non)))
 (jZ K (cf 0) (tC (.bl true)) "has_none") (xW (rR C "add_number" (re C) [] E0 (cf 0) (ir (cf 1) fT)))) (cU (jZ K (cf 0) (cf 1) "last") (wJ K (cf 0) (tC (.int 1)) wm "length")))
theorem sE{r:Nat}(T:Txt K mg t)(hlast:0 < y.length->y.none=false->∃ j,y.last=some j)(hbl:y.book.length<=1000)(h1:H1 p=some (.ins t.aw dx (fv d { y with runs:=r })))(hd:H1 d=some (.dK (bk y.book)))(hb:∀ b,b≠p->b≠d->H1 b=H b)(k:∀ H':Hp,H' p=some (.ins t.aw dx (fv d { (y.add v) with runs:=r }))->H' d=some (.dK (bk (y.add v).book))->(∀ b,b≠p->b≠d->H' b=H b)->Q .non H'):
  tsA K t.aw { nx:=λ _ H'=>Q .non H',rt:=Q } [some (.ref p),some (ov v)] H1:=by
 have npd:p≠d:=eC h1 hd (by intro z;cases z);have hl1:(bk y.book).length < sizeLine:=by rw [show (bk y.book).length=y.book.length by simp [bk]];exact aY hbl
 refine ⟨_,rfl,p,t.aw,dx,_,_,rfl,h1,T.a9,T.mU,rfl,_,rfl,d,_,rfl,(by rw [zfR];exact DPut.k (k:=Sum.inl v) hd hl1),?_⟩;have h2:(upd H1 d (.dK (bO (bk y.book) (Sum.inl v) (.bl true)))) p=some (.ins t.aw dx (fv d { y with runs:=r })):=by rw [aj npd];exact h1
 have hd2:(upd H1 d (.dK (bO (bk y.book) (Sum.inl v) (.bl true)))) d=some (.dK (bk (y.add v).book)):=by rw [ag,zak];rfl
 have hb2:∀ b,b≠p->b≠d->(upd H1 d (.dK (bO (bk y.book) (Sum.inl v) (.bl true)))) b=H b:=λ b e1 e2=>by rw [aj e2];exact hb b e1 e2
 generalize (upd H1 d (.dK (bO (bk y.book) (Sum.inl v) (.bl true))))=H2 at h2 hd2 hb2 ⊢;refine ⟨_,rfl,rfl,_,rfl,?_⟩;cases v with
 | none=>
  refine aA ⟨_,rfl,p,t.aw,dx,_,rfl,h2,T.a9,T.ky,by show 8 < 1000;decide,?_⟩;refine ⟨_,rfl,_,rfl,p,t.aw,dx,_,rfl,ag,T.a9,T.jq,by show 8 < 1000;decide,?_⟩;refine ⟨_,rfl,p,t.aw,dx,_,_,rfl,ag,T.a9,T.fG,rfl,_,_,rfl,rfl,dx,_,ag,by show 8 < 1000;decide,?_⟩;refine k _ ag ?_ λ b e1 e2=>?_
  ·rw [aj npd.symm,aj npd.symm,aj npd.symm];exact hd2
  ·rw [aj e1,aj e1,aj e1];exact hb2 b e1 e2
 | some i=>
  refine au ⟨_,rfl,p,dx,_,rfl,h2,rfl,_,rfl,p,d,dx,{ y with runs:=r },i,rfl,h2,hlast,λ H3 h3 hb3=>?_⟩;have hd3:H3 d=some (.dK (bk (y.add (some i)).book)):=by rw [hb3 d npd.symm];exact hd2
  refine ⟨_,rfl,_,rfl,p,t.aw,dx,_,rfl,h3,T.a9,T.jq,by show 8 < 1000;decide,?_⟩;refine ⟨_,rfl,p,t.aw,dx,_,_,rfl,ag,T.a9,T.fG,rfl,_,_,rfl,rfl,dx,_,ag,by show 8 < 1000;decide,?_⟩;refine k _ ?_ ?_ λ b e1 e2=>?_
  ·rw [ag];have e:({ y with runs:=r }:Ty).addNum i={ y with runs:=r,least:=some (gg y.least i),greatest:=some (eB y.greatest i),widest:=(y.add (some i)).widest }:=rfl;rw [e];simp [Ty.add];rfl
  ·rw [aj npd.symm,aj npd.symm];exact hd3
  ·rw [aj e1,aj e1,hb3 b e1];exact hb2 b e1 e2
inductive q8 (C:Addr) (vs:List V) (H:Hp) (Q:VK) (_E:XK):Prop
 | i (p d:Addr) (xs:List OI) (v:OI) (_:vs=[.ref p,ov v]) (_:eV C H p d (aq xs)) (_:xs.length<=1000) (_:∀ H':Hp,eV C H' p d (aq (xs++[v]))->(∀ b,b≠p->b≠d->H' b=H b)->Q .non H')
theorem zho:aC ["self", "value"] ["self", "value"] (av pi):=by walk_at "sc"
theorem ziW(xs:List OI):(aq xs).book.length<=xs.length:=by
 have:=lY xs.length (az _);rw [aZ] at this;rw [this];exact jC _ _
theorem zee(T:Txt K mg t)(C1:bF P w K mg base CX0 3 t.aw "add_number" ["self", "number"] (re t.aw))(F:Fun K "add" "Tally.add" pi f fd):FnOk P w K mg base CX0 4 f fd ["self", "value"] (q8 t.aw):=by
 obtain ⟨f1,fd1,G1,m1,b1⟩:=C1;refine F.ok zho (λ vs H Q E h=>?_) (λ cdv A outer s H vs Q E hr h=>?_)
 ·obtain ⟨p,d,y,i,rfl,_⟩:=h;rfl
 ·obtain ⟨p,d,xs,v,rfl,⟨⟨dx,hp⟩,hd⟩,hl,k⟩:=h;have hu:=ge hr;have hll:=lZ xs;have hlast:0 < (aq xs).length->(aq xs).none=false->∃ j,(aq xs).last=some j:=λ a b=>ziX (by omega) b;have hbl:=Nat.le_trans (ziW xs) hl;rw [ya] at k;refine ⟨_,ah (aW (dO (aF cb (cM (pv 0) rfl) af (aB _)) (eN (aF dW (pv 1) (cM (pv 0) rfl) (aB _)))).pt (ap (we (pv 0) af uM)) a8)
   (ah (zgi hu (cM (pv 0) rfl) (pv 1) dX rfl)
   (ah (aW (aF dL (pv 1) bx (aB _)) (ap (dD (pv 0) dX rfl)) (ap (ci (cp (pv 0) T.a9 m1 G1 hr b1 .nil ax (aa (pv 1) ad)))))
   (ah (dD (pv 0) (pv 1) rfl) (ap (we (pv 0) af uM))))),?_⟩
  refine ⟨_,rfl,p,t.aw,dx,_,_,rfl,hp,T.a9,T.fG,rfl,rfl,_,rfl,?_⟩
  -- one run more
  have more:(aq xs).length=0\/v≠(aq xs).last->∀ H1,H1 p=some (.ins t.aw dx (fv d { (aq xs) with runs:=(aq xs).runs+1 }))->(∀ b,b≠p->H1 b=H b)->
    tsA K t.aw { nx:=λ _ H'=>Q .non H',rt:=Q } [some (.ref p),some (ov v)] H1:=λ c H1 h1 hb1=>by
   have npd:p≠d:=eC hp hd (by intro z;cases z);refine sE T hlast hbl h1 (by rw [hb1 d npd.symm];exact hd) (λ b e1 _=>hb1 b e1) λ H' g1 g2 g3=>k H' ⟨⟨dx,?_⟩,g2⟩ g3;rw [g1];have:((aq xs).add v).runs=(aq xs).runs+1:=by simp only [Ty.add];rw [if_pos c]
   rw [← this]
  by_cases c0:(aq xs).length=0
  ·rw [aV (show V.int ((aq xs).length:Int)=V.int 0 by rw [c0];rfl)];refine aA (aA ⟨_,rfl,p,t.aw,dx,_,_,rfl,hp,T.a9,T.kz,rfl,_,_,rfl,rfl,dx,_,hp,by show 8 < 1000;decide,?_⟩);exact more (.inl c0) _ ag λ b hb=>aj hb
  ·rw [aU (show ¬ V.int ((aq xs).length:Int)=V.int 0 by intro z;injection z with z;omega)];refine au ⟨_,rfl,_,rfl,p,t.aw,dx,_,_,rfl,hp,T.a9,T.jq,rfl,lw _ _,_,rfl,?_⟩;rw [oE];by_cases c1:v=(aq xs).last
   ·rw [aV c1];refine au ?_;refine sE (r:=(aq xs).runs) T hlast hbl hp hd (λ b _ _=>rfl) λ H' g1 g2 g3=>k H' ⟨⟨dx,?_⟩,g2⟩ g3;rw [g1];have:((aq xs).add v).runs=(aq xs).runs:=by
     simp only [Ty.add];rw [if_neg (λ z=>z.elim c0 λ z=>z c1)]
    rw [← this]
   ·rw [aU c1];refine aA ⟨_,rfl,p,t.aw,dx,_,_,rfl,hp,T.a9,T.kz,rfl,_,_,rfl,rfl,dx,_,hp,by show 8 < 1000;decide,?_⟩;exact more (.inr c1) _ ag λ b hb=>aj hb
inductive jc (C:Addr) (g:Ty->OI) (vs:List V) (H:Hp) (Q:VK) (_E:XK):Prop
 | i (p d:Addr) (y:Ty) (_:vs=[.ref p]) (_:eV C H p d y) (_:YOk y) (_:Q (ov (g y)) H)
theorem sc_book_room:aC ["self", "entries"] ["self"] (av pq):=by walk_at "sc"
theorem ow{i:Int}(h:n<=1000):CMul i (n:Int):=.inr ⟨by omega,by omega⟩
theorem zeq(T:Txt K mg t)(C1:Cal P w K mg base CX0 1 "needed" ["number"] iq)(F:Fun K "book_room" "Tally.book_room" pq f fd):
  FnOk P w K mg base CX0 3 f fd ["self"] (jc t.aw λ y=>if 64 < y.book.length then .none else some (6+24 * (y.book.length:Int)+(aK (y.book.length - 1):Int) * y.length)):=by
 refine F.ok sc_book_room (λ vs H Q E h=>?_) (λ cdv A outer s H vs Q E hr h=>?_)
 ·obtain ⟨p,d,y,rfl,_⟩:=h;rfl
 ·obtain ⟨p,d,y,rfl,⟨⟨dx,hp⟩,hd⟩,Y,k⟩:=h;refine ⟨_,ah (aD (i:=1) sc_book_room.nd rfl (Or.inl rfl) (aM kI (by rfl) T.bv PyProof.Rows.Boot.«len» (aa (cM (pv 0) rfl) ad)))
   (ah (aW (aF dU (pv 1) (bz T.zbc) (aB _)) (ap (ay bx)) a8)
   (ap (ay (ak a7 (ak a7 (bz T.nM) (ak cX (bz T.gc) (pv 1))) (ak cX (C1.pe hr ax (aa (ak bK (pv 1) af) ad)) (cM (pv 0) rfl)))))),?_⟩
  have el:(bk y.book).length=y.book.length:=by simp [bk]
  refine ⟨_,rfl,p,t.aw,dx,_,_,rfl,hp,T.a9,T.mU,rfl,d,_,rfl,hd,?_⟩;rw [el];refine ⟨_,rfl,_,_,rfl,rfl,_,rfl,?_⟩;by_cases c:64 < y.book.length
  ·rw [aV (show (64:Int) < (y.book.length:Int) by omega)];refine aA ?_;rw [if_pos c] at k;exact k
  ·rw [aU (show ¬ (64:Int) < (y.book.length:Int) by omega)];rw [if_neg c] at k;refine au ⟨_,rfl,_,_,rfl,rfl,.inl ⟨by decide,by decide⟩,_,_,rfl,rfl,_,rfl,_,_,rfl,rfl,_,rfl,?_,?_⟩
   ·have:=Y.pos;omega
   refine ⟨_,rfl,p,t.aw,dx,_,_,rfl,hp,T.a9,T.fG,rfl,_,_,rfl,rfl,ow Y.len,_,_,rfl,rfl,?_⟩;have e:((y.book.length:Int) - 1).toNat=y.book.length - 1:=by omega
   show Q _ _;rw [e];exact k
theorem sc_base_room:aC ["self", "highest"] ["self"] (av pk):=by walk_at "sc"
theorem zek(T:Txt K mg t)(C1:Cal P w K mg base CX0 1 "needed" ["number"] iq)(F:Fun K "base_room" "Tally.base_room" pk f fd):
  FnOk P w K mg base CX0 3 f fd ["self"] (jc t.aw λ y=>some (24+5+(aK (fM y).toNat:Int) * y.length)):=by
 refine F.ok sc_base_room (λ vs H Q E h=>?_) (λ cdv A outer s H vs Q E hr h=>?_)
 ·obtain ⟨p,d,y,rfl,_⟩:=h;rfl
 ·obtain ⟨p,d,y,rfl,⟨⟨dx,hp⟩,hd⟩,Y,k⟩:=h;refine ⟨_,ah (aD (i:=1) sc_base_room.nd rfl (Or.inl rfl) (c6 (aF dL (cM (pv 0) rfl) bx (aB _)) af (ak a7 (ak bK (cM (pv 0) rfl) (cM (pv 0) rfl)) af)))
   (ap (ay (ak a7 (ak a7 (bz T.gc) (bz T.jE)) (ak cX (C1.pe hr ax (aa (pv 1) ad)) (cM (pv 0) rfl))))),?_⟩
  refine ⟨_,rfl,p,t.aw,dx,_,_,rfl,hp,T.a9,T.gQ,rfl,rfl,_,rfl,?_⟩;rcases Y.hi with ⟨c1,c2⟩ | ⟨a,b,c1,c2,hab⟩
  ·rw [c1];refine aA ?_;have e:fM y=0:=by simp [fM,c1]
   rw [e] at k;refine ⟨_,_,rfl,rfl,_,rfl,_,rfl,by decide,_,rfl,p,t.aw,dx,_,_,rfl,hp,T.a9,T.fG,rfl,_,_,rfl,rfl,ow Y.len,_,_,rfl,rfl,?_⟩;exact k
  ·rw [c1];refine au ?_;have e:fM y=b - a+1:=by simp [fM,c1,c2]
   rw [e] at k;refine ⟨_,rfl,p,t.aw,dx,_,_,rfl,hp,T.a9,T.iJ,rfl,_,rfl,p,t.aw,dx,_,_,rfl,hp,T.a9,T.gQ,rfl,_,_,(by rw [c2];rfl),(by rw [c1];rfl),_,_,rfl,rfl,?_⟩;refine ⟨_,_,rfl,rfl,_,rfl,_,rfl,by omega,_,rfl,p,t.aw,dx,_,_,rfl,hp,T.a9,T.fG,rfl,_,_,rfl,rfl,ow Y.len,_,_,rfl,rfl,?_⟩;exact k
theorem zhT:aC ["self"] ["self"] (av pA):=by walk_at "sc"
theorem zft(T:Txt K mg t)(C1:Cal P w K mg base CX0 1 "needed" ["number"] iq)(F:Fun K "steps_room" "Tally.steps_room" pA f fd):
  FnOk P w K mg base CX0 3 f fd ["self"] (jc t.aw λ y=>if y.none=true then .none else some (24+5+(aK y.widest.toNat:Int) * ((y.length:Int) - 1))):=by
 refine F.ok zhT (λ vs H Q E h=>?_) (λ cdv A outer s H vs Q E hr h=>?_)
 ·obtain ⟨p,d,y,rfl,_⟩:=h;rfl
 ·obtain ⟨p,d,y,rfl,⟨⟨dx,hp⟩,hd⟩,Y,k⟩:=h;refine ⟨_,ah (aW (dE (cM (pv 0) rfl)) (ap (ay bx)) a8)
   (ap (ay (ak a7 (ak a7 (bz T.gc) (bz T.jE)) (ak cX (C1.pe hr ax (aa (cM (pv 0) rfl) ad)) (ak bK (cM (pv 0) rfl) af))))),?_⟩
  refine ⟨_,rfl,p,t.aw,dx,_,_,rfl,hp,T.a9,T.ky,rfl,_,rfl,?_⟩;cases c:y.none with
  | true=>
   rw [if_pos c] at k;exact aA k
  | false=>
   rw [if_neg (by rw [c];exact bC)] at k;have yl:=Y.len;refine au ⟨_,_,rfl,rfl,_,rfl,p,t.aw,dx,_,_,rfl,hp,T.a9,T.kA,rfl,_,rfl,Y.wid,_,rfl,p,t.aw,dx,_,_,rfl,hp,T.a9,T.fG,rfl,_,_,rfl,rfl,_,_,rfl,rfl,.inr ⟨by omega,by omega⟩,_,_,rfl,rfl,?_⟩;exact k
inductive lS (C:Addr) (vs:List V) (H:Hp) (Q:VK) (_E:XK):Prop
 | i (p d:Addr) (y:Ty) (_:vs=[.ref p]) (_:eV C H p d y) (_:YOk y) (_:∀ (l:Addr) (H':Hp),Same H H'->H l=none->H' l=some (.lst ((bd y).map ov))->Q (.ref l) H')
theorem sc_rooms:aC ["self", "bodies"] ["self"] (av pz):=by walk_at "sc"
theorem zdq:(["body"]:List Str).Nodup:=by decide +kernel
theorem zfm(T:Txt K mg t)(C1:bF P w K mg base CX0 3 t.aw "book_room" ["self"] (jc t.aw λ y=>if 64 < y.book.length then .none else some (6+24 * (y.book.length:Int)+(aK (y.book.length - 1):Int) * y.length)))(C2:bF P w K mg base CX0 3 t.aw "base_room" ["self"] (jc t.aw λ y=>some (24+5+(aK (fM y).toNat:Int) * y.length)))(C3:bF P w K mg base CX0 3 t.aw "steps_room" ["self"] (jc t.aw λ y=>if y.none=true then .none else some (24+5+(aK y.widest.toNat:Int) * ((y.length:Int) - 1))))(F:Fun K "rooms" "Tally.rooms" pz f fd):FnOk P w K mg base CX0 4 f fd ["self"] (lS t.aw):=by
 obtain ⟨f1,fd1,G1,m1,b1⟩:=C1;obtain ⟨f2,fd2,G2,m2,b2⟩:=C2;obtain ⟨f3,fd3,G3,m3,b3⟩:=C3;refine F.ok sc_rooms (λ vs H Q E h=>?_) (λ cdv A outer s H vs Q E hr h=>?_)
 ·obtain ⟨p,d,y,rfl,_⟩:=h;rfl
 ·obtain ⟨p,d,y,rfl,TA,Y,k⟩:=h;obtain ⟨⟨dx,hp⟩,hd⟩:=id TA;refine ⟨_,ah (aD (i:=1) sc_rooms.nd rfl (Or.inl rfl) (bR (aa (ak cX (bz T.gc) (cM (pv 0) rfl)) (aa (ak a7 (bz T.nQ) (ak cX (ak a7 (bz T.gc) (bz T.nR)) (cM (pv 0) rfl)))
    (aa (di (pv 0) T.a9 m1 G1 hr b1 .nil ax) (aa (di (pv 0) T.a9 m2 G2 hr b2 .nil ax) (aa (di (pv 0) T.a9 m3 G3 hr b3 .nil ax) ad)))))))
   (ap (ay (ly (N:=["body"]) (fr:=[none]) ⟨rfl,rfl,rfl,rfl,rfl,rfl⟩ rfl (bN (pv 1))
    (λ C fp s H=>⟨aR (i:=0) zdq rfl (Or.inl rfl),bS,c6 (aF dL (pv 0) bx (aB _)) bx (ak a7 (ak a7 (bz T.nO) (bz T.nP)) (pv 0))⟩)))),?_⟩
  refine ⟨_,rfl,p,t.aw,dx,_,_,rfl,hp,T.a9,T.fG,rfl,_,_,rfl,rfl,.inl ⟨by decide,by decide⟩,?_⟩;refine ⟨_,_,rfl,rfl,_,rfl,p,t.aw,dx,_,_,rfl,hp,T.a9,T.kz,rfl,_,_,rfl,rfl,.inl ⟨by decide,by decide⟩,_,_,rfl,rfl,?_⟩;refine ⟨_,rfl,p,dx,_,rfl,hp,rfl,p,d,y,rfl,TA,Y,?_⟩;refine ⟨_,rfl,p,dx,_,rfl,hp,rfl,p,d,y,rfl,TA,Y,?_⟩;refine ⟨_,rfl,p,dx,_,rfl,hp,rfl,p,d,y,rfl,TA,Y,?_⟩;refine ⟨by show 5<=sizeLine;decide,λ l hl=>?_⟩;have hb:(upd H l (.lst ((dm y).map ov))) l=some (.lst ((dm y).map ov)):=ag;have s0:Same H (upd H l (.lst ((dm y).map ov))):=aJ (Same.refl H) hl;refine ⟨_,rfl,l,rfl,⟨_,.of hb⟩,cD (xs:=(dm y).map ov) (λ i acc H'=>Same (upd H l (.lst ((dm y).map ov))) H'/\acc=(((dm y).take i).map λ o=>ov (fD o))) ⟨Same.refl _,rfl⟩ ?_ ?_ ?_ ?_⟩
  ·rintro i acc H' hi ⟨s1,rfl⟩;refine ⟨.of (s1 _ _ hb),?_⟩;rw [ae,bc];omega
  ·show 5<=sizeLine;decide
  ·rintro i x acc H' hx hlt ⟨s1,rfl⟩;rw [ae] at hlt;have ex:(dm y)[i]?=some (dm y)[i]:=by simp [hlt]
   rw [aH,ex] at hx;cases hx;refine ⟨Wk.set rfl,tT ?_⟩;have nxt:∀ v,v=ov (fD (dm y)[i])->∃ m',m' < ((dm y).map ov).length - i/\CW ((dm y).map ov).length (λ i acc H'=>Same (upd H l (.lst ((dm y).map ov))) H'/\acc=(((dm y).take i).map λ o=>ov (fD o))) (i+1) m' ((((dm y).take i).map λ o=>ov (fD o))++[v]) H':=λ v e=>by
    refine cw (by rw [ae];exact hlt) ⟨s1,?_⟩;rw [cL,ex,aE,e];rfl
   refine ⟨_,rfl,rfl,_,rfl,?_⟩;cases e:(dm y)[i] with
   | none=>
    refine aA (nxt _ ?_);rw [e];rfl
   | some z=>
    refine au ⟨_,_,rfl,rfl,_,rfl,_,_,rfl,rfl,nxt _ ?_⟩;rw [e];rfl
  ·rintro acc H' ⟨s1,rfl⟩ q hq;refine k q _ (aJ (s0.trans s1) hq) ((s0.trans s1).free hq) ?_;rw [ag,ae,aZ];show some (HO.lst _)=some (HO.lst _);rw [bd,List.map_map];rfl
theorem ziZ  : ∀ n,n<=xs.length->0<=(aq (xs.take n)).widest:=by
 intro n;induction n with
 | zero=>intro _;simp [gL,Ty.zero]
 | succ n ih=>
  intro h;rw [fC h];have ih:=ih (by omega);show 0<=(match at' xs n with
   | .none=>(aq (xs.take n)).widest
   | .some i=>if 0 < (aq (xs.take n)).length/\(aq (xs.take n)).none=false then (if bw (i - (aq (xs.take n)).last.getD 0) > (aq (xs.take n)).widest then bw (i - (aq (xs.take n)).last.getD 0) else (aq (xs.take n)).widest) else (aq (xs.take n)).widest)
  cases at' xs n with
  | none=>exact ih
  | some i=>
   have:=nG (i - (aq (xs.take n)).last.getD 0);dsimp only
   split
   ·split <;> assumption
   ·exact ih
theorem r6(h:0 < xs.length)(hl:xs.length<=1000):YOk (aq xs) where
 pos:=by
  have:=lY xs.length (az _);rw [aZ] at this;rw [this];exact uB h
 bl:=by
  have:=lY xs.length (az _);rw [aZ] at this;rw [this];exact Nat.le_trans (jC _ _) hl
 len:=by rw [lZ];exact hl
 hi:=by
  have:=x9 xs.length (az _);rw [aZ] at this;obtain ⟨h1,h2⟩:=this;rw [h1,h2];cases e:aN xs with
  | nil=>exact .inl ⟨rfl,rfl⟩
  | cons x r=>
   obtain ⟨a,ha⟩:=jJ (l:=x::r) (by simp);have hb:∃ b,cJ (x::r)=some b:=⟨_,rfl⟩
   obtain ⟨b,hb⟩:=hb;exact .inr ⟨a,b,ha,hb,gf ha b (gy hb)⟩
 wid:=by
  have:=ziZ xs.length (az _)
  rwa [aZ] at this
def fix(l:List OI)(v:OI):Nat:=match l with
 | []=>0
 | x::r=>if x=v then 0 else fix r v+1
theorem up:∀ {l:List OI} {v:OI},v∈l->l[fix l v]?=some v
 | x::r,v,h=>by
  unfold fix;by_cases e:x=v
  ·rw [if_pos e];simp [e]
  ·rw [if_neg e];have:v∈r:=by
    rcases al_mc.mp h with z | z
    ·exact absurd z.symm e
    ·exact z
   simpa using up this
theorem uq:∀ {l:List OI} {v:OI} {m:Nat} {z:OI},m < fix l v->l[m]?=some z->z≠v
 | x::r,v,m,z,h,hz=>by
  unfold fix at h;by_cases e:x=v
  ·rw [if_pos e] at h;omega
  ·rw [if_neg e] at h;cases m with
   | zero=>simp at hz;rw [← hz];exact e
   | succ m=>exact uq (l:=r) (m:=m) (by omega) (by simpa using hz)
theorem wQ  : ∃ M,bH (aN (bd y))=some M/\some M∈bd y:=by
 have hne:aN (bd y)≠[]:=by simp [aN,bd,dm,fD]
 obtain ⟨M,hM⟩:=jJ hne;exact ⟨M,hM,mem_somes.mp (gA hM)⟩
theorem qV(s:Same H H')(h:eV C H p d y):eV C H' p d y:=by
 obtain ⟨⟨dx,h1⟩,h2⟩:=h;exact ⟨⟨dx,s _ _ h1⟩,s _ _ h2⟩
inductive rC (C:Addr) (vs:List V) (H:Hp) (Q:VK) (_E:XK):Prop
 | i (p d:Addr) (y:Ty) (M:Int) (_:vs=[.ref p]) (_:eV C H p d y) (_:YOk y) (_:bH (aN (bd y))=some M) (_:∀ H',Same H H'->Q (.int M) H')
theorem zhN:aC ["self"] ["self"] (av px):=by walk_at "sc"
theorem zdu:(["found"]:List Str).Nodup:=by decide +kernel
theorem zeZ(T:Txt K mg t)(C1:bF P w K mg base CX0 4 t.aw "rooms" ["self"] (lS t.aw))(F:Fun K "least_room" "Tally.least_room" px f fd):FnOk P w K mg base CX0 5 f fd ["self"] (rC t.aw):=by
 obtain ⟨f1,fd1,G1,m1,b1⟩:=C1;refine F.ok zhN (λ vs H Q E h=>?_) (λ cdv A outer s H vs Q E hr h=>?_)
 ·obtain ⟨p,d,y,M,rfl,_⟩:=h;rfl
 ·obtain ⟨p,d,y,M,rfl,TA,Y,hM,k⟩:=h;obtain ⟨⟨dx,hp⟩,hd⟩:=id TA;refine ⟨_,ap (ay (aM (tJ rfl) (by rfl) T.gC PyProof.Rows.Boot.«min» (aa
   (ly (N:=["found"]) (fr:=[none]) ⟨rfl,rfl,rfl,rfl,rfl,rfl⟩ rfl (bN (di (pv 0) T.a9 m1 G1 hr b1 .nil ax))
    (λ C fp s H=>⟨aR (i:=0) zdu rfl (Or.inl rfl),fz (aF gF (pv 0) bx (aB _)),pv 0⟩)) ad))),?_⟩
  refine ⟨_,rfl,p,dx,_,rfl,hp,rfl,p,d,y,rfl,TA,Y,λ l H1 s1 hln hl=>?_⟩;refine ⟨l,rfl,⟨_,.of hl⟩,cD (xs:=(bd y).map ov) (λ i acc H'=>Same H1 H'/\acc=(aN ((bd y).take i)).map V.int) ⟨Same.refl _,rfl⟩ ?_ ?_ ?_ ?_⟩
  ·rintro i acc H' hi ⟨s2,rfl⟩;refine ⟨.of (s2 _ _ hl),?_⟩;rw [ae];have h1:(aN ((bd y).take i)).length<=((bd y).take i).length:=List.length_filterMap_le _ _;rw [bc] at h1;omega
  ·show 5<=sizeLine;decide
  ·rintro i x acc H' hx hlt ⟨s2,rfl⟩;have hlt':i < (bd y).length:=by rwa [ae] at hlt
   have ex:(bd y)[i]?=some (bd y)[i]:=by simp [hlt']
   rw [aH,ex] at hx;cases hx;have tk:(bd y).take (i+1)=(bd y).take i++[(bd y)[i]]:=by rw [cL,ex];rfl
   refine ⟨Wk.set rfl,_,rfl,rfl,_,rfl,?_⟩;cases e:(bd y)[i] with
   | none=>
    refine au (cw hlt ⟨s2,?_⟩);rw [tk,e,j0]
   | some z=>
    refine aA ⟨_,rfl,cw hlt ⟨s2,?_⟩⟩;rw [tk,e,j3,aE];rfl
  ·rintro acc H' ⟨s2,rfl⟩ q hq;refine ⟨q,aN (bd y),M,rfl,.of ?_,gA hM,gf hM,k _ (aJ (s1.trans s2) hq)⟩;rw [ag,ae,aZ]
inductive rL (K:W.Frag) (C:Addr) (vs:List V) (H:Hp) (Q:VK) (_E:XK):Prop
 | i (p:Addr) (xs:List OI) (_:vs=[.ref p]) (_:SqL K H p (xs.map ov)) (_:xs.length<=1000) (_:∀ (q d:Addr) (H':Hp),Same H H'->eV C H' q d (aq xs)->Q (.ref q) H')
theorem sc_tally_of:aC ["values", "tally", "value"] ["values"] (av qM):=by walk_at "sc"
theorem zfw(T:Txt K mg t)(CI:jl P w K mg base CX0 1 t.aw ["self"] (rq t.aw))(CA:bF P w K mg base CX0 4 t.aw "add" ["self", "value"] (q8 t.aw))(F:Fun K "tally_of" "tally_of" qM f fd):
  FnOk P w K mg base CX0 5 f fd ["values"] (rL K t.aw):=by
 obtain ⟨fI,fdI,GI,mI,bI⟩:=CI;obtain ⟨fA,fdA,GA,mA,bA⟩:=CA;refine F.ok sc_tally_of (λ vs H Q E h=>?_) (λ cdv A outer s H vs Q E hr h=>?_)
 ·obtain ⟨p,xs,rfl,_⟩:=h;rfl
 ·obtain ⟨p,xs,rfl,hS,hl,k⟩:=h;refine ⟨_,ah (aD (i:=1) sc_tally_of.nd rfl (Or.inl rfl) (vY mI GI (hr.mono (by decide)) rfl T.uF bI .nil ax))
   (ah (wf PassesOwn.never rfl (bN (pv 0)) (aR (i:=2) sc_tally_of.nd rfl (Or.inl rfl)) (ap (ci (cp (pv 1) T.a9 mA GA hr bA .nil ax (aa (pv 2) ad)))))
   (ap (ay (pv 1)))),?_⟩
  intro x dx nx ndx nex;refine ⟨x,dx,rfl,ag,λ d H1 fd0 D1 kp=>⟨rfl,?_⟩⟩;have s0:Same H (upd (upd H dx (.own x)) x (.ins t.aw dx [])):=λ b o e=>by
   rw [aj (aI e nx),aj (aI e ndx)];exact e
  have nd0:H d=none:=s0.free fd0;have s1:Same H H1:=λ b o e=>by
   rw [kp b (aI e nx) (aI e nd0)];exact s0 b o e
  refine ⟨_,rfl,p,rfl,⟨_,s1.seq hS⟩,gw (K:=K) (a:=p) (xs:=xs.map ov) (λ i σ H2=>∃ v:Option V,σ=[some (.ref p),some (.ref x),v]/\Same H H2/\eV t.aw H2 x d (aq (xs.take i)))
   ⟨none,rfl,s1,D1⟩ (λ i σ H2 _ ⟨_,_,s2,_⟩=>s2.seq hS) ?_ ?_⟩
  ·rintro i y σ H2 hi ⟨v,rfl,s2,D⟩;have hil:i < xs.length:=by
    have:=(al_gs.mp hi).1
    rwa [ae] at this
   have ex:xs[i]?=some xs[i]:=by simp [hil]
   rw [aH,ex] at hi;cases hi;obtain ⟨⟨dy,h1⟩,hd⟩:=id D;refine ⟨_,rfl,x,dy,_,rfl,h1,rfl,_,rfl,x,d,xs.take i,xs[i],rfl,D,?_,λ H3 D3 kp3=>?_⟩
   ·rw [bc];omega
   ·refine ⟨_,rfl,λ b o e=>?_,?_⟩
    ·rw [kp3 b (aI e nx) (aI e nd0)];exact s2 b o e
    ·rw [cL,ex];exact D3
  ·rintro σ H2 ⟨v,rfl,s2,D⟩;rw [ae,aZ] at D;exact ⟨_,rfl,k x d H2 s2 D⟩
theorem ic:kindsS.Nodup:=by decide +kernel
theorem uW(h:kindsS[j]?=some x):(∃ z,kindsV[j]?=some z/\eqV z (.str x)=true)/\∀ m z,m < j->kindsV[m]?=some z->eqV z (.str x)=false:=by
 constructor
 ·refine ⟨.str x,?_,by simp [eqV]⟩;unfold kindsV;rw [aH,h];rfl
 ·intro m z hm hz;unfold kindsV at hz;rw [aH] at hz;cases e:kindsS[m]? with
  | none=>rw [e] at hz;cases hz
  | some y=>
   rw [e] at hz;cases hz;have:y≠x:=λ q=>by
    subst q;exact absurd (fO ic e h) (be hm)
   simpa [eqV] using this
theorem gh(h:okB xs=true):0 < xs.length:=by
 simp only [okB,Bool.and_eq_true,decide_eq_true_eq] at h;omega
inductive xE (K:W.Frag) (t:Ad) (vs:List V) (H:Hp) (Q:VK) (E:XK):Prop
 | i (p:Addr) (xs:List OI) (x:Str) (_:vs=[.str x,.ref p]) (_:SqL K H p (xs.map ov)) (_:xs.length<=1000) (_:(okB xs=false->∀ H',Same H H'->E (.ref t.dQ) none H')) (_:(okB xs=true->x∉kindsS->∀ H',Same H H'->E (.ref t.fu) none H')) (_:(okB xs=true->∀ j,kindsS[j]?=some x->∀ H',Same H H'->Q (ov ((bd (aq xs)).getD j .none)) H'))
theorem zhR:aC ["kind", "values"] ["kind", "values"] (av qG):=by walk_at "sc"
theorem zfk(T:Txt K mg t)(C1:Cal P w K mg base (CXr P w) 5 "check_block" ["values"] (rg K t))(C2:Cal P w K mg base (CXr P w) 1 "check_kind" ["kind"] (w9 t))(C3:Cal P w K mg base CX0 5 "tally_of" ["values"] (rL K t.aw))(C4:bF P w K mg base CX0 4 t.aw "rooms" ["self"] (lS t.aw))(F:Fun K "room" "room" qG f fd):FnOk P w K mg base (CXr P w) 6 f fd ["kind", "values"] (xE K t):=by
 obtain ⟨f4,fd4,G4,m4,b4⟩:=C4;refine F.okX zhR (λ vs H Q E h=>?_) (λ cdv A outer s H vs Q E hr h=>?_)
 ·obtain ⟨p,xs,x,rfl,_⟩:=h;rfl
 ·obtain ⟨p,xs,x,rfl,hS,hl,k1,k2,k3⟩:=h;refine ⟨_,ah (ci (C1.pe hr c5 (aa (pv 1) ad))) (ah (ci (C2.pe hr c5 (aa (pv 0) ad)))
   (ap (ay (aP uS (di (C3.pe hr ax (aa (pv 1) ad)) T.a9 m4 G4 (hr.mono (by decide)) b4 .nil ax)
    (oH PySem.F.plainAttrs_tuple PySem.F.slot_tuple_index PySem.F.type_tuple_index mt_tindex (dZ T.iV) (aa (pv 0) ad)) (λ _ _=>rfl))))),?_⟩
  refine ⟨_,rfl,p,xs,rfl,hS,hl,λ okb H1 s1=>?_,k1⟩;refine ⟨_,rfl,x,rfl,λ hx=>?_,λ hx=>k2 okb hx H1 s1⟩;obtain ⟨j,hj⟩:=List.getElem?_of_mem hx;obtain ⟨q1,q2⟩:=uW hj;refine ⟨_,rfl,p,xs,rfl,s1.seq hS,hl,λ q d H2 s2 D2=>?_⟩;obtain ⟨⟨dx,h2⟩,hd2⟩:=id D2;refine ⟨q,dx,_,rfl,h2,rfl,q,d,aq xs,rfl,D2,r6 (gh okb) hl,λ l H3 s3 hln h3=>?_⟩;refine ⟨.inr (.inl ⟨rfl,T.uV⟩),_,rfl,t.eW,kindsV,.str x,j,rfl,rfl,T.iZ _,rfl,rfl,q1,q2,?_⟩;refine ⟨l,_,(j:Int),ov ((bd (aq xs)).getD j .none),rfl,rfl,.of h3,ef ?_,k3 okb j hj H3 ((s1.trans s2).trans s3)⟩;have hj5:j < 5:=by
   have:=(al_gs.mp hj).1;exact this
  have hj':j < (bd (aq xs)).length:=hj5;rw [aH];simp [List.getD,hj']
def bM(xs:List OI):Nat:=fix (bd (aq xs)) (bH (aN (bd (aq xs))))
inductive wW (K:W.Frag) (t:Ad) (vs:List V) (H:Hp) (Q:VK) (E:XK):Prop
 | i (p:Addr) (xs:List OI) (_:vs=[.ref p]) (_:SqL K H p (xs.map ov)) (_:xs.length<=1000) (_:(okB xs=false->∀ H',Same H H'->E (.ref t.dQ) none H')) (_:(okB xs=true->∀ H',Same H H'->Q (.str (kindsS.getD (bM xs) "")) H'))
theorem sc_best:aC ["values", "tally"] ["values"] (av pE):=by walk_at "sc"
theorem m6(xs:List OI):∃ M,bH (aN (bd (aq xs)))=some M/\(bd (aq xs))[bM xs]?=some (some M)/\∀ m z,m < bM xs->(bd (aq xs))[m]?=some z->z≠some M:=by
 obtain ⟨M,h1,h2⟩:=wQ (y:=aq xs);refine ⟨M,h1,?_,λ m z hm hz=>?_⟩
 ·unfold bM;rw [h1];exact up h2
 ·unfold bM at hm;rw [h1] at hm;exact uq hm hz
theorem zel(T:Txt K mg t)(C1:Cal P w K mg base (CXr P w) 5 "check_block" ["values"] (rg K t))(C3:Cal P w K mg base CX0 5 "tally_of" ["values"] (rL K t.aw))(C4:bF P w K mg base CX0 4 t.aw "rooms" ["self"] (lS t.aw))(C5:bF P w K mg base CX0 5 t.aw "least_room" ["self"] (rC t.aw))(F:Fun K "best_kind" "best_kind" pE f fd):
  FnOk P w K mg base (CXr P w) 6 f fd ["values"] (wW K t):=by
 obtain ⟨f4,fd4,G4,m4,b4⟩:=C4;obtain ⟨f5,fd5,G5,m5,b5⟩:=C5;refine F.okX sc_best (λ vs H Q E h=>?_) (λ cdv A outer s H vs Q E hr h=>?_)
 ·obtain ⟨p,xs,rfl,_⟩:=h;rfl
 ·obtain ⟨p,xs,rfl,hS,hl,k1,k2⟩:=h;refine ⟨_,ah (ci (C1.pe hr c5 (aa (pv 0) ad))) (ah (aD (i:=1) sc_best.nd rfl (Or.inl rfl) (C3.pe hr ax (aa (pv 0) ad)))
   (ap (ay (aP uT (dZ T.iV) (oH PySem.F.plainAttrs_list PySem.F.slot_list_index PySem.F.type_list_index ou (di (pv 1) T.a9 m4 G4 (hr.mono (by decide)) b4 .nil ax)
    (aa (di (pv 1) T.a9 m5 G5 hr b5 .nil ax) ad)) (λ _ _=>rfl))))),?_⟩
  refine ⟨_,rfl,p,xs,rfl,hS,hl,λ okb H1 s1=>?_,k1⟩;refine ⟨_,rfl,p,xs,rfl,s1.seq hS,hl,λ q d H2 s2 D2=>?_⟩;obtain ⟨⟨dx,h2⟩,hd2⟩:=id D2;have Y:=r6 (gh okb) hl;obtain ⟨M,hM,hj,hno⟩:=m6 xs;refine ⟨_,rfl,q,dx,_,rfl,h2,rfl,q,d,aq xs,rfl,D2,Y,λ l H3 s3 hln h3=>?_⟩;have D3:=qV s3 D2;obtain ⟨⟨dx3,h33⟩,hd3⟩:=id D3;refine ⟨.inl ⟨rfl,_,.of h3⟩,_,rfl,q,dx3,_,rfl,h33,rfl,q,d,aq xs,M,rfl,D3,Y,hM,λ H4 s4=>?_⟩;have hj5:bM xs < 5:=(al_gs.mp hj).1;refine ⟨l,_,.int M,bM xs,rfl,rfl,s4 _ _ h3,lx _,rfl,⟨ov (some M),by rw [aH,hj];rfl,by show eqV (.int M) (.int M)=true;simp [eqV]⟩,λ m z hm hz=>?_,?_⟩
  ·rw [aH] at hz;cases e:(bd (aq xs))[m]? with
   | none=>rw [e] at hz;cases hz
   | some z'=>
    rw [e] at hz;cases hz;show eqV (ov z') (ov (some M))=false;rw [oF];exact aU (hno m z' hm e)
  ·refine ⟨t.eW,kindsV,(bM xs:Int),.str (kindsS.getD (bM xs) ""),rfl,rfl,T.iZ _,ef ?_,k2 okb H4 (((s1.trans s2).trans s3).trans s4)⟩;have hj':bM xs < kindsS.length:=hj5;unfold kindsV;rw [aH];simp [List.getD,hj']
theorem sc_packed:aC ["kind", "values", "head"] ["kind", "values"] (av qx):=by walk_at "sc"
def cell(ns:List Int)(k:Int):Int:=if ns=[] then 0 else ns.getD (k % (ns.length:Int)).toNat 0
def vo(ns:List Int)(k:Int):Int:=(cell ns k+104729 * (k+1)) % 4294967291 * 48271 % 4294967279
def mix(ns:List Int)(k:Int):Int:=(vo ns k / 64 * 69621+vo ns k) % 4294967231
inductive xn (K:W.Frag) (vs:List V) (H:Hp) (Q:VK) (_E:XK):Prop
 | i (p:Addr) (ns:List Int) (k:Int) (_:vs=[.ref p,.int k]) (_:SqL K H p (ns.map V.int)) (_:Q (.int (cell ns k)) H)
theorem zhK:aC ["_law_script", "_law_k"] ["_law_script", "_law_k"] (av p9):=by walk_at "sc"
theorem zeO(T:Txt K mg t)(F:Fun K "_law_cell" "_law_cell" p9 f fd):FnOk P w K mg base CX0 1 f fd ["_law_script", "_law_k"] (xn K):=by
 refine F.ok zhK (λ vs H Q E h=>?_) (λ cdv A outer s H vs Q E hr h=>?_)
 ·obtain ⟨p,ns,k,rfl,_⟩:=h;rfl
 ·obtain ⟨p,ns,k,rfl,hS,q⟩:=h;refine ⟨_,(ah (aW (i9 K (pv 0)) (ap (ay (aP (bq K) (pv 0) (ak cE (pv 1) (aM (bQ K) (by rfl) T.bv PyProof.Rows.Boot.«len» (aa (pv 0) ad))) (λ _ _=>rfl))))
   a8)
  (ap (ay af))),?_⟩
  refine ⟨_,rfl,p,_,rfl,hS,?_⟩;cases ns with
  | nil=>exact au q
  | cons n r=>
   refine aA ?_;have hl:0 < ((n::r).length:Int):=by rw [bY];omega
   have hat:atI ((n::r).map V.int) (k % ((n::r).length:Int))=some (.int (cell (n::r) k)):=by
    refine bP (Int.emod_nonneg _ (by omega)) ?_;have h1:=Int.emod_lt_of_pos k hl;have h0:=Int.emod_nonneg k (b:=((n::r).length:Int)) (by omega);have h2:(k % ((n::r).length:Int)).toNat < (n::r).length:=by omega
    rw [aH,cell,if_neg (by simp),aG h2];simp only [List.getD,aG h2,Option.getD_some,Option.map_some]
   refine ⟨_,rfl,_,rfl,_,rfl,p,_,rfl,.inl hS,_,_,rfl,rfl,by rw [ae];exact hl,?_⟩;rw [ae];exact ⟨p,_,_,_,rfl,rfl,hS,hat,q⟩
inductive j4 (K:W.Frag) (vs:List V) (H:Hp) (Q:VK) (_E:XK):Prop
 | i (p:Addr) (ns:List Int) (k:Int) (_:vs=[.ref p,.int k]) (_:SqL K H p (ns.map V.int)) (_:Q (.int (mix ns k)) H)
theorem sc_l_mix:aC ["_law_script", "_law_k", "_law_number"] ["_law_script", "_law_k"] (av qe):=by walk_at "sc"
theorem zeP(T:Txt K mg t)(C__law_cell:Cal P w K mg base CX0 1 "_law_cell" ["_law_script", "_law_k"] (xn K))(F:Fun K "_law_mix" "_law_mix" qe f fd):FnOk P w K mg base CX0 3 f fd ["_law_script", "_law_k"] (j4 K):=by
 refine F.ok sc_l_mix (λ vs H Q E h=>?_) (λ cdv A outer s H vs Q E hr h=>?_)
 ·obtain ⟨p,ns,k,rfl,_⟩:=h;rfl
 ·obtain ⟨p,ns,k,rfl,hS,q⟩:=h;refine ⟨_,(ah (aD (i:=2) sc_l_mix.nd rfl (Or.inl rfl) (ak cE (ak a7 (C__law_cell.pe hr ax (aa (pv 0) (aa (pv 1) ad))) (ak cX af (ak a7 (pv 1) af))) af))
  (ah (aD (i:=2) sc_l_mix.nd rfl (Or.inl rfl) (ak cE (ak cX (pv 2) af) af))
  (ap (ay (ak cE (ak a7 (ak cX (ak dJ (pv 2) af) af) (pv 2)) af))))),?_⟩
  refine ⟨_,rfl,_,rfl,_,_,_,rfl,‹_›,_,rfl,_,_,rfl,rfl,_,_,rfl,rfl,Or.inl ⟨by decide,by decide⟩,_,_,rfl,rfl,_,_,rfl,rfl,by omega,_,rfl,_,_,rfl,rfl,Or.inr ⟨by decide,by decide⟩,_,_,rfl,rfl,by omega,_,rfl,_,_,rfl,rfl,⟨by decide,by decide⟩,_,_,rfl,rfl,Or.inr ⟨by decide,by decide⟩,_,rfl,_,_,rfl,rfl,_,_,rfl,rfl,by omega,?_⟩;exact q
inductive xx (vs:List V) (H:Hp) (Q:VK) (_E:XK):Prop
 | i (i:Int) (_:vs=[.int i]) (_:Q (.bl true) H)
theorem zhM:aC ["_law_found"] ["_law_found"] (av qr):=by walk_at "sc"
theorem zeX(T:Txt K mg t)(F:Fun K "_law_whole" "_law_whole" qr f fd):FnOk P w K mg base CX0 1 f fd ["_law_found"] xx:=by
 refine F.ok zhM (λ vs H Q E h=>?_) (λ cdv A outer s H vs Q E hr h=>?_)
 ·obtain ⟨i,rfl,_⟩:=h;rfl
 ·obtain ⟨i,rfl,q⟩:=h;refine ⟨_,(ap (ay (i8 (aM (dG K) (by rfl) T.dI PyProof.Rows.Boot.«isinstance» (aa (pv 0) (aa (gH T.lq PyProof.Rows.Boot.«int») ad))) (gG (lA (aM (dG K) (by rfl) T.dI PyProof.Rows.Boot.«isinstance» (aa (pv 0) (aa (gH T.vv PyProof.Rows.Boot.«bool») ad)))))))),?_⟩;refine ⟨_,rfl,_,_,_,rfl,g8 (.int i) T.ii,_,rfl,aA ?_⟩;exact ⟨_,rfl,_,_,_,rfl,g8 (.int i) T.ib,_,rfl,q⟩
inductive xo (vs:List V) (H:Hp) (Q:VK) (_E:XK):Prop
 | i (n:Int) (_:vs=[.int n]) (_:Q (.int (aK n.toNat)) H)
theorem sc_l_need:aC ["_law_number", "_law_found"] ["_law_number"] (av qf):=by walk_at "sc"
theorem zeQ(F:Fun K "_law_need" "_law_need" qf f fd):FnOk P w K mg base CX0 1 f fd ["_law_number"] xo:=by
 refine F.ok sc_l_need (λ vs H Q E h=>?_) (λ cdv A outer s H vs Q E hr h=>?_)
 ·obtain ⟨n,rfl,_⟩:=h;rfl
 ·obtain ⟨n,rfl,q⟩:=h;refine ⟨_,(ah (aD (i:=1) sc_l_need.nd rfl (Or.inl rfl) af)
  (ah (jR PassesOwn.never (aF dU (pv 0) af (aB _))
   (ah (aD (i:=0) sc_l_need.nd rfl (Or.inl rfl) (ak dJ (pv 0) af))
  (ap (aD (i:=1) sc_l_need.nd rfl (Or.inl rfl) (ak a7 (pv 1) af)))))
  (ap (ay (pv 1))))),?_⟩
  refine ka (λ σ H'=>H'=H/\∃ a b:Int,σ=[some (.int a),some (.int b)]/\b+aK a.toNat=aK n.toNat) (λ σ _=>match σ with | some (.int a)::_=>a.toNat | _=>0) ⟨rfl,n,0,rfl,by omega⟩ ?_;rintro m σ H' rfl ⟨rfl,a,b,rfl,hb⟩;refine ⟨_,rfl,_,_,rfl,rfl,_,rfl,?_⟩;refine g9 (λ hc=>?_) (λ hc=>?_)
  ·have hc:0 < a:=of_decide_eq_true hc;refine ⟨_,wN,?_⟩;refine ⟨_,rfl,_,_,rfl,rfl,⟨by decide,by decide⟩,_,rfl,_,_,rfl,rfl,?_⟩;refine ⟨⟨rfl,a / 2,b+1,rfl,?_⟩,?_⟩
   ·have e:a.toNat / 2=(a / 2).toNat:=by omega
    rw [vF (n:=a.toNat) (by omega),e] at hb;omega
   ·show (a / 2).toNat < a.toNat;omega
  ·have hc:¬ 0 < a:=λ z=>hc (aV z);have e:a.toNat=0:=by omega
   rw [e,oz] at hb;refine ⟨_,rfl,?_⟩;have:b=aK n.toNat:=by omega
   rw [this];exact q
inductive xu (K:W.Frag) (vs:List V) (H:Hp) (Q:VK) (_E:XK):Prop
 | i (p:Addr) (ns:List Int) (k:Int) (_:vs=[.ref p,.int k]) (_:SqL K H p (ns.map V.int)) (_:∀ (o:OI) (H':Hp),okV o=true->Same H H'->Q (ov o) H')
theorem sc_l_value:aC ["_law_script", "_law_k", "_law_number", "_law_some"] ["_law_script", "_law_k"] (av qm):=by walk_at "sc"
def jI(n:Int):List OI:=[some 0,some 1,some (-1),some 5,some 4000000,some (-4000000),none,some (n / 16 % 9),some (n / 16 % 300 - 150),some (n / 16 % 8000001 - 4000000)]
theorem zcW(n:Int):(jI n).all okV=true:=by
 have h1:=Int.emod_nonneg (n / 16) (b:=9) (by decide);have h2:=Int.emod_lt_of_pos (n / 16) (b:=9) (by decide);have h3:=Int.emod_nonneg (n / 16) (b:=300) (by decide);have h4:=Int.emod_lt_of_pos (n / 16) (b:=300) (by decide);have h5:=Int.emod_nonneg (n / 16) (b:=8000001) (by decide);have h6:=Int.emod_lt_of_pos (n / 16) (b:=8000001) (by decide);simp only [jI,List.all_cons,List.all_nil,okV,Bool.and_true,Bool.and_eq_true,decide_eq_true_eq,true_and];omega
theorem zeV(T:Txt K mg t)(C__law_mix:Cal P w K mg base CX0 3 "_law_mix" ["_law_script", "_law_k"] (j4 K))(F:Fun K "_law_value" "_law_value" qm f fd):FnOk P w K mg base CX0 4 f fd ["_law_script", "_law_k"] (xu K):=by
 refine F.ok sc_l_value (λ vs H Q E h=>?_) (λ cdv A outer s H vs Q E hr h=>?_)
 ·obtain ⟨p,ns,k,rfl,_⟩:=h;rfl
 ·obtain ⟨p,ns,k,rfl,hS,q⟩:=h;refine ⟨_,(ah (aD (i:=2) sc_l_value.nd rfl (Or.inl rfl) (C__law_mix.pe hr ax (aa (pv 0) (aa (pv 1) ad))))
  (ah (aD (i:=3) sc_l_value.nd rfl (Or.inl rfl) (bR (aa af (aa af (aa (dC dF af) (aa af (aa af (aa (dC dF af) (aa bx (aa (ak cE (ak dJ (pv 2) af) af) (aa (ak bK (ak cE (ak dJ (pv 2) af) af) af) ad)))))))))))
  (ap (ay (aP (bq K) (ak fP (pv 3) (bR (aa (ak bK (ak cE (ak dJ (pv 2) af) af) af) ad))) (ak cE (pv 2) af) (λ _ _=>rfl)))))),?_⟩
  refine ⟨_,rfl,_,rfl,_,_,_,rfl,‹_›,_,rfl,_,rfl,_,rfl,_,_,rfl,rfl,⟨by decide,by decide⟩,_,_,rfl,rfl,by omega,_,rfl,_,_,rfl,rfl,⟨by decide,by decide⟩,_,_,rfl,rfl,by omega,_,_,rfl,rfl,aO rfl,?_⟩;intro l hl;refine ⟨_,rfl,_,rfl,_,_,rfl,rfl,⟨by decide,by decide⟩,_,_,rfl,rfl,by omega,_,_,rfl,rfl,aO rfl,?_⟩;intro l2 hl2;have nl:l≠l2:=aI ag hl2;refine ⟨l,l2,_,_,rfl,rfl,by rw [aj nl];exact ag,ag,aO rfl,?_⟩;intro l3 hl3;have h0:=Int.emod_nonneg (mix ns k) (b:=10) (by decide);have h1:=Int.emod_lt_of_pos (mix ns k) (b:=10) (by decide);have hlt:(mix ns k % 10).toNat < (jI (mix ns k)).length:=by show _ < 10;omega
  refine ⟨_,rfl,_,_,rfl,rfl,by show (0:Int) < 10;decide,l3,(jI (mix ns k)).map ov,_,ov ((jI (mix ns k))[(mix ns k % 10).toNat]),rfl,rfl,SqL.of ag,bP h0 ?_,?_⟩
  ·rw [aH,aG hlt];rfl
  ·refine q _ _ (al_ae.mp (zcW _) _ (List.getElem_mem _)) ?_;exact aJ (aJ (aJ (Same.refl H) hl) hl2) hl3
theorem zj4(a b c d:V){z:Int}(h0:0<=z)(h1:z < 4):∃ v,atI [a,b,c,d] z=some v/\(v=a\/v=b\/v=c\/v=d):=by
 have hz:z.toNat < 4:=by omega
 have h:∃ v,([a,b,c,d]:List V)[z.toNat]?=some v/\(v=a\/v=b\/v=c\/v=d):=by
  generalize z.toNat=i at hz
  match i,hz with
  | 0,_=>exact ⟨a,rfl,.inl rfl⟩
  | 1,_=>exact ⟨b,rfl,.inr (.inl rfl)⟩
  | 2,_=>exact ⟨c,rfl,.inr (.inr (.inl rfl))⟩
  | 3,_=>exact ⟨d,rfl,.inr (.inr (.inr rfl))⟩
  | (i+4),h=>omega
 obtain ⟨v,e,q⟩:=h;exact ⟨v,bP h0 e,q⟩
theorem cut_take(xs:List OI)(n:Nat):cH (xs.map ov) none (some (n:Int))=(xs.take n).map ov:=by
 unfold cH;rw [HT.sIx_none,HT.sIx_nat,List.drop_zero,ae,Nat.sub_zero,← List.map_take];rcases Nat.le_total n xs.length with h | h
 ·rw [Nat.min_eq_left h]
 ·rw [Nat.min_eq_right h,List.take_of_length_le (az _),List.take_of_length_le h]
theorem small1000'(h:n<=10000):n < sizeLine:=Nat.lt_of_le_of_lt h (by decide)
def i0(H:Hp)(l:Addr):Nat:=match H l with | some (.lst xs)=>xs.length | _=>0
inductive xw (K:W.Frag) (vs:List V) (H:Hp) (Q:VK) (_E:XK):Prop
 | i (p:Addr) (ns:List Int) (k:Int) (most:Nat) (_:vs=[.ref p,.int k,.int most]) (_:SqL K H p (ns.map V.int)) (_:most<=1000) (_:∀ (l:Addr) (H':Hp) (xs:List OI),Same H H'->H l=none->H' l=some (.lst (xs.map ov))->xs.length<=most->xs.all okV=true->Q (.ref l) H')
theorem sc_l_values:aC ["_law_script", "_law_k", "_law_most", "_law_found", "_law_way", "_law_number", "_law_value_here"] ["_law_script", "_law_k", "_law_most"] (av qp):=by walk_at "sc"
theorem zeW(T:Txt K mg t)(C__law_mix:Cal P w K mg base CX0 3 "_law_mix" ["_law_script", "_law_k"] (j4 K))(C__law_value:Cal P w K mg base CX0 4 "_law_value" ["_law_script", "_law_k"] (xu K))(F:Fun K "_law_values" "_law_values" qp f fd):FnOk P w K mg base CX0 5 f fd ["_law_script", "_law_k", "_law_most"] (xw K):=by
 refine F.ok sc_l_values (λ vs H Q E h=>?_) (λ cdv A outer s H vs Q E hr h=>?_)
 ·obtain ⟨p,ns,k,most,rfl,_⟩:=h;rfl
 ·obtain ⟨p,ns,k,most,rfl,hS,hm,q⟩:=h;refine ⟨_,(ah (aD (i:=3) sc_l_values.nd rfl (Or.inl rfl) (bR ad))
  (ah (aD (i:=4) sc_l_values.nd rfl (Or.inl rfl) (ak cE (C__law_mix.pe hr ax (aa (pv 0) (aa (pv 1) ad))) af))
  (ah (jR PassesOwn.never (aF ig (aM (bQ K) (by rfl) T.bv PyProof.Rows.Boot.«len» (aa (pv 3) ad)) (ak cE (C__law_mix.pe hr ax (aa (pv 0) (aa (ak a7 (pv 1) af) ad))) (ak a7 (pv 2) af)) (aB _))
   (ah (aD (i:=5) sc_l_values.nd rfl (Or.inl rfl) (C__law_mix.pe hr ax (aa (pv 0) (aa (ak a7 (ak a7 (pv 1) af) (aM (bQ K) (by rfl) T.bv PyProof.Rows.Boot.«len» (aa (pv 3) ad))) ad))))
  (ah (aD (i:=6) sc_l_values.nd rfl (Or.inl rfl) (C__law_value.pe hr ax (aa (pv 0) (aa (ak a7 (ak a7 (pv 1) af) (aM (bQ K) (by rfl) T.bv PyProof.Rows.Boot.«len» (aa (pv 3) ad))) ad))))
  (wg (aW (PW.pt (ik (aF cb (pv 4) af (aB _)) (ik (i9 K (pv 3)) (jT (aF gF (aP (bq K) (pv 3) (dC dF af) (λ _ _=>rfl)) bx (aB _)))))) (ap (aD (i:=6) sc_l_values.nd rfl (Or.inl rfl) (aM (tI rfl) (by rfl) T.gB PyProof.Rows.Boot.«max» (aa (dC dF af) (aa (aM (zau rfl) (by rfl) T.gC PyProof.Rows.Boot.«min» (aa af (aa (ak bK (ak a7 (aP (bq K) (pv 3) (dC dF af) (λ _ _=>rfl)) (ak cE (ak dJ (pv 5) af) af)) af) ad))) ad)))))
   a8)
  (wg (aW (PW.pt (ik (aF cb (pv 4) af (aB _)) (ik (i9 K (pv 3)) (jT (aF dU (ak cE (pv 5) af) af (aB _)))))) (ap (aD (i:=6) sc_l_values.nd rfl (Or.inl rfl) (aP (bq K) (pv 3) (ak cE (ak dJ (pv 5) af) (aM (bQ K) (by rfl) T.bv PyProof.Rows.Boot.«len» (aa (pv 3) ad))) (λ _ _=>rfl))))
   a8)
  (ap (aD (i:=3) sc_l_values.nd rfl (Or.inl rfl) (ak fP (pv 3) (ak jO (bR (aa (pv 6) ad)) (c6 (aF cb (pv 4) af (aB _)) (aP (bq K) (bR (aa af (aa af (aa af (aa af ad))))) (ak cE (ak dJ (pv 5) af) af) (λ _ _=>rfl)) af))))))))))
  (ap (ay (d0 (gk K) (pv 3) fB (cY (pv 2)))))))),?_⟩
  refine ⟨aO rfl,?_⟩;intro l hl;have s1:Same H (upd H l (.lst [])):=Same.new hl;have hS1:=s1.seq hS;refine ⟨_,rfl,_,rfl,_,_,_,rfl,‹_›,_,_,rfl,rfl,by omega,?_⟩;refine ka (λ σ H'=>∃ (l:Addr) (xs:List OI) (v5 v6:Option V),σ=[some (.ref p),some (.int k),some (.int most),some (.ref l),some (.int (mix ns k % 4)),v5,v6]/\Same H H'/\H' l=some (.lst (xs.map ov))/\xs.all okV=true/\xs.length<=most+7)
   (λ σ H'=>match σ with | [_,_,_,some (.ref l),_,_,_]=>most - i0 H' l | _=>0) ⟨l,[],none,none,rfl,s1,ag,rfl,by simp⟩ ?_
  rintro m σ H2 hm2 ⟨l,xs,v5,v6,rfl,s2,h2,ok,hx⟩;have hm2:m=most - xs.length:=by rw [hm2];show most - i0 H2 l=_;unfold i0;rw [h2];simp
  have hS2:=s2.seq hS;refine ⟨_,rfl,_,_,rfl,Or.inl (SqL.of ‹_›),_,rfl,_,rfl,_,_,rfl,rfl,_,_,_,rfl,‹_›,_,rfl,_,_,rfl,rfl,_,_,rfl,rfl,by omega,_,_,rfl,rfl,_,rfl,?_⟩;rw [ae];have b1:=Int.emod_nonneg (mix ns (k+1)) (b:=(most:Int)+1) (by omega);have b2:=Int.emod_lt_of_pos (mix ns (k+1)) (b:=(most:Int)+1) (by omega);refine g9 (λ hc=>?_) (λ hc=>?_)
  ·have hc:(xs.length:Int) < mix ns (k+1) % ((most:Int)+1):=of_decide_eq_true hc;have hlt:xs.length < most:=by omega
   refine ⟨_,wN,?_⟩;refine ⟨_,rfl,_,rfl,_,_,rfl,rfl,_,rfl,_,_,rfl,Or.inl (SqL.of ‹_›),_,_,rfl,rfl,_,_,_,rfl,‹_›,_,rfl,_,rfl,_,_,rfl,rfl,_,rfl,_,_,rfl,Or.inl (SqL.of ‹_›),_,_,rfl,rfl,_,_,_,rfl,‹_›,?_⟩;intro o H3 oo s3;have h3:=s3 _ _ h2;have hl3:(xs.map ov).length=xs.length:=ae _;generalize mix ns (k+2+(xs.map ov).length)=nb;have wd:∀ (o:OI),okV o=true->Bx (∃ o':OI,okV o'=true/\H3=H3/\([some (.ref p),some (.int k),some (.int most),some (.ref l),some (.int (mix ns k % 4)),some (.int nb),some (ov o)]:St)=[some (.ref p),some (.int k),some (.int most),some (.ref l),some (.int (mix ns k % 4)),some (.int nb),some (ov o')]):=λ o h=>⟨o,h,rfl,rfl⟩
   refine ⟨λ σ' H'=>Bx (∃ o:OI,okV o=true/\H3=H'/\σ'=[some (.ref p),some (.int k),some (.int most),some (.ref l),some (.int (mix ns k % 4)),some (.int nb),some (ov o)]),?_,?_⟩
   ·refine ⟨_,rfl,rfl,_,rfl,?_⟩;refine g9 (λ c1=>?_) (λ c1=>au (wd o oo));refine ⟨_,rfl,_,_,rfl,SqL.of ‹_›,?_⟩;rcases List.eq_nil_or_concat xs with rfl | ⟨ys,y,rfl⟩
    ·exact au (au (wd o oo))
    ·rw [show (!(List.map ov (ys.concat y)).isEmpty)=true by simp];refine aA ?_;have hat:atI ((ys.concat y).map ov) (-1)=some (ov y):=by
      rw [List.concat_eq_append,aE];exact kE _ _
     refine ⟨_,rfl,_,rfl,_,_,_,_,rfl,rfl,SqL.of ‹_›,‹_›,rfl,_,rfl,?_⟩;cases y with
     | none=>exact au (wd o oo)
     | some y=>
      refine aA ?_;refine ⟨_,rfl,_,rfl,_,rfl,_,_,_,_,rfl,rfl,SqL.of ‹_›,‹_›,_,rfl,_,_,rfl,rfl,⟨by decide,by decide⟩,_,_,rfl,rfl,by omega,_,_,rfl,rfl,_,_,rfl,rfl,_,_,rfl,_,_,rfl,?_⟩;refine wd (some _) ?_;simp only [okV,decide_eq_true_eq]
      split <;> split <;> omega
   ·rintro σ4 H4 ⟨o1,oo1,rfl,rfl⟩;refine ⟨λ σ' H'=>Bx (∃ o:OI,okV o=true/\H3=H'/\σ'=[some (.ref p),some (.int k),some (.int most),some (.ref l),some (.int (mix ns k % 4)),some (.int nb),some (ov o)]),?_,?_⟩
    ·refine ⟨_,rfl,rfl,_,rfl,?_⟩;refine g9 (λ c1=>?_) (λ c1=>au (wd o1 oo1));refine ⟨_,rfl,_,_,rfl,SqL.of ‹_›,?_⟩;cases xs with
     | nil=>exact au (au (wd o1 oo1))
     | cons x xs=>
      refine aA ?_;refine ⟨_,rfl,_,_,rfl,rfl,by omega,_,_,rfl,rfl,_,rfl,?_⟩;refine g9 (λ c2=>?_) (λ c2=>(wd o1 oo1));have hpos:(0:Int) < ((x::xs).map ov).length:=by rw [ae,bY];omega
      have m0:=Int.emod_nonneg (nb / 16) (b:=(((x::xs).map ov).length:Int)) (by omega);have m1:=Int.emod_lt_of_pos (nb / 16) hpos;have hi:(nb / 16 % (((x::xs).map ov).length:Int)).toNat < (x::xs).length:=by rw [← ae (f:=ov) (as:=x::xs)];omega
      refine ⟨_,rfl,_,rfl,_,_,rfl,rfl,⟨by decide,by decide⟩,_,rfl,l,_,rfl,.inl (SqL.of h3),_,_,rfl,rfl,hpos,l,_,_,ov (x::xs)[(nb / 16 % (((x::xs).map ov).length:Int)).toNat],rfl,rfl,SqL.of h3,bP m0 ?_,wd _ (al_ae.mp ok _ (List.getElem_mem _))⟩;rw [aH,aG hi];rfl
    ·rintro σ4 H4 ⟨o2,oo2,rfl,rfl⟩;clear wd
     -- how often
     have wr:∀ (r:Int) (H5:Hp) (l5:Addr),1<=r->r<=7->Same H3 H5->H5 l5=some (.lst [ov o2])->l≠l5->
       ww (.ref l5) (.int r) H5 λ v5 H6=>lI (.ref l) v5 H6 λ v H7=>(λ (σ':St) (H':Hp)=>(∃ (l:Addr) (xs:List OI) (v5 v6:Option V),σ'=[some (.ref p),some (.int k),some (.int most),some (.ref l),some (.int (mix ns k % 4)),v5,v6]/\Same H H'/\H' l=some (.lst (xs.map ov))/\xs.all okV=true/\xs.length<=most+7)/\
        (match σ' with | [_,_,_,some (.ref l),_,_,_]=>most - i0 H' l | _=>0) < m) [some (.ref p),some (.int k),some (.int most),some v,some (.int (mix ns k % 4)),some (.int nb),some (ov o2)] H7:=by
      intro r H5 l5 r1 r7 s5 h5 n5;refine ⟨l5,r,_,rfl,rfl,h5,by omega,by omega,?_,λ p6 hp6=>?_⟩
      ·rw [d5,Nat.one_mul];exact Nat.le_trans (show r.toNat<=7 by omega) (by decide)
      ·have er:(List.replicate r.toNat [ov o2]).flatten=(List.replicate r.toNat o2).map ov:=by simp
       rw [er];have h56:=s5 _ _ h3;have n6:l≠p6:=aI h56 hp6;refine ⟨l,p6,_,_,rfl,rfl,by rw [aj n6];exact h56,ag,?_,λ p7 hp7=>?_⟩
       ·rw [ae,ae,d7];exact aX (small1000' (by omega))
       ·have s7:Same H (upd (upd H5 p6 (.lst ((List.replicate r.toNat o2).map ov))) p7 (.lst (xs.map ov++(List.replicate r.toNat o2).map ov))):=aJ (aJ ((s2.trans s3).trans s5) hp6) hp7;have e7:xs.map ov++(List.replicate r.toNat o2).map ov=(xs++List.replicate r.toNat o2).map ov:=by rw [aE]
        refine ⟨⟨p7,xs++List.replicate r.toNat o2,_,_,rfl,s7,by rw [ag,e7],?_,?_⟩,?_⟩
        ·rw [List.all_append,ok,Bool.true_and,al_ae];intro z hz;rw [(List.mem_replicate.mp hz).2];exact oo2
        ·rw [bn,d7];omega
        ·show most - i0 _ p7 < m;unfold i0;rw [ag];simp only [bn,ae,d7];omega
     refine ⟨_,rfl,_,rfl,aO rfl,λ l5 hl5=>?_⟩;have n5:l≠l5:=aI h3 hl5;refine ⟨_,rfl,rfl,_,rfl,g9 (λ c3=>?_) (λ c3=>?_)⟩
     ·refine ⟨by decide,λ l6 hl6=>?_⟩;have n56:l5≠l6:=aI ag hl6;have q0:=Int.emod_nonneg (nb / 4096) (b:=4) (by decide);have q1:=Int.emod_lt_of_pos (nb / 4096) (b:=4) (by decide);have:∃ r:Int,1<=r/\r<=7/\([.int 1,.int 1,.int 3,.int 7]:List V)[(nb / 4096 % 4).toNat]?=some (.int r):=by
       have hz:(nb / 4096 % 4).toNat < 4:=by omega
       generalize (nb / 4096 % 4).toNat=z at hz ⊢
       match z,hz with
       | 0,_=>exact ⟨1,by decide,by decide,rfl⟩
       | 1,_=>exact ⟨1,by decide,by decide,rfl⟩
       | 2,_=>exact ⟨3,by decide,by decide,rfl⟩
       | 3,_=>exact ⟨7,by decide,by decide,rfl⟩
       | (z+4),h=>omega
      obtain ⟨r,r1,r7,hr'⟩:=this;refine ⟨_,rfl,_,_,rfl,rfl,⟨by decide,by decide⟩,_,_,rfl,rfl,by show (0:Int) < 4;decide,l6,_,_,_,rfl,rfl,SqL.of ag,bP q0 hr',?_⟩;exact wr r _ l5 r1 r7 (aJ (Same.new hl5) hl6) (by rw [aj n56];exact ag) n5
     ·exact wr 1 _ l5 (by decide) (by decide) (Same.new hl5) ag n5
  ·-- found[:most]
   refine ⟨_,rfl,?_⟩;refine ⟨_,rfl,_,rfl,_,_,rfl,SqL.of ‹_›,?_⟩;intro l2 hl2;have s3:Same H (upd H2 l2 (.lst ((xs.take most).map ov))):=aJ s2 hl2;refine q l2 _ (xs.take most) (by rw [cut_take];exact s3) (s2.free hl2) (by rw [cut_take];exact ag) (by rw [bc];omega) ?_;rw [al_ae] at ok ⊢;exact λ x hx=>ok x (List.mem_of_mem_take hx)
theorem uc(xs:List OI):∀ n,dif xs (n+1)<=n
 | 0=>by simp [dif]
 | n+1=>by
  have:=uc xs n;rw [dif]
  split <;> omega
theorem fS(xs:List OI):∀ n,(stp xs (n+1)).length=n
 | 0=>by simp [stp]
 | n+1=>by
  have:=fS xs n;rw [stp,if_pos (by omega),bn,this];rfl
theorem js{i:Int}(h0:0<=i)(h1:i < xs.length):atI (xs.map ov) i=some (ov (at' xs i.toNat)):=by
 have h:i.toNat < xs.length:=by omega
 refine bP h0 ?_;rw [aH,aG h,at'_of (aG h)];rfl
inductive xr (K:W.Frag) (vs:List V) (H:Hp) (Q:VK) (_E:XK):Prop
 | i (p:Addr) (xs:List OI) (_:vs=[.ref p]) (_:SqL K H p (xs.map ov)) (_:xs.length<=1000) (_:∀ H',Same H H'->Q (.int (1+(dif xs xs.length:Nat))) H')
theorem zdE:(["_law_k", "_law_values_here"]:List Str).Nodup:=by decide +kernel
theorem zhL:aC ["_law_values_here"] ["_law_values_here"] (av qj):=by walk_at "sc"
theorem zeT(T:Txt K mg t)(F:Fun K "_law_runs" "_law_runs" qj f fd):FnOk P w K mg base CX0 1 f fd ["_law_values_here"] (xr K):=by
 refine F.ok zhL (λ vs H Q E h=>?_) (λ cdv A outer s H vs Q E hr h=>?_)
 ·obtain ⟨p,xs,rfl,_⟩:=h;rfl
 ·obtain ⟨p,xs,rfl,hS,hl,q⟩:=h;have el:(xs.map ov).length=xs.length:=ae _;refine ⟨_,(ap (ay (ak a7 af (aM (bQ K) (by rfl) T.bv PyProof.Rows.Boot.«len» (aa (cn (N:=["_law_k", "_law_values_here"]) (fr:=[none,some 0]) ⟨rfl,rfl,rfl,rfl,rfl,rfl⟩ rfl (lB (by rfl) T.dB (aa af (aa (aM (bQ K) (by rfl) T.bv PyProof.Rows.Boot.«len» (aa (pv 0) ad)) ad)))
    (λ C fp s H=>⟨aR (i:=0) zdE rfl (Or.inl rfl),(fz (aF dW (aP (bq K) (pv 1) (pv 0) (λ _ _=>rfl)) (aP (bq K) (pv 1) (ak bK (pv 0) af) (λ _ _=>rfl)) (aB _))),(pv 0)⟩)) ad))))),?_⟩
  refine ⟨_,rfl,_,_,rfl,Or.inl ‹_›,_,_,rfl,by omega,?_⟩;refine ⟨fJ (λ i acc H'=>Same H H'/\acc.length=dif xs (i+1)) ⟨Same.refl _,rfl⟩ (λ i acc H' hi hp=>by have:=uc xs i;omega) (aX (aY (by omega))) ?_ ?_⟩
  ·rintro i acc H' hi ⟨s1,ha⟩;have hS1:=s1.seq hS;have a1:atI (xs.map ov) (1+(i:Int))=some (ov (at' xs (i+1))):=by
    rw [js (by omega) (by omega),show (1+(i:Int)).toNat=i+1 by omega]
   have a2:atI (xs.map ov) (1+(i:Int) - 1)=some (ov (at' xs i)):=by
    rw [js (by omega) (by omega),show (1+(i:Int) - 1).toNat=i by omega]
   refine ⟨Wk.set rfl,?_⟩;refine ⟨_,rfl,_,rfl,_,_,_,_,rfl,rfl,‹_›,‹_›,_,rfl,_,rfl,_,_,rfl,rfl,_,_,_,_,rfl,rfl,‹_›,‹_›,lw _ _,_,rfl,?_⟩;rw [oE];have e1:dif xs (i+1+1)=dif xs (i+1)+(if 1<=i+1/\at' xs (i+1)≠at' xs i then 1 else 0):=rfl;by_cases c:at' xs (i+1)=at' xs i
   ·rw [aV c];refine au (cw hi ⟨s1,?_⟩);rw [e1,if_neg (λ z=>z.2 c)];exact ha
   ·rw [aU c];refine aA ⟨_,rfl,cw hi ⟨s1,?_⟩⟩;rw [e1,if_pos ⟨by omega,c⟩,bn,ha];rfl
  ·rintro acc H' ⟨s1,ha⟩ l hl2;refine ⟨l,_,rfl,.inl (SqL.of ag),_,_,rfl,rfl,?_⟩;have:acc.length=dif xs xs.length:=by
    rw [ha];cases hx:xs.length with
    | zero=>rw [el,hx];simp [dif]
    | succ n=>
     rw [el,hx]
     congr 1
     omega
   rw [this];exact q _ (aJ s1 hl2)
inductive xm (K:W.Frag) (vs:List V) (H:Hp) (Q:VK) (_E:XK):Prop
 | i (p:Addr) (xs:List OI) (_:vs=[.ref p]) (_:SqL K H p (xs.map ov)) (_:xs.length<=1000) (_:∀ (l:Addr) H',Same H H'->H l=none->H' l=some (.lst ((fst xs xs.length).map ov))->Q (.ref l) H')
theorem zdA:(["_law_k", "_law_values_here"]:List Str).Nodup:=by decide +kernel
theorem zhJ:aC ["_law_values_here"] ["_law_values_here"] (av p5):=by walk_at "sc"
theorem uL(o:OI)(xs:List OI):inV (ov o) (xs.map ov)=decide (o∈xs):=by
 unfold inV;induction xs with
 | nil=>simp
 | cons a r ih=>
  rw [bE,List.any_cons,ih,oF];by_cases e:a=o
  ·simp [e]
  ·have:¬ o=a:=λ z=>e z.symm;simp [e,this]
theorem zeN(T:Txt K mg t)(F:Fun K "_law_book" "_law_book" p5 f fd):FnOk P w K mg base CX0 1 f fd ["_law_values_here"] (xm K):=by
 refine F.ok zhJ (λ vs H Q E h=>?_) (λ cdv A outer s H vs Q E hr h=>?_)
 ·obtain ⟨p,xs,rfl,_⟩:=h;rfl
 ·obtain ⟨p,xs,rfl,hS,hl,q⟩:=h;have el:(xs.map ov).length=xs.length:=ae _;refine ⟨_,(ap (ay (cn (N:=["_law_k", "_law_values_here"]) (fr:=[none,some 0]) ⟨rfl,rfl,rfl,rfl,rfl,rfl⟩ rfl (fi (by rfl) T.dB (aa (aM (bQ K) (by rfl) T.bv PyProof.Rows.Boot.«len» (aa (pv 0) ad)) ad))
    (λ C fp s H=>⟨aR (i:=0) zdA rfl (Or.inl rfl),(fz (aF (zfO K) (aP (bq K) (pv 1) (pv 0) (λ _ _=>rfl)) (d0 (gk K) (pv 1) fB (cY (pv 0))) (by rfl))),(aP (bq K) (pv 1) (pv 0) (λ _ _=>rfl))⟩)))),?_⟩
  refine ⟨_,rfl,_,_,rfl,Or.inl ‹_›,_,rfl,by omega,by omega,?_⟩;refine ⟨fJ (λ i acc H'=>Same H H'/\acc=(fst xs i).map ov) ⟨Same.refl _,rfl⟩ (λ i acc H' hi hp=>by rw [hp.2,ae];exact jC xs i) (aX (aY (by omega))) ?_ ?_⟩
  ·rintro i acc H' hi ⟨s1,rfl⟩;have hS1:=s1.seq hS;have a1:atI (xs.map ov) (0+(i:Int))=some (ov (at' xs i)):=by
    rw [js (by omega) (by omega),show (0+(i:Int)).toNat=i by omega]
   have e0:(0+(i:Int))=(i:Int):=Int.zero_add _;refine ⟨Wk.set rfl,?_⟩;refine ⟨_,rfl,_,rfl,_,_,_,_,rfl,rfl,‹_›,‹_›,_,rfl,_,rfl,_,rfl,_,_,rfl,‹_›,?_⟩;intro l3 hl3;have s2:Same H' (upd H' l3 (.lst ((xs.take i).map ov))):=Same.new hl3;have a2:atI (xs.map ov) (i:Int)=some (ov (at' xs i)):=e0 ▸ a1;rw [e0,cut_take];refine ⟨l3,_,rfl,.inl (SqL.of ag),oG _,lx _,_,rfl,?_⟩;rw [if_pos rfl,uL];by_cases c:at' xs i∈xs.take i
   ·rw [aV c];refine au (cw hi ⟨s1.trans s2,?_⟩);rw [jD,if_pos c]
   ·rw [aU c];refine aA ⟨_,rfl,_,rfl,p,_,_,_,rfl,rfl,s2.seq hS1,a2,cw hi ⟨s1.trans s2,?_⟩⟩;rw [jD,if_neg c,aE];rfl
  ·rintro acc H' ⟨s1,rfl⟩ l hl2;have e:((xs.map ov).length:Int).toNat=xs.length:=by omega
   rw [e];exact q l _ (aJ s1 hl2) (s1.free hl2) ag
theorem getD_at'(h:i < xs.length):xs[i]?=some (at' xs i):=by
 rw [aG h,at'_of (aG h)]
theorem zF(hv:v∈xs):0<=above ((bH (aN xs)).getD 0) v:=by
 cases v with
 | none=>simp [above]
 | some i=>
  obtain ⟨m,hm⟩:∃ m,bH (aN xs)=some m:=by
   cases e:aN xs with
   | nil=>have:=mem_somes.mpr hv;rw [e] at this;cases this
   | cons x r=>exact ⟨_,rfl⟩
  have:=gf hm i (mem_somes.mpr hv);simp [above,hm];omega
theorem qZ(hn : .none∉xs)(h:i < xs.length):∃ a,at' xs i=some a:=by
 cases e:at' xs i with
 | none=>
  have:xs[i]?=some .none:=by rw [getD_at' h,e]
  exact absurd (cR this) hn
 | some a=>exact ⟨a,rfl⟩
inductive xk (K:W.Frag) (vs:List V) (H:Hp) (Q:VK) (_E:XK):Prop
 | i (p:Addr) (xs:List OI) (_:vs=[.ref p]) (_:SqL K H p (xs.map ov)) (_:xs.length<=1000) (_:∀ (l:Addr) H',Same H H'->H l=none->H' l=some (.lst ((xs.map (above ((bH (aN xs)).getD 0))).map V.int))->Q (.ref l) H')
theorem zdw:(["_law_value_here"]:List Str).Nodup:=by decide +kernel
theorem zdx:(["_law_value_here", "_law_some"]:List Str).Nodup:=by decide +kernel
theorem sc_l_above:aC ["_law_values_here", "_law_some"] ["_law_values_here"] (av pY):=by walk_at "sc"
theorem zeL(T:Txt K mg t)(F:Fun K "_law_above" "_law_above" pY f fd):FnOk P w K mg base CX0 1 f fd ["_law_values_here"] (xk K):=by
 refine F.ok sc_l_above (λ vs H Q E h=>?_) (λ cdv A outer s H vs Q E hr h=>?_)
 ·obtain ⟨p,xs,rfl,_⟩:=h;rfl
 ·obtain ⟨p,xs,rfl,hS,hl,q⟩:=h;have el:(xs.map ov).length=xs.length:=ae _;refine ⟨_,(ah (aD (i:=1) sc_l_above.nd rfl (Or.inr rfl) (cn (N:=["_law_value_here"]) (fr:=[none]) ⟨rfl,rfl,rfl,rfl,rfl,rfl⟩ rfl (bN (pv 0))
    (λ C fp s H=>⟨aR (i:=0) zdw rfl (Or.inl rfl),(fz (aF gF (pv 0) bx (aB _))),(pv 0)⟩)))
  (ap (ay (cn (N:=["_law_value_here", "_law_some"]) (fr:=[none,some 1]) ⟨rfl,rfl,rfl,rfl,rfl,rfl⟩ rfl (bN (pv 0))
    (λ C fp s H=>⟨aR (i:=0) zdx rfl (Or.inl rfl),bS,(c6 (aF dL (pv 0) bx (aB _)) af (ak a7 (ak bK (pv 0) (aM (jv K rfl) (by rfl) T.gC PyProof.Rows.Boot.«min» (aa (pv 1) ad))) af))⟩))))),?_⟩
  refine ⟨_,rfl,_,rfl,⟨_,‹_›⟩,?_⟩;refine ⟨cD (xs:=xs.map ov) (λ i acc H'=>Same H H'/\acc=(aN (xs.take i)).map V.int) ⟨Same.refl _,rfl⟩ ?_ (aX (aY (by omega))) ?_ ?_⟩
  ·rintro i acc H' hi ⟨s1,rfl⟩;refine ⟨s1.seq hS,?_⟩;rw [ae];have h1:(aN (xs.take i)).length<=(xs.take i).length:=List.length_filterMap_le _ _;rw [bc] at h1;omega
  ·rintro i x acc H' hx hlt ⟨s1,rfl⟩;have hlt':i < xs.length:=by rwa [ae] at hlt
   rw [aH,getD_at' hlt'] at hx;cases hx;refine ⟨Wk.set rfl,?_⟩;refine ⟨_,rfl,rfl,_,rfl,?_⟩;cases e:at' xs i with
   | none=>
    refine au (cw hlt ⟨s1,?_⟩);rw [cB hlt',e,j0]
   | some z=>
    refine aA ⟨_,rfl,cw hlt ⟨s1,?_⟩⟩;rw [cB hlt',e,j3,aE];rfl
  ·rintro acc H' ⟨s1,rfl⟩ l hl2;rw [el,aZ];have s2:Same H (upd H' l (.lst ((aN xs).map V.int))):=aJ s1 hl2;have h2:(upd H' l (.lst ((aN xs).map V.int))) l=some (.lst ((aN xs).map V.int)):=ag;generalize upd H' l (.lst ((aN xs).map V.int))=H2 at s2 h2;have hS2:=s2.seq hS;refine ⟨_,rfl,_,rfl,⟨_,‹_›⟩,?_⟩;refine ⟨cD (xs:=xs.map ov) (λ i acc H'=>Same H2 H'/\acc=((xs.take i).map (above ((bH (aN xs)).getD 0))).map V.int) ⟨Same.refl _,rfl⟩ ?_ (aX (aY (by omega))) ?_ ?_⟩
   ·rintro i acc H3 hi ⟨s3,rfl⟩;refine ⟨s3.seq hS2,?_⟩;rw [ae,ae,bc];omega
   ·rintro i x acc H3 hx hlt ⟨s3,rfl⟩;have hlt':i < xs.length:=by rwa [ae] at hlt
    rw [aH,getD_at' hlt'] at hx;cases hx;have h3:=s3 _ _ h2;refine ⟨Wk.set rfl,tT ?_⟩;have fin:∀ v:Int,v=above ((bH (aN xs)).getD 0) (at' xs i)->∃ m',m' < (xs.map ov).length - i/\CW (xs.map ov).length (λ i acc H'=>Same H2 H'/\acc=((xs.take i).map (above ((bH (aN xs)).getD 0))).map V.int) (i+1) m' (((xs.take i).map (above ((bH (aN xs)).getD 0))).map V.int++[V.int v]) H3:=by
     intro v hv;refine cw hlt ⟨s3,?_⟩;rw [cB hlt',aE,aE,hv];rfl
    refine ⟨_,rfl,rfl,_,rfl,?_⟩;cases e:at' xs i with
    | none=>
     refine aA (fin _ ?_);rw [e];rfl
    | some z=>
     refine au ?_;have mz:some z∈xs:=by rw [← e];exact cR (getD_at' hlt')
     obtain ⟨m,hm⟩:∃ m,bH (aN xs)=some m:=by
      cases e2:aN xs with
      | nil=>have:=mem_somes.mpr mz;rw [e2] at this;cases this
      | cons x r=>exact ⟨_,rfl⟩
     have m1:=gA hm;have m2:=gf hm;refine ⟨_,rfl,_,rfl,l,aN xs,m,rfl,SqL.of h3,m1,m2,_,_,rfl,rfl,_,_,rfl,rfl,fin _ ?_⟩;rw [e,hm];rfl
   ·rintro acc H3 ⟨s3,rfl⟩ l3 hl3;rw [el,aZ];exact q l3 _ (aJ (s2.trans s3) hl3) ((s2.trans s3).free hl3) ag
inductive xt (K:W.Frag) (vs:List V) (H:Hp) (Q:VK) (_E:XK):Prop
 | i (p:Addr) (xs:List OI) (_:vs=[.ref p]) (_:SqL K H p (xs.map ov)) (_:xs.length<=1000) (_ : .none∉xs) (_:∀ (l:Addr) H',Same H H'->H l=none->H' l=some (.lst ((stp xs xs.length).map V.int))->Q (.ref l) H')
theorem sc_l_steps:aC ["_law_values_here", "_law_found", "_law_k", "_law_step"] ["_law_values_here"] (av qk):=by walk_at "sc"
theorem zeU(T:Txt K mg t)(F:Fun K "_law_steps" "_law_steps" qk f fd):FnOk P w K mg base CX0 1 f fd ["_law_values_here"] (xt K):=by
 refine F.ok sc_l_steps (λ vs H Q E h=>?_) (λ cdv A outer s H vs Q E hr h=>?_)
 ·obtain ⟨p,xs,rfl,_⟩:=h;rfl
 ·obtain ⟨p,xs,rfl,hS,hl,hn,q⟩:=h;have el:(xs.map ov).length=xs.length:=ae _;refine ⟨_,(ah (aD (i:=1) sc_l_steps.nd rfl (Or.inl rfl) (bR ad))
  (ah (eD PassesOwn.never rfl (lB (by rfl) T.dB (aa af (aa (aM (bQ K) (by rfl) T.bv PyProof.Rows.Boot.«len» (aa (pv 0) ad)) ad))) (aR (i:=2) sc_l_steps.nd rfl (Or.inl rfl))
   (ah (aD (i:=3) sc_l_steps.nd rfl (Or.inl rfl) (ak bK (aP (bq K) (pv 0) (pv 2) (λ _ _=>rfl)) (aP (bq K) (pv 0) (ak bK (pv 2) af) (λ _ _=>rfl))))
  (ap (ci (cu K PySem.F.plainAttrs_list PySem.F.slot_list_append PySem.F.type_list_append fe (pv 1) (aa (c6 (aF lu (pv 3) af (aB _)) (ak cX af (pv 3)) (ak bK (ak cX (dC dF af) (pv 3)) af)) ad))))))
  (ap (ay (pv 1))))),?_⟩
  refine ⟨aO rfl,?_⟩;intro l hln;have s0:Same H (upd H l (.lst [])):=Same.new hln;have hS0:=s0.seq hS;refine ⟨_,rfl,_,_,rfl,Or.inl ‹_›,_,_,rfl,by omega,?_⟩;refine ⟨iT (λ i σ H'=>∃ v2 v3:Option V,σ=[some (.ref p),some (.ref l),v2,v3]/\Same H H'/\H' l=some (.lst ((stp xs (i+1)).map V.int))) ⟨none,none,rfl,s0,ag⟩ ?_ ?_⟩
  ·rintro i σ H' hi ⟨v2,v3,rfl,s1,h1⟩;have hS1:=s1.seq hS;obtain ⟨a,ha⟩:=qZ hn (show i+1 < xs.length by omega);obtain ⟨b,hb⟩:=qZ hn (show i < xs.length by omega);have a1:atI (xs.map ov) (1+(i:Int))=some (V.int a):=by
    rw [js (by omega) (by omega),show (1+(i:Int)).toNat=i+1 by omega,ha];rfl
   have a2:atI (xs.map ov) (1+(i:Int) - 1)=some (V.int b):=by
    rw [js (by omega) (by omega),show (1+(i:Int) - 1).toNat=i by omega,hb];rfl
   have fin:∀ z:Int,z=bw (a - b)->wn (.ref l) [.int z] H' λ _ H2=>∃ v2 v3:Option V,([some (.ref p),some (.ref l),some (.int (1+(i:Int))),some (.int (a - b))]:St)=[some (.ref p),some (.ref l),v2,v3]/\Same H H2/\H2 l=some (.lst ((stp xs (i+1+1)).map V.int)):=by
    rintro z rfl;have e:stp xs (i+1+1)=stp xs (i+1)++[bw (a - b)]:=by
     have:stp xs (i+1+1)=if 1<=i+1 then stp xs (i+1)++[bw ((at' xs (i+1)).getD 0 - (at' xs i).getD 0)] else stp xs (i+1):=rfl
     rw [this,if_pos (by omega),ha,hb];rfl
    refine ⟨l,_,_,rfl,rfl,h1,?_,_,_,rfl,λ c o hc=>?_,?_⟩
    ·rw [ae,fS];exact aY (by omega)
    ·rw [aj (aI hc hln)];exact s1 c o hc
    ·rw [ag,e,aE];rfl
   refine ⟨_,rfl,_,rfl,_,_,_,_,rfl,rfl,‹_›,‹_›,_,rfl,_,rfl,_,_,rfl,rfl,_,_,_,_,rfl,rfl,‹_›,‹_›,_,_,rfl,rfl,_,rfl,Or.inl ⟨rfl,_,SqL.of ‹_›⟩,_,rfl,_,_,rfl,rfl,_,rfl,?_⟩;by_cases c:0<=a - b
   ·rw [aV c];refine aA ?_;refine ⟨_,rfl,_,_,rfl,rfl,.inl ⟨by decide,by decide⟩,fin _ (by unfold bw;first | rw [if_pos c] | rw [if_neg c])⟩
   ·rw [aU c];refine au ?_;refine ⟨_,rfl,_,rfl,_,_,rfl,rfl,.inl ⟨by decide,by decide⟩,_,_,rfl,rfl,fin _ (by unfold bw;first | rw [if_pos c] | rw [if_neg c])⟩
  ·rintro σ H' ⟨v2,v3,rfl,s1,h1⟩;refine ⟨_,rfl,q l H' s1 hln ?_⟩;rw [h1];cases hx:xs.length with
   | zero=>rw [el,hx];simp [stp]
   | succ n=>
    rw [el,hx,show (((n+1:Nat):Int) - 1).toNat=n by omega]
theorem zgT(h:0 < xs.length):(aq xs).runs=1+dif xs xs.length:=by
 have:=ziY (xs:=xs) (az xs.length);rw [aZ,if_neg (by omega)] at this;exact this
theorem zgQ(xs:List OI):(aq xs).book=fst xs xs.length:=by
 have:=lY (xs:=xs) xs.length (az _)
 rwa [aZ] at this
theorem zgR(xs:List OI):fM (aq xs)=iW xs:=by
 have:=x9 (xs:=xs) xs.length (az _);rw [aZ] at this;unfold fM iW;rw [this.1,this.2] <;> (cases bH (aN xs) <;> cases cJ (aN xs) <;> rfl)
theorem oQ(xs:List OI):(aq xs).none=true↔.none∈xs:=by
 have:=rZ (xs:=xs) xs.length (az _)
 rwa [aZ] at this
theorem zgU(h : .none∉xs):cJ (0::stp xs xs.length)=some (aq xs).widest:=by
 have:=zi0 (xs:=xs) xs.length (az _) (by rwa [aZ])
 rwa [aZ] at this
theorem zgS(h:0 < xs.length):cJ (xs.map (above ((bH (aN xs)).getD 0)))=some (iW xs):=zcQ (by intro z;rw [z] at h;cases h)
theorem zia(a:Str):decide (V.str a=V.str a)=true:=aV rfl
theorem nE(h:kindsS[j]?=some x):(j=0/\x = "plain")\/(j=1/\x = "runs")\/(j=2/\x = "book")\/(j=3/\x = "base")\/(j=4/\x = "steps"):=by
 match j,h with
 | 0,h=>exact .inl ⟨rfl,(bL h).symm⟩
 | 1,h=>exact .inr (.inl ⟨rfl,(bL h).symm⟩)
 | 2,h=>exact .inr (.inr (.inl ⟨rfl,(bL h).symm⟩))
 | 3,h=>exact .inr (.inr (.inr (.inl ⟨rfl,(bL h).symm⟩)))
 | 4,h=>exact .inr (.inr (.inr (.inr ⟨rfl,(bL h).symm⟩)))
 | (j+5),h=>cases h
def rm(xs:List OI)(j:Nat):OI:=(bd (aq xs)).getD j .none
inductive xq (K:W.Frag) (vs:List V) (H:Hp) (Q:VK) (_E:XK):Prop
 | i (p:Addr) (xs:List OI) (x:Str) (j:Nat) (_:vs=[.str x,.ref p]) (_:SqL K H p (xs.map ov)) (_:xs.length<=1000) (_:0 < xs.length) (_:kindsS[j]?=some x) (_:∀ H',Same H H'->Q (ov (rm xs j)) H')
theorem sc_l_room:aC ["_law_kind", "_law_values_here", "_law_many", "_law_words"] ["_law_kind", "_law_values_here"] (av qi):=by walk_at "sc"
theorem zeS(T:Txt K mg t)(C__law_runs:Cal P w K mg base CX0 1 "_law_runs" ["_law_values_here"] (xr K))(C__law_book:Cal P w K mg base CX0 1 "_law_book" ["_law_values_here"] (xm K))(C__law_above:Cal P w K mg base CX0 1 "_law_above" ["_law_values_here"] (xk K))(C__law_steps:Cal P w K mg base CX0 1 "_law_steps" ["_law_values_here"] (xt K))(C__law_need:Cal P w K mg base CX0 1 "_law_need" ["_law_number"] xo)(F:Fun K "_law_room" "_law_room" qi f fd):FnOk P w K mg base CX0 3 f fd ["_law_kind", "_law_values_here"] (xq K):=by
 refine F.ok sc_l_room (λ vs H Q E h=>?_) (λ cdv A outer s H vs Q E hr h=>?_)
 ·obtain ⟨p,xs,x,j,rfl,_⟩:=h;rfl
 ·obtain ⟨p,xs,x,j,rfl,hS,hl,h0,hj,q⟩:=h;have el:(xs.map ov).length=xs.length:=ae _;have tl:=lZ xs;have fo:=lx xs;refine ⟨_,(ah (aD (i:=2) sc_l_room.nd rfl (Or.inl rfl) (aM (bQ K) (by rfl) T.bv PyProof.Rows.Boot.«len» (aa (pv 1) ad)))
  (ah (aW (aF cb (pv 0) aQ (aB _)) (ap (ay (ak a7 af (ak cX af (pv 2)))))
   a8)
  (ah (aW (aF cb (pv 0) aQ (aB _)) (ap (ay (ak a7 af (ak cX af (C__law_runs.pe hr ax (aa (pv 1) ad))))))
   a8)
  (ah (aW (aF cb (pv 0) aQ (aB _)) (ah (aD (i:=3) sc_l_room.nd rfl (Or.inl rfl) (aM (bQ K) (by rfl) T.bv PyProof.Rows.Boot.«len» (aa (C__law_book.pe hr ax (aa (pv 1) ad)) ad)))
  (ap (ay (c6 (aF dU (pv 3) af (aB _)) bx (ak a7 (ak a7 af (ak cX af (pv 3))) (ak cX (pv 2) (C__law_need.pe hr ax (aa (ak bK (pv 3) af) ad))))))))
   a8)
  (ah (aW (aF cb (pv 0) aQ (aB _)) (ap (ay (ak a7 af (ak cX (pv 2) (C__law_need.pe hr ax (aa (aM (ju K rfl) (by rfl) T.gB PyProof.Rows.Boot.«max» (aa (C__law_above.pe hr ax (aa (pv 1) ad)) ad)) ad))))))
   a8)
  (ah (aW (aF (jN K) bx (pv 1) (by rfl)) (ap (ay bx))
   a8)
  (ap (ay (ak a7 af (ak cX (ak bK (pv 2) af) (C__law_need.pe hr ax (aa (aM (ju K rfl) (by rfl) T.gB PyProof.Rows.Boot.«max» (aa (ak fP (bR (aa af ad)) (C__law_steps.pe hr ax (aa (pv 1) ad))) ad)) ad)))))))))))),?_⟩
  refine ⟨_,rfl,_,_,rfl,Or.inl ‹_›,_,rfl,rfl,_,rfl,?_⟩;rw [el];rcases nE hj with ⟨rfl,rfl⟩ | ⟨rfl,rfl⟩ | ⟨rfl,rfl⟩ | ⟨rfl,rfl⟩ | ⟨rfl,rfl⟩
  ·refine ⟨_,rfl,_,_,rfl,rfl,Or.inl ⟨by decide,by decide⟩,_,_,rfl,rfl,?_⟩;have e:rm xs 0=some (11+24 * (xs.length:Int)):=by
    show some (3+8+24 * ((aq xs).length:Int))=_;rw [tl];congr 1
   have:=q H (Same.refl H);rw [e] at this;exact this
  ·refine ⟨_,rfl,rfl,_,rfl,_,rfl,_,_,rfl,‹_›,‹_›,?_⟩;intro H' s1;refine ⟨_,_,rfl,rfl,Or.inl ⟨by decide,by decide⟩,_,_,rfl,rfl,?_⟩;have e:rm xs 1=some (19+32 * (1+(dif xs xs.length:Nat))):=by
    show some (3+8+(8+(24+8) * ((aq xs).runs:Int)))=_;rw [zgT h0];congr 1;omega
   have:=q H' s1;rw [e] at this;exact this
  ·refine ⟨_,rfl,rfl,_,rfl,_,rfl,rfl,_,rfl,_,rfl,_,_,rfl,‹_›,‹_›,?_⟩;intro l H' s1 hln h1;refine ⟨_,_,rfl,Or.inl (SqL.of ‹_›),_,rfl,_,_,rfl,rfl,_,rfl,?_⟩;rw [ae];have fl:=jC xs xs.length;have e:rm xs 2=if 64 < (fst xs xs.length).length then .none else some (17+24 * ((fst xs xs.length).length:Int)+(xs.length:Int) * (aK ((fst xs xs.length).length - 1):Int)):=by
    show fD (if 64 < (aq xs).book.length then .none else some (6+24 * ((aq xs).book.length:Int)+(aK ((aq xs).book.length - 1):Int) * (aq xs).length))=_;rw [zgQ,tl]
    split
    ·rfl
    ·show some _=some _
     congr 1
     rw [Int.mul_comm (xs.length:Int)];omega
   have:=q H' s1;rw [e] at this;by_cases c:64 < (fst xs xs.length).length
   ·rw [if_pos c] at this;rw [aV (show (64:Int) < ((fst xs xs.length).length:Int) by omega)];exact aA this
   ·rw [if_neg c] at this;rw [aU (show ¬ (64:Int) < ((fst xs xs.length).length:Int) by omega)];refine au ?_;refine ⟨_,rfl,_,_,rfl,rfl,.inl ⟨by decide,by decide⟩,_,_,rfl,rfl,_,rfl,_,rfl,_,_,rfl,rfl,_,rfl,_,_,rfl,rfl,.inl ⟨by omega,by omega⟩,_,_,rfl,rfl,?_⟩;have e2:(((fst xs xs.length).length:Int) - 1).toNat=(fst xs xs.length).length - 1:=by omega
    show Q _ _;rw [e2];exact this
  ·refine ⟨_,rfl,rfl,_,rfl,_,rfl,rfl,_,rfl,_,rfl,rfl,_,rfl,_,rfl,_,rfl,_,_,rfl,‹_›,‹_›,?_⟩;intro l H' s1 hln h1;have hm:=zgS h0;refine ⟨l,_,iW xs,rfl,SqL.of h1,gy hm,i3 hm,_,rfl,_,_,rfl,rfl,.inl ⟨by omega,by omega⟩,_,_,rfl,rfl,?_⟩;have e:rm xs 3=some (40+(xs.length:Int) * (aK (iW xs).toNat:Int)):=by
    show some (3+8+(24+5+(aK (fM (aq xs)).toNat:Int) * ((aq xs).length:Int)))=_;rw [zgR,tl];congr 1;rw [Int.mul_comm (xs.length:Int)];omega
   have:=q H' s1;rw [e] at this;exact this
  ·refine ⟨_,rfl,rfl,_,rfl,_,rfl,rfl,_,rfl,_,rfl,rfl,_,rfl,_,rfl,_,_,rfl,Or.inl ‹_›,rfl,‹_›,_,rfl,?_⟩;have e0:inV V.non (xs.map ov)=decide (.none∈xs):=uL .none xs;rw [if_neg bC,e0];by_cases c : .none∈xs
   ·rw [aV c];refine aA ?_;have e:rm xs 4 = .none:=by
     show fD (if (aq xs).none=true then .none else _)=_;rw [if_pos ((oQ xs).mpr c)];rfl
    have:=q H (Same.refl H);rw [e] at this;exact this
   ·rw [aU c];refine au ?_;refine ⟨_,rfl,_,_,rfl,rfl,aO rfl,?_⟩;intro l hln;have s1:Same H (upd H l (.lst [.int 0])):=Same.new hln;have hS1:=s1.seq hS;refine ⟨_,rfl,_,_,rfl,‹_›,‹_›,‹_›,?_⟩;intro l2 H2 s2 hl2 h2;have hm:=zgU c;have n12:l≠l2:=aI ag hl2;refine ⟨l,l2,_,_,rfl,rfl,s2 _ _ ag,h2,?_,λ l3 hl3=>?_⟩
    ·rw [ae];have:(stp xs xs.length).length<=1000:=by
      cases hx:xs.length with
      | zero=>simp [stp]
      | succ n=>rw [fS];omega
     exact aX (small1000' (show 1+(stp xs xs.length).length<=10000 by omega))
    ·refine ⟨l3,0::stp xs xs.length,(aq xs).widest,rfl,SqL.of ag,gy hm,i3 hm,_,rfl,_,_,rfl,rfl,.inl ⟨by omega,by omega⟩,_,_,rfl,rfl,?_⟩;have e:rm xs 4=some (40+((xs.length:Int) - 1) * (aK (aq xs).widest.toNat:Int)):=by
      show fD (if (aq xs).none=true then .none else some (24+5+(aK (aq xs).widest.toNat:Int) * (((aq xs).length:Int) - 1)))=_;rw [if_neg (λ z=>c ((oQ xs).mp z)),tl];show some _=some _
      congr 1
      rw [Int.mul_comm ((xs.length:Int) - 1)];omega
     rw [e] at q;exact q _ (aJ (s1.trans s2) hl3)
inductive xl (K:W.Frag) (vs:List V) (H:Hp) (Q:VK) (_E:XK):Prop
 | i (p:Addr) (xs:List OI) (_:vs=[.ref p]) (_:SqL K H p (xs.map ov)) (_:xs.length<=1000) (_:0 < xs.length) (_:∀ (l:Addr) H' (M:Int),Same H H'->bH (aN (bd (aq xs)))=some M->H' l=some (.tup [.str (kindsS.getD (bM xs) ""),.int M])->Q (.ref l) H')
theorem zdy:(["_law_kind", "_law_values_here"]:List Str).Nodup:=by decide +kernel
theorem zdz:(["_law_one"]:List Str).Nodup:=by decide +kernel
theorem sc_l_best:aC ["_law_values_here", "_law_kinds_here", "_law_rooms", "_law_least"] ["_law_values_here"] (av pZ):=by walk_at "sc"
theorem zeM(T:Txt K mg t)(C__law_room:Cal P w K mg base CX0 3 "_law_room" ["_law_kind", "_law_values_here"] (xq K))(F:Fun K "_law_best" "_law_best" pZ f fd):FnOk P w K mg base CX0 4 f fd ["_law_values_here"] (xl K):=by
 refine F.ok sc_l_best (λ vs H Q E h=>?_) (λ cdv A outer s H vs Q E hr h=>?_)
 ·obtain ⟨p,xs,rfl,_⟩:=h;rfl
 ·obtain ⟨p,xs,rfl,hS,hl,h0,q⟩:=h;obtain ⟨M,hM,hj,hno⟩:=m6 xs;refine ⟨_,(ah (aD (i:=1) sc_l_best.nd rfl (Or.inl rfl) (bR (aa aQ (aa aQ (aa aQ (aa aQ (aa aQ ad)))))))
  (ah (fk (i:=2) sc_l_best.nd rfl (Or.inl rfl) (N:=["_law_kind", "_law_values_here"]) (fr:=[none,some 0]) ⟨rfl,rfl,rfl,rfl,rfl,rfl⟩ rfl (bN (pv 1))
    (λ C fp s H=>⟨aR (i:=0) zdy rfl (Or.inl rfl),bS,(C__law_room.pe hr ax (aa (pv 0) (aa (pv 1) ad)))⟩))
  (ah (aD (i:=3) sc_l_best.nd rfl (Or.inl rfl) (aM (jv K rfl) (by rfl) T.gC PyProof.Rows.Boot.«min» (aa (cn (N:=["_law_one"]) (fr:=[none]) ⟨rfl,rfl,rfl,rfl,rfl,rfl⟩ rfl (bN (pv 2))
    (λ C fp s H=>⟨aR (i:=0) zdz rfl (Or.inl rfl),(fz (aF gF (pv 0) bx (aB _))),(pv 0)⟩)) ad)))
  (ap (ay (dM (aa (aP (bq K) (pv 1) (cu K PySem.F.plainAttrs_list PySem.F.slot_list_index PySem.F.type_list_index ou (pv 2) (aa (pv 3) ad)) (λ _ _=>rfl)) (aa (pv 3) ad)))))))),?_⟩
  refine ⟨aO rfl,?_⟩;intro l1 hl1;have s1:Same H (upd H l1 (.lst kindsV)):=Same.new hl1;have h1:(upd H l1 (.lst kindsV)) l1=some (.lst kindsV):=ag;have hS1:=s1.seq hS;show dS _ _ _ (upd H l1 (.lst kindsV)) _;generalize upd H l1 (.lst kindsV)=H1 at s1 h1 hS1;refine ⟨_,rfl,_,rfl,⟨_,SqL.of ‹_›⟩,?_⟩;have hr5:(bd (aq xs)).length=5:=rfl;refine ⟨cD (xs:=kindsV) (λ i acc H'=>Same H1 H'/\acc=((bd (aq xs)).take i).map ov) ⟨Same.refl _,rfl⟩ ?_ (by decide) ?_ ?_⟩
  ·rintro i acc H' hi ⟨s2,rfl⟩;refine ⟨SqL.of (s2 _ _ h1),?_⟩;rw [ae,bc];omega
  ·rintro i x acc H' hx hlt ⟨s2,rfl⟩;have hi5:i < 5:=hlt;have hS2:=s2.seq hS1;obtain ⟨z,hz,rfl⟩:∃ z,kindsS[i]?=some z/\x=V.str z:=by
    unfold kindsV at hx;rw [aH] at hx;cases e:kindsS[i]? with
    | none=>rw [e] at hx;cases hx
    | some z=>rw [e] at hx;exact ⟨z,rfl,(bL hx).symm⟩
   refine ⟨Wk.set rfl,tT ⟨_,rfl,_,rfl,p,xs,z,i,rfl,hS2,hl,h0,hz,λ H3 s3=>cw hlt ⟨s2.trans s3,?_⟩⟩⟩;rw [cB (by omega),aE];rfl
  ·rintro acc H2 ⟨s2,rfl⟩ l2 hl2;have e5:(bd (aq xs)).take kindsV.length=bd (aq xs):=List.take_of_length_le (az _);rw [e5];have s3:Same H1 (upd H2 l2 (.lst ((bd (aq xs)).map ov))):=aJ s2 hl2;have h3:(upd H2 l2 (.lst ((bd (aq xs)).map ov))) l2=some (.lst ((bd (aq xs)).map ov)):=ag;generalize upd H2 l2 (.lst ((bd (aq xs)).map ov))=H3 at s3 h3;refine ⟨_,rfl,_,rfl,⟨_,SqL.of ‹_›⟩,?_⟩;refine ⟨cD (xs:=(bd (aq xs)).map ov) (λ i acc H'=>Same H3 H'/\acc=(aN ((bd (aq xs)).take i)).map V.int) ⟨Same.refl _,rfl⟩ ?_ (by show 5<=sizeLine;decide) ?_ ?_⟩
   ·rintro i acc H' hi ⟨s4,rfl⟩;refine ⟨SqL.of (s4 _ _ h3),?_⟩;rw [ae];have h1:(aN ((bd (aq xs)).take i)).length<=((bd (aq xs)).take i).length:=List.length_filterMap_le _ _;rw [bc] at h1;omega
   ·rintro i x acc H' hx hlt ⟨s4,rfl⟩;have hlt':i < (bd (aq xs)).length:=by rwa [ae] at hlt
    rw [aH,getD_at' hlt'] at hx;cases hx;refine ⟨Wk.set rfl,?_⟩;refine ⟨_,rfl,rfl,_,rfl,?_⟩;cases e:at' (bd (aq xs)) i with
    | none=>
     refine au (cw hlt ⟨s4,?_⟩);rw [cB hlt',e,j0]
    | some z=>
     refine aA ⟨_,rfl,cw hlt ⟨s4,?_⟩⟩;rw [cB hlt',e,j3,aE];rfl
   ·rintro acc H4 ⟨s4,rfl⟩ l4 hl4;rw [ae,aZ];have s5:Same H3 (upd H4 l4 (.lst ((aN (bd (aq xs))).map V.int))):=aJ s4 hl4;refine ⟨l4,aN (bd (aq xs)),M,rfl,SqL.of ag,gA hM,gf hM,?_⟩;generalize upd H4 l4 (.lst ((aN (bd (aq xs))).map V.int))=H5 at s5;have h35:=s5 _ _ h3;have h15:=s5 _ _ (s3 _ _ h1);have hj5:bM xs < 5:=(al_gs.mp hj).1;refine ⟨_,rfl,_,rfl,.inl ⟨rfl,_,SqL.of h35⟩,_,rfl,l2,_,.int M,bM xs,rfl,rfl,h35,lx _,rfl,⟨ov (some M),by rw [aH,hj];rfl,by show eqV (.int M) (.int M)=true;simp [eqV]⟩,λ m z hm hz=>?_,?_⟩
    ·rw [aH] at hz;cases e:(bd (aq xs))[m]? with
     | none=>rw [e] at hz;cases hz
     | some z'=>
      rw [e] at hz;cases hz;show eqV (ov z') (ov (some M))=false;rw [oF];exact aU (hno m z' hm e)
    ·refine ⟨l1,kindsV,(bM xs:Int),.str (kindsS.getD (bM xs) ""),rfl,rfl,SqL.of h15,ef ?_,_,rfl,aO rfl,λ l6 hl6=>q l6 _ M ?_ hM ag⟩
     ·have hj':bM xs < kindsS.length:=hj5;unfold kindsV;rw [aH];simp [List.getD,hj']
     ·exact aJ ((s1.trans s3).trans s5) hl6
def fY(ys:List OI):Int:=(bH (aN (bd (aq ys)))).getD 0
theorem sP{ys:List OI}(h:bH (aN (bd (aq ys)))=some M):M=fY ys:=by unfold fY;rw [h];rfl
theorem zac(ys:List OI):bH (aN (bd (aq ys)))=some (fY ys):=by
 obtain ⟨M,h,_⟩:=wQ (y:=aq ys);rw [h,sP h]
def lr(xs:List OI)(b e:Nat):Int:=fY ((xs.drop b).take (e - b))
def ja(xs:List OI)(b:Nat):List Int:=(List.range (xs.length - b)).map λ k=>fY ((xs.drop b).take (k+1))
theorem zg0(hb:b < e)(he:e<=xs.length):(ja xs b)[e - b - 1]?=some (lr xs b e):=by
 unfold ja lr;rw [aH,List.getElem?_range (by omega)];simp only [Option.map_some];rw [show e - b - 1+1=e - b by omega]
def hW(l:List Int):Int:=(bH l).getD 0
theorem vn{l:List Int}(h:l≠[]):hW l∈l:=by
 obtain ⟨m,hm⟩:=jJ h;unfold hW;rw [hm];exact gA hm
theorem zcX{l:List Int}:∀ i∈l,hW l<=i:=λ i hi=>by
 obtain ⟨m,hm⟩:=jJ (List.ne_nil_of_mem hi);unfold hW;rw [hm];exact gf hm i hi
def prL(xs:List OI):Nat->List Int
 | 0=>[0]
 | k+1=>prL xs k++[hW ((List.range (k+1)).map λ b=>(prL xs k).getD b 0+lr xs b (k+1))]
theorem jQ(xs:List OI):∀ k,(prL xs k).length=k+1
 | 0=>rfl
 | k+1=>by rw [prL,bn,jQ xs k];rfl
def pr(xs:List OI)(j:Nat):Int:=(prL xs j).getD j 0
theorem oN(xs:List OI):∀ k j,j<=k->(prL xs k)[j]?=some (pr xs j)
 | 0,j,h=>by
  have:j=0:=by omega
  subst this;rfl
 | k+1,j,h=>by
  by_cases hj:j=k+1
  ·subst hj;unfold pr;have hl:k+1 < (prL xs (k+1)).length:=by rw [jQ];omega
   rw [aG hl];simp [List.getD,hl]
  ·have hl:j < (prL xs k).length:=by rw [jQ];omega
   rw [prL,List.getElem?_append_left hl];exact oN xs k j (by omega)
theorem v0(h:j<=k):(prL xs k).getD j 0=pr xs j:=by
 simp [List.getD,oN xs k j h]
theorem lG(xs:List OI)(k:Nat):pr xs (k+1)=hW ((List.range (k+1)).map λ b=>pr xs b+lr xs b (k+1)):=by
 have hl:(prL xs k).length=k+1:=jQ xs k;have e:pr xs (k+1)=hW ((List.range (k+1)).map λ b=>(prL xs k).getD b 0+lr xs b (k+1)):=by
  show (prL xs k++[_]).getD (k+1) 0=_;simp [List.getD,hl]
 rw [e]
 congr 1
 apply List.map_congr_left;intro b hb;rw [v0 (by have:=List.mem_range.mp hb;omega)]
theorem v8(xs:List OI)(h:0 < e):∃ b,b < e/\pr xs b+lr xs b e=pr xs e:=by
 obtain ⟨k,rfl⟩:∃ k,e=k+1:=⟨e - 1,by omega⟩
 have hm:pr xs (k+1)∈(List.range (k+1)).map λ b=>pr xs b+lr xs b (k+1):=by
  rw [lG];exact vn (by simp)
 obtain ⟨b,hb,e⟩:=List.mem_map.mp hm;exact ⟨b,List.mem_range.mp hb,e⟩
def okC(xs:List OI):Bool:=decide (xs.length<=64) && xs.all okV
theorem gD(h:okC xs=true):xs.length<=64:=by
 simp only [okC,Bool.and_eq_true,decide_eq_true_eq] at h;exact h.1
inductive w6 (K:W.Frag) (t:Ad) (vs:List V) (H:Hp) (Q:VK) (E:XK):Prop
 | i (p:Addr) (xs:List OI) (_:vs=[.ref p]) (_:SqL K H p (xs.map ov)) (_:xs.length<=1000) (_:(okC xs=true->∀ H',Same H H'->Q .non H')) (_:(okC xs=false->∀ H',Same H H'->E (.ref t.dQ) none H'))
theorem zhv:aC ["values"] ["values"] (av pJ):=by walk_at "sc"
theorem zes(T:Txt K mg t)(kd:Cal P w K mg base CX0 3 "are_values" ["values"] (rf K))(F:Fun K "check_column" "check_column" pJ f fd):FnOk P w K mg base (CXr P w) 4 f fd ["values"] (w6 K t):=by
 refine F.okX zhv (λ vs H Q E h=>?_) (λ cdv A outer s H vs Q E hr h=>?_)
 ·obtain ⟨p,xs,rfl,_⟩:=h;rfl
 ·obtain ⟨p,xs,rfl,hS,hl,k1,k2⟩:=h;have el:(xs.map ov).length=xs.length:=ae _;refine ⟨_,(ap (aW (PW.pt (dO (aF dU (aM (bQ K) (by rfl) T.bv PyProof.Rows.Boot.«len» (aa (pv 0) ad)) (bz T.zbd) (aB _)) (eN (eE (dE (kd.pe hr ax (aa (pv 0) ad))))))) (ap (fj fm T.yr rfl (by rfl) T.nI (aa aQ ad)))
   a8)),?_⟩
  refine ⟨_,rfl,_,_,rfl,Or.inl ‹_›,_,_,rfl,rfl,_,rfl,?_⟩;rw [el];by_cases c:64 < xs.length
  ·rw [aV (show (64:Int) < (xs.length:Int) by omega)];have e:okC xs=false:=by unfold okC;rw [aU (by omega),Bool.false_and]
   exact aA (aA ⟨by show 1<=sizeLine;decide,k2 e H (Same.refl H)⟩)
  ·rw [aU (show ¬ (64:Int) < (xs.length:Int) by omega)];refine au ⟨_,rfl,p,xs,rfl,hS,hl,λ H' s1=>⟨_,rfl,?_⟩⟩;have e:okC xs=xs.all okV:=by unfold okC;rw [aV (by omega),Bool.true_and]
   cases e2:xs.all okV with
   | true=>exact au (k1 (e.trans e2) H' s1)
   | false=>exact aA ⟨by show 1<=sizeLine;decide,k2 (e.trans e2) H' s1⟩
theorem cut_drop(xs:List OI)(h:b<=xs.length):cH (xs.map ov) (some (b:Int)) none=(xs.drop b).map ov:=by
 unfold cH;rw [HT.sIx_none,HT.sIx_nat,ae,Nat.min_eq_left h,← List.map_drop,List.take_of_length_le (by simp)]
inductive xF (K:W.Frag) (vs:List V) (H:Hp) (Q:VK) (_E:XK):Prop
 | i (p:Addr) (xs:List OI) (b:Nat) (_:vs=[.ref p,.int b]) (_:SqL K H p (xs.map ov)) (_:xs.length<=1000) (_:b < xs.length) (_:∀ (l:Addr) (H':Hp),Same H H'->H l=none->H' l=some (.lst ((ja xs b).map V.int))->Q (.ref l) H')
theorem sc_rooms_from:aC ["values", "begin", "tally", "rooms", "value"] ["values", "begin"] (av qI):=by walk_at "sc"
theorem zfn(T:Txt K mg t)(CI:jl P w K mg base CX0 1 t.aw ["self"] (rq t.aw))(CA:bF P w K mg base CX0 4 t.aw "add" ["self", "value"] (q8 t.aw))(CL:bF P w K mg base CX0 5 t.aw "least_room" ["self"] (rC t.aw))(F:Fun K "rooms_from" "rooms_from" qI f fd):FnOk P w K mg base CX0 6 f fd ["values", "begin"] (xF K):=by
 obtain ⟨zjG,zjU,zq,zcF,zY⟩:=CI;obtain ⟨zjB,zjP,zm,zcB,zU⟩:=CA;obtain ⟨zjI,zjW,zr,zcH,zZ⟩:=CL;refine F.ok sc_rooms_from (λ vs H Q E h=>?_) (λ cdv A outer s H vs Q E hr h=>?_)
 ·obtain ⟨p,xs,b,rfl,_⟩:=h;rfl
 ·obtain ⟨p,xs,b,rfl,hS,hl,hb,q⟩:=h;refine ⟨_,(ah (aD (i:=2) sc_rooms_from.nd rfl (Or.inl rfl) (vY zcF zq (hr.mono (by decide)) rfl T.uF zY .nil ax))
  (ah (aD (i:=3) sc_rooms_from.nd rfl (Or.inl rfl) (bR ad))
  (ah (eD PassesOwn.never rfl (bN (d0 (gk K) (pv 0) (cY (pv 1)) fB)) (aR (i:=4) sc_rooms_from.nd rfl (Or.inl rfl))
   (ah (ci (cp (pv 2) T.a9 zcB zm (hr.mono (by decide)) zU .nil ax (aa (pv 4) ad)))
  (ap (ci (cu K PySem.F.plainAttrs_list PySem.F.slot_list_append PySem.F.type_list_append fe (pv 3) (aa (di (pv 2) T.a9 zcH zr (hr.mono (by decide)) zZ .nil ax) ad))))))
  (ap (ay (pv 3)))))),?_⟩
  intro x dx nx ndx nex;refine ⟨x,dx,rfl,ag,λ d H1 fd0 D1 kp=>?_⟩;have s0:Same H (upd (upd H dx (.own x)) x (.ins t.aw dx [])):=λ b o e=>by
   rw [aj (aI e nx),aj (aI e ndx)];exact e
  have nd0:H d=none:=s0.free fd0;have s1:Same H H1:=λ b o e=>by
   rw [kp b (aI e nx) (aI e nd0)];exact s0 b o e
  refine ⟨rfl,aO rfl,?_⟩;intro l hln;have hH1l:=s1.free hln;obtain ⟨⟨dy,hx1⟩,hd1⟩:=id D1;have nxl:x≠l:=aI hx1 hln;have ndl:d≠l:=aI hd1 hln;have s2:Same H (upd H1 l (.lst [])):=aJ s1 hln;have hS2:=s2.seq hS;have D2:eV t.aw (upd H1 l (.lst [])) x d Ty.zero:=⟨⟨dy,by rw [aj nxl];exact hx1⟩,by rw [aj ndl];exact hd1⟩
  have h2:(upd H1 l (.lst [])) l=some (.lst []):=ag;generalize upd H1 l (.lst [])=H2 at s2 hS2 D2 h2;refine ⟨_,rfl,_,rfl,_,rfl,_,_,rfl,‹_›,?_⟩;intro l3 hl3;rw [cut_drop xs (by omega)];have s3:Same H2 (upd H2 l3 (.lst ((xs.drop b).map ov))):=Same.new hl3;have h3:(upd H2 l3 (.lst ((xs.drop b).map ov))) l3=some (.lst ((xs.drop b).map ov)):=ag;have n3x:l3≠x:=λ z=>by obtain ⟨⟨_,e⟩,_⟩:=D2;rw [z,e] at hl3;cases hl3
  have n3d:l3≠d:=λ z=>by obtain ⟨_,e⟩:=D2;rw [z,e] at hl3;cases hl3
  have n3l:l3≠l:=λ z=>by rw [z,h2] at hl3;cases hl3
  have hH3:=s2.free hl3;have ld:(xs.drop b).length=xs.length - b:=List.length_drop;refine ⟨l3,rfl,⟨_,SqL.of h3⟩,⟨gw (K:=K) (a:=l3) (xs:=(xs.drop b).map ov) (λ i σ H'=>∃ v:Option V,σ=[some (.ref p),some (.int b),some (.ref x),some (.ref l),v]/\Same H H'/\H' l3=some (.lst ((xs.drop b).map ov))/\
    eV t.aw H' x d (aq ((xs.drop b).take i))/\H' l=some (.lst (((List.range i).map λ k=>fY ((xs.drop b).take (k+1))).map V.int)))
   ⟨none,rfl,s2.trans s3,h3,qV s3 D2,s3 _ _ h2⟩ (λ i σ H' hi hp=>by obtain ⟨_,_,_,h,_⟩:=hp;exact SqL.of h) ?_ ?_⟩⟩
  ·rintro i y σ H4 hi ⟨v,rfl,s4,h4,D4,g4⟩;have hil:i < (xs.drop b).length:=by
    have:=(al_gs.mp hi).1
    rwa [ae] at this
   rw [aH,getD_at' hil] at hi;cases hi;obtain ⟨⟨dz,e4⟩,ed4⟩:=id D4;have nlx:l≠x:=eC g4 e4 (by intro z;cases z);have nld:l≠d:=eC g4 ed4 (by intro z;cases z);refine ⟨_,rfl,x,dz,_,rfl,e4,rfl,_,rfl,x,d,(xs.drop b).take i,at' (xs.drop b) i,rfl,D4,by rw [bc];omega,λ H5 D5 kp5=>?_⟩;rw [← cB hil] at D5;have g5:H5 l=some (.lst (((List.range i).map λ k=>fY ((xs.drop b).take (k+1))).map V.int)):=by rw [kp5 l nlx nld];exact g4
   have h5:H5 l3=some (.lst ((xs.drop b).map ov)):=by rw [kp5 l3 n3x n3d];exact h4
   have s5:Same H H5:=λ c o e=>by rw [kp5 c (aI e nx) (aI e nd0)];exact s4 c o e
   obtain ⟨⟨dw,e5⟩,ed5⟩:=id D5;have pos:0 < ((xs.drop b).take (i+1)).length:=by rw [bc];omega
   have Y:=r6 pos (by rw [bc];omega);refine ⟨_,rfl,.inl ⟨rfl,_,SqL.of g5⟩,_,rfl,x,dw,_,rfl,e5,rfl,x,d,_,fY ((xs.drop b).take (i+1)),rfl,D5,Y,zac _,λ H6 s6=>?_⟩;refine ⟨l,_,_,rfl,rfl,s6 _ _ g5,by rw [ae,ae,List.length_range];exact aY (by omega),?_⟩;have g6:=s6 _ _ g5;have nl3':l3≠l:=n3l;refine ⟨_,rfl,λ c o e=>?_,?_,?_,?_⟩
   ·rw [aj (aI e hH1l)];exact s6 _ _ (s5 c o e)
   ·rw [aj nl3'];exact s6 _ _ h5
   ·obtain ⟨⟨du,e6⟩,ed6⟩:=qV s6 D5;exact ⟨⟨du,by rw [aj nlx.symm];exact e6⟩,by rw [aj nld.symm];exact ed6⟩
   ·rw [ag,List.range_succ,aE,aE];rfl
  ·rintro σ H4 ⟨v,rfl,s4,h4,D4,g4⟩;refine ⟨_,rfl,q l H4 s4 hH1l ?_⟩;rw [g4,ae,ld];rfl
inductive iI (H:Hp) (l:Addr) (xs:List OI):Prop
 | i (as:List Addr) (_:H l=some (.lst (as.map V.ref))) (_:as.length=xs.length) (_:∀ (b:Nat) (a:Addr),as[b]?=some a->H a=some (.lst ((ja xs b).map V.int)))
theorem qU(s:Same H H')(h:iI H l xs):iI H' l xs:=by
 obtain ⟨as,h1,h2,h3⟩:=h;exact ⟨as,s _ _ h1,h2,λ b a e=>s _ _ (h3 b a e)⟩
inductive wY (K:W.Frag) (vs:List V) (H:Hp) (Q:VK) (_E:XK):Prop
 | i (p:Addr) (xs:List OI) (_:vs=[.ref p]) (_:SqL K H p (xs.map ov)) (_:xs.length<=1000) (_:∀ (l:Addr) (H':Hp),Same H H'->H l=none->iI H' l xs->Q (.ref l) H')
theorem zdp:(["begin", "values"]:List Str).Nodup:=by decide +kernel
theorem zhs:aC ["values"] ["values"] (av pF):=by walk_at "sc"
theorem zen(T:Txt K mg t)(mG:Cal P w K mg base CX0 6 "rooms_from" ["values", "begin"] (xF K))(F:Fun K "block_rooms" "block_rooms" pF f fd):FnOk P w K mg base CX0 7 f fd ["values"] (wY K):=by
 refine F.ok zhs (λ vs H Q E h=>?_) (λ cdv A outer s H vs Q E hr h=>?_)
 ·obtain ⟨p,xs,rfl,_⟩:=h;rfl
 ·obtain ⟨p,xs,rfl,hS,hl,q⟩:=h;have el:(xs.map ov).length=xs.length:=ae _;refine ⟨_,(ap (ay (cn (N:=["begin", "values"]) (fr:=[none,some 0]) ⟨rfl,rfl,rfl,rfl,rfl,rfl⟩ rfl (fi (by rfl) T.dB (aa (aM (bQ K) (by rfl) T.bv PyProof.Rows.Boot.«len» (aa (pv 0) ad)) ad))
    (λ C fp s H=>⟨aR (i:=0) zdp rfl (Or.inl rfl),bS,(mG.pe hr ax (aa (pv 1) (aa (pv 0) ad)))⟩)))),?_⟩
  refine ⟨_,rfl,_,_,rfl,Or.inl ‹_›,_,rfl,by omega,by omega,?_⟩;refine ⟨fJ (λ i acc H'=>Same H H'/\∃ as:List Addr,acc=as.map V.ref/\as.length=i/\∀ (b:Nat) (a:Addr),as[b]?=some a->H' a=some (.lst ((ja xs b).map V.int))) ⟨Same.refl _,[],rfl,rfl,λ b a e=>by cases e⟩
   (λ i acc H' hi hp=>by obtain ⟨_,as,e,h,_⟩:=hp;rw [e,ae];omega) (aX (aY (by omega))) ?_ ?_⟩
  ·rintro i acc H' hi ⟨s1,as,rfl,ha,hr'⟩;have e0:(0+(i:Int))=(i:Int):=Int.zero_add _;refine ⟨Wk.set rfl,tT ?_⟩;rw [e0];refine ⟨_,rfl,_,rfl,p,xs,i,rfl,s1.seq hS,hl,by omega,λ l H2 s2 hln h2=>cw hi ⟨s1.trans s2,as++[l],by rw [aE];rfl,by simp [ha],λ b a e=>?_⟩⟩;by_cases hb:b < as.length
   ·rw [List.getElem?_append_left hb] at e;exact s2 _ _ (hr' b a e)
   ·rw [List.getElem?_append_right (by omega)] at e;have hbi:b - as.length=0:=by
     have:=(al_gs.mp e).1;simp at this;omega
    rw [hbi] at e;cases e;rw [show b=i by omega];exact h2
  ·rintro acc H' ⟨s1,as,rfl,ha,hr'⟩ l hl2;refine q l _ (aJ s1 hl2) (s1.free hl2) ⟨as,ag,by omega,λ b a e=>?_⟩;have:=hr' b a e;rw [aj (aI this hl2)];exact this
inductive rK (K:W.Frag) (vs:List V) (H:Hp) (Q:VK) (_E:XK):Prop
 | i (l:Addr) (xs:List OI) (b e:Nat) (_:vs=[.ref l,.int b,.int e]) (_:iI H l xs) (_:b < e) (_:e<=xs.length) (_:Q (.int (lr xs b e)) H)
theorem zhS:aC ["rooms", "begin", "end"] ["rooms", "begin", "end"] (av qH):=by walk_at "sc"
theorem zfl(F:Fun K "room_between" "room_between" qH f fd):FnOk P w K mg base CX0 1 f fd ["rooms", "begin", "end"] (rK K):=by
 refine F.ok zhS (λ vs H Q E h=>?_) (λ cdv A outer s H vs Q E hr h=>?_)
 ·obtain ⟨l,xs,b,e,rfl,_⟩:=h;rfl
 ·obtain ⟨l,xs,b,e,rfl,⟨as,h1,h2,h3⟩,hb,he,q⟩:=h;refine ⟨_,(ap (ay (aP (bq K) (aP (bq K) (pv 0) (pv 1) (λ _ _=>rfl)) (ak bK (ak bK (pv 2) (pv 1)) af) (λ _ _=>rfl)))),?_⟩;have hb':b < as.length:=by omega
  have ea:as[b]?=some as[b]:=aG hb';have a1:atI (as.map V.ref) (b:Int)=some (.ref as[b]):=ef (by rw [aH,ea];rfl);have a2:atI ((ja xs b).map V.int) ((e:Int) - b - 1)=some (.int (lr xs b e)):=by
   refine bP (by omega) ?_;rw [show ((e:Int) - b - 1).toNat=e - b - 1 by omega,aH,zg0 hb he];rfl
  have h4:=h3 b _ ea;exact ⟨_,rfl,_,rfl,l,_,_,_,rfl,rfl,SqL.of h1,a1,_,rfl,_,rfl,_,_,rfl,rfl,_,_,rfl,rfl,_,_,_,_,rfl,rfl,SqL.of h4,a2,q⟩
def lb(xs:List OI)(e:Nat):Nat:=((List.range e).find? λ b=>decide (pr xs b+lr xs b e=pr xs e)).getD 0
theorem zaW{p:Nat->Bool}:∀ (n b:Nat),b < n->p b=true->(∀ c,c < b->p c=false)->(List.range n).find? p=some b:=by
 intro n;induction n with
 | zero=>intro b h;omega
 | succ n ih=>
  intro b h hp hn;rw [List.range_succ,List.find?_append];by_cases hb:b < n
  ·rw [ih b hb hp hn];rfl
  ·have e:b=n:=by omega
   subst e;have:(List.range b).find? p=none:=by
    rw [List.find?_eq_none];intro c hc;rw [hn c (List.mem_range.mp hc)];exact bC
   rw [this];simp [hp]
theorem zcj(h:b < e)(hh:pr xs b+lr xs b e=pr xs e)(hn:∀ c,c < b->pr xs c+lr xs c e≠pr xs e):lb xs e=b:=by
 unfold lb;rw [zaW e b h (aV hh) λ c hc=>aU (hn c hc)];rfl
theorem jF(xs:List OI)(h:0 < e):lb xs e < e:=by
 obtain ⟨b,hb,hh⟩:=v8 xs h;unfold lb;cases q:(List.range e).find? λ b=>decide (pr xs b+lr xs b e=pr xs e) with
 | none=>exact h
 | some c=>exact List.mem_range.mp (List.mem_of_find?_eq_some q)
def fK(xs:List OI):Nat->Nat->List Nat
 | 0,_=>[]
 | f+1,e=>if e=0 then [] else fK xs f (lb xs e)++[e]
theorem tX(xs:List OI):∀ f e,e<=f->fK xs (f+1) e=fK xs f e
 | 0,e,h=>by
  have:e=0:=by omega
  subst this;rfl
 | f+1,e,h=>by
  rw [fK];by_cases h0:e=0
  ·subst h0;simp [fK]
  ·have:=jF xs (e:=e) (by omega);rw [if_neg h0,tX xs f _ (by omega)]
   conv=>rhs;rw [fK]
   rw [if_neg h0]
theorem zaF(xs:List OI){f:Nat}(h:e<=f):fK xs f e=fK xs e e:=by
 obtain ⟨k,rfl⟩:=Nat.le.dest h;induction k with
 | zero=>rfl
 | succ k ih=>rw [show e+(k+1)=(e+k)+1 by omega,tX xs _ _ (by omega),ih (by omega)]
def br(xs:List OI)(e:Nat):List Nat:=fK xs e e
theorem tY(xs:List OI):br xs 0=[]:=rfl
theorem nA(xs:List OI)(h:0 < e):br xs e=br xs (lb xs e)++[e]:=by
 obtain ⟨k,rfl⟩:∃ k,e=k+1:=⟨e - 1,by omega⟩
 have:=jF xs h;show (if k+1=0 then [] else fK xs k (lb xs (k+1))++[k+1])=_;rw [if_neg (by omega),zaF xs (show lb xs (k+1)<=k by omega)];rfl
theorem ny(xs:List OI):∀ e,(br xs e).length<=e:=by
 intro e;induction e using Nat.strongRecOn with
 | ind e ih=>
  by_cases h:e=0
  ·subst h;simp [tY]
  ·have hl:=jF xs (e:=e) (by omega);rw [nA xs (by omega),bn,d5];have:=ih _ hl;omega
def sg(ss:List Int)(k:Nat):Int:=ss.getD k 0
def Ris(n:Nat):Nat->List Nat->Prop
 | b,[]=>b=n
 | b,e::r=>b < e/\Ris n e r
theorem Ris.le{n:Nat}:∀ {b:Nat} {l:List Nat},Ris n b l->b<=n
 | _,[],h=>Nat.le_of_eq h
 | _,_::_,h=>Nat.le_trans (aX h.1) h.2.le
theorem Ris.at{n:Nat}:∀ {b:Nat} {l:List Nat},Ris n b l->∀ i,i < l.length->(b::l).getD i 0 < l.getD i 0/\l.getD i 0<=n
 | b,e::r,h,0,_=>⟨h.1,h.2.le⟩
 | b,e::r,h,i+1,hi=>by
  have:=Ris.at h.2 i (by simpa using hi);simpa [List.getD] using this
theorem dec_int(a b:Int):decide (V.int a=V.int b)=decide (a=b):=by
 by_cases h:a=b
 ·subst h;simp
 ·rw [aU h,aU λ z=>h (V.int.inj z)]
theorem oO(h:k<=n):atI ((prL xs n).map V.int) (k:Int)=some (.int (pr xs k)):=
 ef (by rw [aH,oN xs n k h];rfl)
inductive xy (vs:List V) (H:Hp) (Q:VK) (_E:XK):Prop
 | i (l:Addr) (xs:List OI) (_:vs=[.ref l]) (_:iI H l xs) (_:xs.length<=1000) (_:∀ (f:Addr) (H':Hp),Same H H'->H f=none->H' f=some (.lst ((prL xs xs.length).map V.int))->Q (.ref f) H')
theorem zdJ:(["begin", "found", "rooms", "end"]:List Str).Nodup:=by decide +kernel
theorem sc_least_prices:aC ["rooms", "found", "end"] ["rooms"] (av qt):=by walk_at "sc"
theorem ze0(T:Txt K mg t)(iE:Cal P w K mg base CX0 1 "room_between" ["rooms", "begin", "end"] (rK K))(F:Fun K "least_prices" "least_prices" qt f fd):FnOk P w K mg base CX0 3 f fd ["rooms"] xy:=by
 refine F.ok sc_least_prices (λ vs H Q E h=>?_) (λ cdv A outer s H vs Q E hr h=>?_)
 ·obtain ⟨l,xs,rfl,_⟩:=h;rfl
 ·obtain ⟨l,xs,rfl,hR,hl,q⟩:=h;refine ⟨_,(ah (aD (i:=1) sc_least_prices.nd rfl (Or.inr rfl) (bR (aa af ad)))
  (ah (eD PassesOwn.never rfl (lB (by rfl) T.dB (aa af (aa (ak a7 (aM (bQ K) (by rfl) T.bv PyProof.Rows.Boot.«len» (aa (pv 0) ad)) af) ad))) (aR (i:=2) sc_least_prices.nd rfl (Or.inr rfl))
   (ap (ci (cu K PySem.F.plainAttrs_list PySem.F.slot_list_append PySem.F.type_list_append fe (pv 1) (aa (aM (jv K rfl) (by rfl) T.gC PyProof.Rows.Boot.«min» (aa (cn (N:=["begin", "found", "rooms", "end"]) (fr:=[none,some 1,some 0,some 2]) ⟨rfl,rfl,rfl,rfl,rfl,rfl⟩ rfl (fi (by rfl) T.dB (aa (pv 2) ad))
    (λ C fp s H=>⟨aR (i:=0) zdJ rfl (Or.inl rfl),bS,(ak a7 (aP (bq K) (pv 1) (pv 0) (λ _ _=>rfl)) (iE.pe hr ax (aa (pv 2) (aa (pv 0) (aa (pv 3) ad)))))⟩)) ad)) ad)))))
  (ap (ay (pv 1))))),?_⟩
  refine ⟨aO rfl,?_⟩;intro f hf;have s0:Same H (upd H f (.lst [.int 0])):=Same.new hf;obtain ⟨as,ra,rl,_⟩:=qU s0 hR;have la:(as.map V.ref).length=xs.length:=by rw [ae,rl]
  refine ⟨_,rfl,l,_,rfl,.inl (SqL.of ra),_,_,rfl,rfl,1,_,rfl,⟨by decide,by decide,by omega,by omega⟩,?_⟩;have en:((((as.map V.ref).length:Int)+1) - 1).toNat=xs.length:=by omega
  rw [en];refine ⟨iT (λ i σ H'=>∃ v:Option V,σ=[some (.ref l),some (.ref f),v]/\Same H H'/\H' f=some (.lst ((prL xs i).map V.int))) ⟨none,rfl,s0,ag⟩ ?_ ?_⟩
  ·rintro i σ H1 hi ⟨v,rfl,s1,h1⟩;have e1:1+(i:Int)=((i+1:Nat):Int):=by omega
   rw [e1];refine ⟨_,rfl,.inl ⟨rfl,_,SqL.of h1⟩,_,rfl,_,rfl,by omega,by omega,?_⟩;refine ⟨fJ (λ j acc H'=>Same H1 H'/\acc=((List.range j).map λ b=>pr xs b+lr xs b (i+1)).map V.int) ⟨Same.refl _,rfl⟩ (λ j acc H' hj hp=>by rw [hp.2,ae,ae,List.length_range];omega) (aX (small1000' (by omega))) ?_ ?_⟩
   ·rintro j acc H2 hj ⟨s2,rfl⟩;have e0:(0+(j:Int))=(j:Int):=Int.zero_add _;rw [e0];have hj':j<=i:=by omega
    refine ⟨Wk.set rfl,tT ⟨_,rfl,_,rfl,f,_,_,_,rfl,rfl,SqL.of (s2 _ _ h1),oO hj',_,rfl,_,rfl,_,rfl,l,xs,j,i+1,rfl,qU (s1.trans s2) hR,by omega,by omega,_,_,rfl,rfl,cw hj ⟨s2,?_⟩⟩⟩;rw [List.range_succ,aE,aE];rfl
   ·rintro acc H2 ⟨s2,rfl⟩ l2 hl2;have em:(((i+1:Nat):Int)).toNat=i+1:=by omega
    rw [em];have hne:((List.range (i+1)).map λ b=>pr xs b+lr xs b (i+1))≠[]:=by simp
    have h2:=s2 _ _ h1;have nf:f≠l2:=aI h2 hl2;refine ⟨l2,_,pr xs (i+1),rfl,SqL.of ag,by rw [lG];exact vn hne,λ a ha=>by rw [lG];exact zcX a ha,?_⟩;refine ⟨f,_,_,rfl,rfl,by rw [aj nf];exact h2,by rw [ae,jQ];exact small1000' (by omega),?_⟩;refine ⟨_,rfl,λ c o e=>?_,?_⟩
    ·rw [aj (aI e hf),aj (aI (s2 _ _ (s1 c o e)) hl2)];exact s2 _ _ (s1 c o e)
    ·rw [ag];have:prL xs (i+1)=prL xs i++[pr xs (i+1)]:=by
      rw [lG];show prL xs i++[_]=_
      congr 3
      apply List.map_congr_left;intro b hb;rw [v0 (by have:=List.mem_range.mp hb;omega)]
     rw [this,aE];rfl
  ·rintro σ H1 ⟨v,rfl,s1,h1⟩;exact ⟨_,rfl,q f H1 s1 hf h1⟩
inductive xA (K:W.Frag) (vs:List V) (H:Hp) (Q:VK) (_E:XK):Prop
 | i (l f:Addr) (xs:List OI) (e:Nat) (_:vs=[.ref l,.ref f,.int e]) (_:iI H l xs) (_:SqL K H f ((prL xs xs.length).map V.int)) (_:0 < e) (_:e<=xs.length) (_:Q (.int (lb xs e)) H)
theorem sc_longest_begin:aC ["rooms", "found", "end", "begin"] ["rooms", "found", "end"] (av qu):=by walk_at "sc"
theorem ze3(T:Txt K mg t)(iE:Cal P w K mg base CX0 1 "room_between" ["rooms", "begin", "end"] (rK K))(F:Fun K "longest_begin" "longest_begin" qu f fd):FnOk P w K mg base CX0 3 f fd ["rooms", "found", "end"] (xA K):=by
 refine F.ok sc_longest_begin (λ vs H Q E h=>?_) (λ cdv A outer s H vs Q E hr h=>?_)
 ·obtain ⟨l,f,xs,e,rfl,_⟩:=h;rfl
 ·obtain ⟨l,f,xs,e,rfl,hR,hS,h0,he,q⟩:=h;refine ⟨_,(ah (aD (i:=3) sc_longest_begin.nd rfl (Or.inl rfl) af)
  (ah (jR PassesOwn.never (aF dW (ak a7 (aP (bq K) (pv 1) (pv 3) (λ _ _=>rfl)) (iE.pe hr ax (aa (pv 0) (aa (pv 3) (aa (pv 2) ad))))) (aP (bq K) (pv 1) (pv 2) (λ _ _=>rfl)) (aB _))
   (ap (wc (i:=3) sc_longest_begin.nd rfl (Or.inl rfl) af uO)))
  (ap (ay (pv 3))))),?_⟩
  obtain ⟨b0,hb0,hh0⟩:=v8 xs h0;refine ka (λ σ H'=>H'=H/\∃ b:Nat,σ=[some (.ref l),some (.ref f),some (.int e),some (.int b)]/\b < e/\∀ c,c < b->pr xs c+lr xs c e≠pr xs e) (λ σ _=>match σ with | [_,_,_,some (.int b)]=>e - b.toNat | _=>0)
   ⟨rfl,0,rfl,h0,λ c hc=>by omega⟩ ?_
  rintro m σ H' rfl ⟨rfl,b,rfl,hb,hn⟩;refine ⟨_,rfl,_,rfl,f,_,_,_,rfl,rfl,hS,oO (by omega),_,rfl,_,rfl,_,rfl,l,xs,b,e,rfl,hR,hb,he,_,_,rfl,rfl,_,rfl,_,rfl,f,_,_,_,rfl,rfl,hS,oO he,rfl,_,rfl,?_⟩;rw [dec_int];by_cases c:pr xs b+lr xs b e=pr xs e
  ·rw [aV c];refine au ⟨_,rfl,?_⟩;rw [zcj hb c hn] at q;exact q
  ·rw [aU c];refine aA ⟨_,wN,?_⟩;refine ⟨_,rfl,_,_,rfl,rfl,⟨rfl,b+1,by simp,?_,?_⟩,?_⟩
   ·have:b < b0:=by
     rcases Nat.lt_trichotomy b b0 with h | h | h
     ·exact h
     ·subst h;exact absurd hh0 c
     ·exact absurd hh0 (hn b0 h)
    omega
   ·intro d hd;by_cases e2:d=b
    ·subst e2;exact c
    ·exact hn d (by omega)
   ·show e - ((b:Int)+1).toNat < e - (b:Int).toNat;omega
inductive rj (K:W.Frag) (t:Ad) (vs:List V) (H:Hp) (Q:VK) (E:XK):Prop
 | i (p:Addr) (xs:List OI) (_:vs=[.ref p]) (_:SqL K H p (xs.map ov)) (_:xs.length<=1000) (_:(okC xs=true->∀ (f:Addr) (H':Hp),Same H H'->H f=none->H' f=some (.lst (((br xs xs.length).map λ (k:Nat)=>(k:Int)).map V.int))->Q (.ref f) H')) (_:(okC xs=false->∀ H',Same H H'->E (.ref t.dQ) none H'))
theorem sc_cuts:aC ["values", "rooms", "found", "ends", "end"] ["values"] (av pQ):=by walk_at "sc"
theorem zez(T:Txt K mg t)(mq:Cal P w K mg base (CXr P w) 4 "check_column" ["values"] (w6 K t))(mn:Cal P w K mg base CX0 7 "block_rooms" ["values"] (wY K))(my:Cal P w K mg base CX0 3 "least_prices" ["rooms"] xy)(mB:Cal P w K mg base CX0 3 "longest_begin" ["rooms", "found", "end"] (xA K))(F:Fun K "cuts" "cuts" pQ f fd):
  FnOk P w K mg base (CXr P w) 8 f fd ["values"] (rj K t):=by
 refine F.okX sc_cuts (λ vs H Q E h=>?_) (λ cdv A outer s H vs Q E hr h=>?_)
 ·obtain ⟨p,xs,rfl,_⟩:=h;rfl
 ·obtain ⟨p,xs,rfl,hS,hl,k1,k2⟩:=h;refine ⟨_,(ah (ci (mq.pe hr c5 (aa (pv 0) ad)))
  (ah (aD (i:=1) sc_cuts.nd rfl (Or.inl rfl) (mn.pe hr ax (aa (pv 0) ad)))
  (ah (aD (i:=2) sc_cuts.nd rfl (Or.inl rfl) (my.pe hr ax (aa (pv 1) ad)))
  (ah (aD (i:=3) sc_cuts.nd rfl (Or.inl rfl) (bR ad))
  (ah (aD (i:=4) sc_cuts.nd rfl (Or.inl rfl) (aM (bQ K) (by rfl) T.bv PyProof.Rows.Boot.«len» (aa (pv 0) ad)))
  (ah (PS.nox (jR PassesOwn.never (aF dU (pv 4) af (aB _))
   (ah (ci (cu K PySem.F.plainAttrs_list PySem.F.slot_list_append PySem.F.type_list_append fe (pv 3) (aa (pv 4) ad)))
  (ap (aD (i:=4) sc_cuts.nd rfl (Or.inl rfl) (mB.pe hr ax (aa (pv 1) (aa (pv 2) (aa (pv 4) ad)))))))))
  (ap (ay (zf3 K rfl (by rfl) T.jK (by rfl) T.zd6 (pv 3)))))))))),?_⟩
  refine ⟨_,rfl,p,xs,rfl,hS,hl,λ ok H1 s1=>?_,k2⟩;refine ⟨_,rfl,p,xs,rfl,s1.seq hS,hl,λ l H2 s2 hn2 R2=>?_⟩;refine ⟨_,rfl,l,xs,rfl,R2,hl,λ f H3 s3 hn3 h3=>?_⟩;have t3:=(s1.trans s2).trans s3;refine ⟨aO rfl,?_⟩;intro c hc;have s4:Same H3 (upd H3 c (.lst [])):=Same.new hc;have t4:=t3.trans s4;have hS4:=t4.seq hS;refine ⟨_,rfl,_,_,rfl,Or.inl ‹_›,?_⟩;rw [ae];refine ka (λ σ H'=>∃ (e:Nat) (es:List Nat),σ=[some (.ref p),some (.ref l),some (.ref f),some (.ref c),some (.int e)]/\Same H3 H'/\H' c=some (.lst ((es.map λ (k:Nat)=>(k:Int)).map V.int))/\e<=xs.length/\es.length+e<=xs.length/\br xs xs.length=br xs e++es.reverse)
   (λ σ _=>match σ with | [_,_,_,_,some (.int e)]=>e.toNat | _=>0) ⟨xs.length,[],rfl,s4,ag,az _,by simp,by simp⟩ ?_
  rintro m σ H5 hm ⟨e,es,rfl,s5,h5,he,hes,hcu⟩;have hm:m=e:=by rw [hm];simp
  refine ⟨_,rfl,_,_,rfl,rfl,_,rfl,?_⟩;by_cases c0:0 < e
  ·rw [aV (show (0:Int) < (e:Int) by omega)];refine aA ⟨_,wN,?_⟩;have hlt:=jF xs c0;refine ⟨_,rfl,.inl ⟨rfl,_,SqL.of h5⟩,_,rfl,c,_,_,rfl,rfl,h5,by rw [ae,ae];exact aY (by omega),?_⟩;have s6:Same H3 (upd H5 c (.lst ((es.map λ (k:Nat)=>(k:Int)).map V.int++[.int e]))):=λ b o q=>by
    rw [aj (aI q hc)];exact s5 b o q
   have h6:(upd H5 c (.lst ((es.map λ (k:Nat)=>(k:Int)).map V.int++[.int e]))) c=some (.lst ((es.map λ (k:Nat)=>(k:Int)).map V.int++[.int e])):=ag;generalize upd H5 c (.lst ((es.map λ (k:Nat)=>(k:Int)).map V.int++[.int e]))=H6 at s6 h6;refine ⟨_,rfl,_,rfl,_,rfl,l,f,xs,e,rfl,qU (s3.trans s6) R2,SqL.of (s6 _ _ h3),c0,he,⟨lb xs e,es++[e],rfl,s6,?_,by omega,by rw [bn,d5];omega,?_⟩,?_⟩
   ·rw [h6,aE,aE];rfl
   ·rw [hcu,nA xs c0,List.reverse_append];simp
   ·show (lb xs e:Int).toNat < m;omega
  ·rw [aU (show ¬ (0:Int) < (e:Int) by omega)];refine au ?_;have e0:e=0:=by omega
   subst e0;rw [tY,List.nil_append] at hcu;refine ⟨_,rfl,c,_,rfl,SqL.of h5,λ r hr'=>?_⟩;refine k1 ok r _ (aJ (t3.trans s5) hr') ((t3.trans s5).free hr') ?_;rw [ag,hcu,List.map_reverse,List.map_reverse]
theorem tW(xs:List OI)(h:b<=e)(he:e<=xs.length):cH (xs.map ov) (some (b:Int)) (some (e:Int))=((xs.drop b).take (e - b)).map ov:=by
 unfold cH;rw [HT.sIx_nat,HT.sIx_nat,ae,Nat.min_eq_left (show b<=xs.length by omega),Nat.min_eq_left he,← List.map_drop,← List.map_take]
def Rs:Nat->List Nat->Prop
 | _,[]=>True
 | b,e::r=>b < e/\Rs e r
theorem Rs.snoc:∀ {l:List Nat} {b k:Nat},Rs b l->b < k->(∀ d∈l,d < k)->Rs b (l++[k])
 | [],b,k,_,hb,_=>⟨hb,trivial⟩
 | e::r,b,k,h,hb,hl=>⟨h.1,Rs.snoc h.2 (hl e cG) λ d hd=>hl d (bV _ hd)⟩
theorem Rs.ris:∀ {l:List Nat} {b n:Nat},Rs b l->b < n->(∀ d∈l,d < n)->Ris n b (l++[n])
 | [],b,n,_,hb,_=>⟨hb,rfl⟩
 | e::r,b,n,h,hb,hl=>⟨h.1,Rs.ris h.2 (hl e cG) λ d hd=>hl d (bV _ hd)⟩
theorem zea(h1:xs.length<=64)(h2:xs.all okV=true):okC xs=true:=by
 unfold okC;rw [aV h1,h2];rfl
abbrev cr(ds:List Nat):List V:=(ds.map λ (k:Nat)=>(k:Int)).map V.int
def eF(n k:Nat):Nat:=if n / 2 ^ k % 2=1 then 49 else 48
def bZ(n:Nat):Nat->List Nat
 | 0=>[]
 | w+1=>eF n w::bZ n w
theorem eX(n:Nat):∀ w,(bZ n w).length=w
 | 0=>rfl
 | w+1=>by rw [bZ,bY,eX n w]
theorem sV(n:Nat):∀ w,(List.range w).map (λ j=>eF n (w - 1 - j))=bZ n w
 | 0=>rfl
 | w+1=>by
  rw [List.range_succ_eq_map,bE,bZ,List.map_map,← sV n w]
  congr 1
  apply List.map_congr_left;intro j _;show eF n (w+1 - 1 - (j+1))=eF n (w - 1 - j)
  congr 1
  omega
def gE(c:Nat):Str:=⟨#[c]⟩
def b8(n w:Nat):Str:=⟨(bZ n w).toArray⟩
theorem cz(n w:Nat):(b8 n w).length=w:=by
 show (bZ n w).toArray.size=w;rw [aT,eX]
theorem vd:("1" : Str)=gE 49:=by decide +kernel
theorem vc:("0" : Str)=gE 48:=by decide +kernel
theorem zaX(l:List Nat):(l.map λ c=>[c]).flatten=l:=by
 induction l with
 | nil=>rfl
 | cons a r ih=>rw [bE,List.flatten_cons,ih];rfl
theorem zbj(l:List Nat):bp (l.map gE)=⟨l.toArray⟩:=by
 apply jd;rw [e9,List.map_map];exact zaX l
theorem zie(l:List Nat):((l.map gE).map (·.length)).sum=l.length:=by
 induction l with
 | nil=>rfl
 | cons a r ih=>rw [bE,bE,List.sum_cons,ih,bY];exact Nat.add_comm _ _
theorem zJ{a:Int}(h:0<=a):Builtin.bitAnd a 1=((a.toNat % 2:Nat):Int):=by
 rw [PyProof.Rows.bitAnd_pp h (by decide)];show ((a.toNat &&& 1:Nat):Int)=_;rw [Nat.and_one_is_mod]
inductive jb (vs:List V) (H:Hp) (Q:VK) (_E:XK):Prop
 | i (n m:Nat) (_:vs=[.int n,.int m]) (_:m<=1000) (_:∀ H',Same H H'->Q (.str (b8 n m)) H')
theorem zdv:(["place", "number"]:List Str).Nodup:=by decide +kernel
theorem zhD:aC ["number", "width"] ["number", "width"] (av pT):=by walk_at "sc"
theorem zeF(T:Txt K mg t)(F:Fun K "in_bits" "in_bits" pT f fd):FnOk P w K mg base CX0 1 f fd ["number", "width"] jb:=by
 refine F.ok zhD (λ vs H Q E h=>?_) (λ cdv A outer s H vs Q E hr h=>?_)
 ·obtain ⟨n,m,rfl,_⟩:=h;rfl
 ·obtain ⟨n,m,rfl,hm,q⟩:=h;refine ⟨_,(ap (ay (cu K PySem.F.plainAttrs_str PySem.F.slot_str_join PySem.F.type_str_join (i4 K) aQ (aa (cn (N:=["place", "number"]) (fr:=[none,some 0]) ⟨rfl,rfl,rfl,rfl,rfl,rfl⟩ rfl (zf8 (by rfl) T.dB (aa (ak bK (pv 1) af) (aa (dC dF af) (aa (dC dF af) ad))))
    (λ C fp s H=>⟨aR (i:=0) zdv rfl (Or.inl rfl),bS,(c6 (zgq K (ak zfG (ak zfP (pv 1) (pv 0)) af)) aQ aQ)⟩)) ad)))),?_⟩
  refine ⟨rfl,_,rfl,_,_,rfl,rfl,_,rfl,_,rfl,_,_,rfl,by omega,?_⟩;have en:((m:Int) - 1 - -1).toNat=m:=by omega
  rw [en];refine ⟨zaA (λ i acc H'=>Same H H'/\acc=((List.range i).map λ j=>V.str (gE (eF n (m - 1 - j))))) ⟨Same.refl _,rfl⟩
   (λ i acc H' hi hp=>by rw [hp.2,ae,List.length_range];omega) (aX (aY hm)) ?_ ?_⟩
  ·rintro i acc H' hi ⟨s1,rfl⟩;refine ⟨Wk.set rfl,tT ?_⟩;have e1:((m:Int) - 1 - i).toNat=m - 1 - i:=by omega
   have e2:((n:Int) / 2 ^ (m - 1 - i))=((n / 2 ^ (m - 1 - i):Nat):Int):=by rw [Int.natCast_ediv,Int.natCast_pow];rfl
   have e3:Builtin.bitAnd ((n:Int) / 2 ^ ((m:Int) - 1 - i).toNat) 1=((n / 2 ^ (m - 1 - i) % 2:Nat):Int):=by
    rw [e1,e2,zJ (Int.natCast_nonneg _),Int.toNat_natCast]
   refine ⟨_,rfl,_,rfl,_,_,rfl,rfl,by omega,_,_,rfl,rfl,_,rfl,?_⟩;rw [e3];by_cases hb:n / 2 ^ (m - 1 - i) % 2=1
   ·have eb:eF n (m - 1 - i)=49:=if_pos hb;rw [hb];refine aA (cw hi ⟨s1,?_⟩);rw [List.range_succ,aE,List.map_singleton,eb,vd]
   ·have eb:eF n (m - 1 - i)=48:=if_neg hb;rw [show n / 2 ^ (m - 1 - i) % 2=0 by omega];refine au (cw hi ⟨s1,?_⟩);rw [List.range_succ,aE,List.map_singleton,eb,vc]
  ·rintro acc H' ⟨s1,rfl⟩ l hl2;have e1:(List.range m).map (λ j=>V.str (gE (eF n (m - 1 - j))))=((bZ n m).map gE).map V.str:=by
    rw [← sV,List.map_map,List.map_map];rfl
   rw [e1];refine ⟨"", l,(bZ n m).map gE,rfl,rfl,SqL.of ag,?_,?_⟩
   ·rw [zie,eX,ae,eX];show m+m * 0<=16777216;omega
   ·rw [iX,zbj];exact q _ (aJ s1 hl2)
def fH:OI->Nat
 | .none=>0
 | .some i=>(i+4000001).toNat
def cq(o:OI):Str:=b8 (fH o) 24
inductive j5 (vs:List V) (H:Hp) (Q:VK) (_E:XK):Prop
 | i (o:OI) (_:vs=[ov o]) (_:okV o=true) (_:∀ H',Same H H'->Q (.str (cq o)) H')
theorem zhX:aC ["value"] ["value"] (av qR):=by walk_at "sc"
theorem zfE(T:Txt K mg t)(cZ:Cal P w K mg base CX0 1 "in_bits" ["number", "width"] jb)(F:Fun K "value_bits" "value_bits" qR f fd):FnOk P w K mg base CX0 3 f fd ["value"] j5:=by
 refine F.ok zhX (λ vs H Q E h=>?_) (λ cdv A outer s H vs Q E hr h=>?_)
 ·obtain ⟨o,rfl,_⟩:=h;rfl
 ·obtain ⟨o,rfl,ho,q⟩:=h;refine ⟨_,(ap (ay (cZ.pe hr ax (aa (c6 (aF dL (pv 0) bx (aB _)) af (ak a7 (pv 0) (bz T.kW))) (aa (bz T.gc) ad))))),?_⟩;refine ⟨_,rfl,rfl,_,rfl,?_⟩;cases o with
  | none=>exact aA ⟨0,24,rfl,by decide,q⟩
  | some i=>
   have hi : -4000000<=i/\i<=4000000:=of_decide_eq_true ho;refine au ⟨_,rfl,_,_,rfl,rfl,(i+4000001).toNat,24,?_,by decide,q⟩;rw [Int.toNat_of_nonneg (by omega)];rfl
def dN(xs:List OI):Str:=bp (xs.map cq)
theorem oK(xs:List OI):((xs.map cq).map (·.length)).sum=24 * xs.length:=by
 induction xs with
 | nil=>rfl
 | cons a r ih=>
  rw [bE,bE,List.sum_cons,ih,bY];have:(cq a).length=24:=cz _ _;omega
inductive rH (K:W.Frag) (vs:List V) (H:Hp) (Q:VK) (_E:XK):Prop
 | i (p:Addr) (xs:List OI) (_:vs=[.ref p]) (_:SqL K H p (xs.map ov)) (_:xs.length<=1000) (_:xs.all okV=true) (_:∀ H',Same H H'->Q (.str (dN xs)) H')
theorem zdO:(["value"]:List Str).Nodup:=by decide +kernel
theorem zhP:aC ["values"] ["values"] (av qy):=by walk_at "sc"
theorem zfc(T:Txt K mg t)(eS:Cal P w K mg base CX0 3 "value_bits" ["value"] j5)(F:Fun K "plain_bits" "plain_bits" qy f fd):FnOk P w K mg base CX0 4 f fd ["values"] (rH K):=by
 refine F.ok zhP (λ vs H Q E h=>?_) (λ cdv A outer s H vs Q E hr h=>?_)
 ·obtain ⟨p,xs,rfl,_⟩:=h;rfl
 ·obtain ⟨p,xs,rfl,hS,hl,hok,q⟩:=h;refine ⟨_,(ap (ay (cu K PySem.F.plainAttrs_str PySem.F.slot_str_join PySem.F.type_str_join (i4 K) aQ (aa (cn (N:=["value"]) (fr:=[none]) ⟨rfl,rfl,rfl,rfl,rfl,rfl⟩ rfl (bN (pv 0))
    (λ C fp s H=>⟨aR (i:=0) zdO rfl (Or.inl rfl),bS,(eS.pe hr ax (aa (pv 0) ad))⟩)) ad)))),?_⟩
  refine ⟨rfl,_,rfl,_,rfl,⟨_,‹_›⟩,?_⟩;refine ⟨cD (xs:=xs.map ov) (λ i acc H'=>Same H H'/\acc=((xs.take i).map λ o=>V.str (cq o))) ⟨Same.refl _,rfl⟩ ?_ ?_ ?_ ?_⟩
  ·rintro i acc H' hi ⟨s1,rfl⟩;refine ⟨s1.seq hS,?_⟩;rw [ae,bc];omega
  ·rw [ae];exact aX (aY hl)
  ·rintro i x acc H' hx hlt ⟨s1,rfl⟩;rw [ae] at hlt;have ex:xs[i]?=some xs[i]:=by simp [hlt]
   rw [aH,ex] at hx;cases hx;refine ⟨Wk.set rfl,tT ⟨_,rfl,xs[i],rfl,al_ae.mp hok _ (List.getElem_mem hlt),λ H2 s2=>cw (by rw [ae];exact hlt) ⟨s1.trans s2,?_⟩⟩⟩;rw [cL,ex,aE];rfl
  ·rintro acc H' ⟨s1,rfl⟩ l hl2;have e1:(xs.take (xs.map ov).length).map (λ o=>V.str (cq o))=(xs.map cq).map V.str:=by
    rw [ae,aZ,List.map_map];rfl
   rw [e1];refine ⟨"", l,xs.map cq,rfl,rfl,SqL.of ag,?_,?_⟩
   ·rw [oK];show 24 * xs.length+_ * 0<=16777216;omega
   ·rw [iX];exact q _ (aJ s1 hl2)
def bu(ns:List Int):Int:=(cJ (0::ns)).getD 0
theorem zi5(h0:∀ a∈ns,0<=a)(h1:M∈ns)(h2:∀ a∈ns,a<=M):bu ns=M:=by
 have e:cJ (0::ns)=some M:=oj (bV _ h1) λ i hi=>by
  rcases al_mc.mp hi with rfl | hi
  ·exact h0 M h1
  ·exact h2 i hi
 unfold bu;rw [e];rfl
theorem ol:∀ {l:List Int},l≠[]->∃ m,cJ l=some m:=by
 intro l h;cases l with
 | nil=>exact absurd rfl h
 | cons a r=>exact ⟨_,rfl⟩
theorem zi3(ns:List Int):bu ns∈0::ns:=by
 obtain ⟨m,e⟩:=ol (l:=0::ns) (by simp);have:bu ns=m:=by unfold bu;rw [e];rfl
 rw [this];exact gy e
theorem l9{k:Int}(hk:0 < k)(h:∀ n∈ns,0<=n/\n < k):0<=bu ns/\bu ns < k:=by
 rcases al_mc.mp (zi3 ns) with e | e
 ·rw [e];exact ⟨Int.le_refl _,hk⟩
 ·exact h _ e
theorem ie(h:n < 2 ^ k):aK n<=k:=by
 rw [oy];by_cases e:n=0
 ·rw [if_pos e];exact Nat.zero_le _
 ·rw [if_neg e];exact (Nat.log2_lt e).mpr h
theorem ip:1000000<=sizeLine:=by decide +kernel
theorem gK{α:Type}{f:α->Str}{k:Nat}:∀ {l:List α},(∀ x∈l,(f x).length=k)->((l.map f).map (·.length)).sum=k * l.length
 | [],_=>rfl
 | a::r,h=>by
  rw [bE,bE,List.sum_cons,gK (l:=r) λ x hx=>h x (bV _ hx),h a (cG ..),bY,Nat.mul_succ];exact Nat.add_comm _ _
theorem cT(a b:Str):(a++b).length=a.length+b.length:=by
 show (a++b).cps.size=a.cps.size+b.cps.size;rw [← Array.length_toList,dq,bn,Array.length_toList,Array.length_toList]
theorem zgD(hS:SqL K H p (ns.map V.int))(h0:∀ a∈ns,0<=a)(q:Q (.int (bu ns)) H):wu K [.ref p] (.int 0) H Q:=
 ⟨p,ns,rfl,hS,λ e=>by subst e;exact q,λ M h1 h2=>by rw [← zi5 h0 h1 h2];exact q⟩
def dR(ns:List Int):Str:=b8 (aK (bu ns).toNat) 5++bp (ns.map λ n=>b8 n.toNat (aK (bu ns).toNat))
inductive rp (K:W.Frag) (vs:List V) (H:Hp) (Q:VK) (_E:XK):Prop
 | i (p:Addr) (ns:List Int) (_:vs=[.ref p]) (_:SqL K H p (ns.map V.int)) (_:ns.length<=1000) (_:(∀ n∈ns,0<=n/\n < 2 ^ 30)) (_:∀ H',Same H H'->Q (.str (dR ns)) H')
theorem zdt:(["number", "width"]:List Str).Nodup:=by decide +kernel
theorem sc_even_bits:aC ["numbers", "width"] ["numbers"] (av pR):=by walk_at "sc"
theorem zeC(T:Txt K mg t)(eR:Cal P w K mg base CX0 1 "needed" ["number"] iq)(cZ:Cal P w K mg base CX0 1 "in_bits" ["number", "width"] jb)(F:Fun K "even_bits" "even_bits" pR f fd):FnOk P w K mg base CX0 3 f fd ["numbers"] (rp K):=by
 refine F.ok sc_even_bits (λ vs H Q E h=>?_) (λ cdv A outer s H vs Q E hr h=>?_)
 ·obtain ⟨p,ns,rfl,_⟩:=h;rfl
 ·obtain ⟨p,ns,rfl,hS,hl,hn,q⟩:=h;refine ⟨_,(ah (aD (i:=1) sc_even_bits.nd rfl (Or.inr rfl) (eR.pe hr ax (aa (vS (zas K rfl) (by rfl) T.gB PyProof.Rows.Boot.«max» (aa (pv 0) ad) af) ad)))
  (ap (ay (ak gi (cZ.pe hr ax (aa (pv 1) (aa (bz T.jE) ad))) (cu K PySem.F.plainAttrs_str PySem.F.slot_str_join PySem.F.type_str_join (i4 K) aQ (aa (cn (N:=["number", "width"]) (fr:=[none,some 1]) ⟨rfl,rfl,rfl,rfl,rfl,rfl⟩ rfl (bN (pv 0))
    (λ C fp s H=>⟨aR (i:=0) zdt rfl (Or.inl rfl),bS,(cZ.pe hr ax (aa (pv 0) (aa (pv 1) ad)))⟩)) ad)))))),?_⟩
  obtain ⟨t0,t1⟩:=l9 (k:=2 ^ 30) (by decide) hn;have hw:aK (bu ns).toNat<=30:=ie (by omega);refine ⟨_,rfl,?_⟩;dsimp only [fT,tC];refine zgD hS (λ a ha=>(hn a ha).1) ?_;refine ⟨_,rfl,t0,?_⟩;refine ⟨_,rfl,_,_,rfl,aO rfl,?_⟩;intro H1 s1;have hS1:=s1.seq hS;refine ⟨rfl,_,rfl,_,rfl,⟨_,‹_›⟩,?_⟩;refine ⟨cD (xs:=ns.map V.int) (λ i acc H'=>Same H H'/\acc=((ns.take i).map λ n=>V.str (b8 n.toNat (aK (bu ns).toNat)))) ⟨s1,rfl⟩ ?_ ?_ ?_ ?_⟩
  ·rintro i acc H' hi ⟨s2,rfl⟩;refine ⟨s2.seq hS,?_⟩;rw [ae,bc];omega
  ·rw [ae];exact aX (aY hl)
  ·rintro i x acc H' hx hlt ⟨s2,rfl⟩;rw [ae] at hlt;have ex:ns[i]?=some ns[i]:=by simp [hlt]
   rw [aH,ex] at hx;cases hx;obtain ⟨n0,_⟩:=hn _ (List.getElem_mem hlt);have en:V.int ns[i]=V.int (ns[i].toNat:Int):=by rw [Int.toNat_of_nonneg n0]
   refine ⟨Wk.set rfl,tT ⟨_,rfl,_,rfl,ns[i].toNat,aK (bu ns).toNat,?_,by omega,λ H2 s3=>cw (by rw [ae];exact hlt) ⟨s2.trans s3,?_⟩⟩⟩
   ·show [V.int ns[i],V.int (aK (bu ns).toNat:Int)]=_;rw [en]
   ·rw [cL,ex,aE];rfl
  ·rintro acc H' ⟨s2,rfl⟩ l hl2;have e1:(ns.take (ns.map V.int).length).map (λ n=>V.str (b8 n.toNat (aK (bu ns).toNat)))=(ns.map λ n=>b8 n.toNat (aK (bu ns).toNat)).map V.str:=by
    rw [ae,aZ,List.map_map];rfl
   rw [e1];have sz:((ns.map λ n=>b8 n.toNat (aK (bu ns).toNat)).map (·.length)).sum=aK (bu ns).toNat * ns.length:=gK λ x _=>cz _ _;have le:aK (bu ns).toNat * ns.length<=30 * 1000:=Nat.mul_le_mul hw hl;refine ⟨"", l,ns.map λ n=>b8 n.toNat (aK (bu ns).toNat),rfl,rfl,SqL.of ag,?_,?_⟩
   ·rw [sz];show _+_ * 0<=16777216;omega
   ·rw [iX];refine ⟨_,_,rfl,rfl,?_,q _ (aJ s2 hl2)⟩;rw [cz,fL,sz];show (5:Nat)+aK (bu ns).toNat * ns.length<=sizeLine;have:=ip;omega
def bj(xs:List OI):Int:=(bH (aN xs)).getD 0
def gq(xs:List OI):Str:=cq (some (bj xs))++dR (xs.map (above (bj xs)))
theorem zh8{i:Int}(h:i∈aN xs):some i∈xs:=by
 unfold aN at h;obtain ⟨o,h1,h2⟩:=List.mem_filterMap.mp h;cases h2;exact h1
theorem i6{i:Int}(h:okV (some i)=true): -4000000<=i/\i<=4000000:=of_decide_eq_true h
theorem zcl(h1:M∈aN xs)(h2:∀ a∈aN xs,M<=a):bj xs=M:=by
 obtain ⟨m,e⟩:=jJ (l:=aN xs) (λ z=>by rw [z] at h1;cases h1);have a1:=gf e M h1;have a2:=h2 m (gA e);unfold bj;rw [e];show m=M;omega
theorem oh(h:xs.all okV=true):okV (some (bj xs))=true:=by
 unfold bj;cases e:bH (aN xs) with
 | none=>decide
 | some m=>exact al_ae.mp h _ (zh8 (gA e))
theorem kB(h:xs.all okV=true):∀ n∈xs.map (above (bj xs)),0<=n/\n < 2 ^ 30:=by
 intro n hn;obtain ⟨v,hv,rfl⟩:=List.mem_map.mp hn;refine ⟨zF hv,?_⟩;have l:=i6 (oh h);cases v with
 | none=>show (0:Int) < 2 ^ 30;decide
 | some i=>
  have:=i6 (al_ae.mp h _ hv);show i - bj xs+1 < 2 ^ 30;omega
theorem zgF(hS:SqL K H p ((aN xs).map V.int))(q:Q (.int (bj xs)) H):wv K [.ref p] (.int 0) H Q:=
 ⟨p,aN xs,rfl,hS,λ e=>by unfold bj at q;rw [e] at q;exact q,λ M h1 h2=>by rw [← zcl h1 h2];exact q⟩
theorem kS(h:∀ n∈ns,0<=n/\n < 2 ^ 30)(hl:ns.length<=1000):(dR ns).length<=100000:=by
 obtain ⟨t0,t1⟩:=l9 (k:=2 ^ 30) (by decide) h;have hw:aK (bu ns).toNat<=30:=ie (by omega);have le:aK (bu ns).toNat * ns.length<=30 * 1000:=Nat.mul_le_mul hw hl;unfold dR;rw [cT,cz,fL,gK (k:=aK (bu ns).toNat) λ x _=>cz _ _];omega
inductive wV (K:W.Frag) (vs:List V) (H:Hp) (Q:VK) (_E:XK):Prop
 | i (p:Addr) (xs:List OI) (_:vs=[.ref p]) (_:SqL K H p (xs.map ov)) (_:xs.length<=1000) (_:xs.all okV=true) (_:∀ H',Same H H'->Q (.str (gq xs)) H')
theorem zdn:(["value"]:List Str).Nodup:=by decide +kernel
theorem zdo:(["value", "least"]:List Str).Nodup:=by decide +kernel
theorem sc_base_bits:aC ["values", "least"] ["values"] (av pD):=by walk_at "sc"
theorem zej(T:Txt K mg t)(eS:Cal P w K mg base CX0 3 "value_bits" ["value"] j5)(iA:Cal P w K mg base CX0 3 "even_bits" ["numbers"] (rp K))(F:Fun K "base_bits" "base_bits" pD f fd):FnOk P w K mg base CX0 4 f fd ["values"] (wV K):=by
 refine F.ok sc_base_bits (λ vs H Q E h=>?_) (λ cdv A outer s H vs Q E hr h=>?_)
 ·obtain ⟨p,xs,rfl,_⟩:=h;rfl
 ·obtain ⟨p,xs,rfl,hS,hl,hok,q⟩:=h;have el:(xs.map ov).length=xs.length:=ae _;refine ⟨_,(ah (aD (i:=1) sc_base_bits.nd rfl (Or.inr rfl) (vS (zav K rfl) (by rfl) T.gC PyProof.Rows.Boot.«min» (aa (cn (N:=["value"]) (fr:=[none]) ⟨rfl,rfl,rfl,rfl,rfl,rfl⟩ rfl (bN (pv 0))
    (λ C fp s H=>⟨aR (i:=0) zdn rfl (Or.inl rfl),(fz (aF gF (pv 0) bx (aB _))),(pv 0)⟩)) ad) af))
  (ap (ay (ak gi (eS.pe hr ax (aa (pv 1) ad)) (iA.pe hr ax (aa (cn (N:=["value", "least"]) (fr:=[none,some 1]) ⟨rfl,rfl,rfl,rfl,rfl,rfl⟩ rfl (bN (pv 0))
    (λ C fp s H=>⟨aR (i:=0) zdo rfl (Or.inl rfl),bS,(c6 (aF dL (pv 0) bx (aB _)) af (ak a7 (ak bK (pv 0) (pv 1)) af))⟩)) ad)))))),?_⟩
  refine ⟨_,rfl,_,rfl,⟨_,‹_›⟩,?_⟩;refine ⟨cD (xs:=xs.map ov) (λ i acc H'=>Same H H'/\acc=(aN (xs.take i)).map V.int) ⟨Same.refl _,rfl⟩ ?_ (aX (aY (by omega))) ?_ ?_⟩
  ·rintro i acc H' hi ⟨s1,rfl⟩;refine ⟨s1.seq hS,?_⟩;rw [ae];have h1:(aN (xs.take i)).length<=(xs.take i).length:=List.length_filterMap_le _ _;rw [bc] at h1;omega
  ·rintro i x acc H' hx hlt ⟨s1,rfl⟩;have hlt':i < xs.length:=by rwa [ae] at hlt
   rw [aH,getD_at' hlt'] at hx;cases hx;refine ⟨Wk.set rfl,?_⟩;refine ⟨_,rfl,rfl,_,rfl,?_⟩;cases e:at' xs i with
   | none=>
    refine au (cw hlt ⟨s1,?_⟩);rw [cB hlt',e,j0]
   | some z=>
    refine aA ⟨_,rfl,cw hlt ⟨s1,?_⟩⟩;rw [cB hlt',e,j3,aE];rfl
  ·rintro acc H' ⟨s1,rfl⟩ l hl2;rw [el,aZ];have s2:Same H (upd H' l (.lst ((aN xs).map V.int))):=aJ s1 hl2;have h2:(upd H' l (.lst ((aN xs).map V.int))) l=some (.lst ((aN xs).map V.int)):=ag;generalize upd H' l (.lst ((aN xs).map V.int))=H2 at s2 h2;have hS2:=s2.seq hS;dsimp only [fT,tC];refine zgF (SqL.of h2) ?_;refine ⟨_,rfl,some (bj xs),rfl,oh hok,λ H3 s3=>?_⟩;have s23:=s2.trans s3;have hS3:=s23.seq hS;refine ⟨_,rfl,_,rfl,⟨_,‹_›⟩,?_⟩;refine ⟨cD (xs:=xs.map ov) (λ i acc H'=>Same H H'/\acc=((xs.take i).map (above (bj xs))).map V.int) ⟨s23,rfl⟩ ?_ (aX (aY (by omega))) ?_ ?_⟩
   ·rintro i acc H4 hi ⟨s4,rfl⟩;refine ⟨s4.seq hS,?_⟩;rw [ae,ae,bc];omega
   ·rintro i x acc H4 hx hlt ⟨s4,rfl⟩;have hlt':i < xs.length:=by rwa [ae] at hlt
    rw [aH,getD_at' hlt'] at hx;cases hx;refine ⟨Wk.set rfl,tT ⟨_,rfl,rfl,_,rfl,?_⟩⟩;cases e:at' xs i with
    | none=>
     refine aA (cw hlt ⟨s4,?_⟩);rw [cB hlt',e,aE,aE];rfl
    | some z=>
     refine au ⟨_,rfl,_,rfl,_,_,rfl,rfl,_,_,rfl,rfl,cw hlt ⟨s4,?_⟩⟩;rw [cB hlt',e,aE,aE];rfl
   ·rintro acc H4 ⟨s4,rfl⟩ l4 hl4;rw [el,aZ];have le:(xs.map (above (bj xs))).length<=1000:=by rw [ae];exact hl
    refine ⟨l4,_,rfl,SqL.of ag,le,kB hok,λ H5 s5=>?_⟩;refine ⟨_,_,rfl,rfl,?_,q _ ((aJ s4 hl4).trans s5)⟩;have a1:(cq (some (bj xs))).length=24:=cz _ _;have a2:=kS (kB hok) le;have a3:=ip;omega
theorem rN(xs:List OI)(i:Nat):stp xs (i+2)=stp xs (i+1)++[bw ((at' xs (i+1)).getD 0 - (at' xs i).getD 0)]:=by
 rw [stp,if_pos (Nat.le_add_left 1 i)];rfl
theorem uH(h:xs.all okV=true)(i:Nat): -4000000<=(at' xs i).getD 0/\(at' xs i).getD 0<=4000000:=by
 by_cases hi:i < xs.length
 ·have hm:=al_ae.mp h _ (cR (getD_at' hi));cases e:at' xs i with
  | none=>exact ⟨by decide,by decide⟩
  | some z=>rw [e] at hm;exact of_decide_eq_true hm
 ·have e:at' xs i = .none:=by
   unfold at';simp [List.getD,List.getElem?_eq_none (Nat.le_of_not_lt hi)]
  rw [e];exact ⟨by decide,by decide⟩
theorem j7{xs:List OI}(h:xs.all okV=true):∀ n,∀ v∈stp xs n,0<=v/\v < 2 ^ 30
 | 0=>λ v hv=>by cases hv
 | 1=>λ v hv=>by cases hv
 | n+2=>λ v hv=>by
  rw [rN] at hv;rcases al_mp.mp hv with hv | hv
  ·exact j7 h (n+1) v hv
  ·have e:v=_:=al_mi.mp hv;rw [e];refine ⟨nG _,?_⟩;have a:=uH h (n+1);have b:=uH h n;unfold bw
   split <;> omega
def gJ(xs:List OI):Str:=cq (at' xs 0)++dR (stp xs xs.length)
theorem zaE(xs:List OI)(h:0 < xs.length):cH (xs.map ov) (some 1) none=(xs.drop 1).map ov:=by
 unfold cH;rw [HT.sIx_none,show (1:Int)=((1:Nat):Int) from rfl,HT.sIx_nat,ae,Nat.min_eq_left h,← List.map_drop,List.take_of_length_le (by simp)]
theorem jL(hn : .none∉xs)(hi:i < xs.length):ov (at' xs i) = .int ((at' xs i).getD 0):=by
 cases e:at' xs i with
 | none=>exact absurd (e ▸ cR (getD_at' hi)) hn
 | some z=>rfl
inductive xJ (K:W.Frag) (vs:List V) (H:Hp) (Q:VK) (_E:XK):Prop
 | i (p:Addr) (xs:List OI) (_:vs=[.ref p]) (_:SqL K H p (xs.map ov)) (_:0 < xs.length) (_:xs.length<=1000) (_:xs.all okV=true) (_ : .none∉xs) (_:∀ H',Same H H'->Q (.str (gJ xs)) H')
theorem vC:(["ahead", "value"]:List Str).Nodup:=by decide +kernel
theorem sc_steps_bits:aC ["values", "steps"] ["values"] (av qL):=by walk_at "sc"
theorem zfs(T:Txt K mg t)(ke:Cal P w K mg base CX0 1 "folded" ["step"] lP)(eS:Cal P w K mg base CX0 3 "value_bits" ["value"] j5)(iA:Cal P w K mg base CX0 3 "even_bits" ["numbers"] (rp K))(F:Fun K "steps_bits" "steps_bits" qL f fd):
  FnOk P w K mg base CX0 4 f fd ["values"] (xJ K):=by
 refine F.ok sc_steps_bits (λ vs H Q E h=>?_) (λ cdv A outer s H vs Q E hr h=>?_)
 ·obtain ⟨p,xs,rfl,_⟩:=h;rfl
 ·obtain ⟨p,xs,rfl,hS,h0,hl,hok,hn,q⟩:=h;refine ⟨_,(ah (fk (i:=1) sc_steps_bits.nd rfl (Or.inl rfl) (N:=["ahead", "value"]) (fr:=[none,none]) ⟨rfl,rfl,rfl,rfl,rfl,rfl⟩ rfl (lD K (by rfl) T.jM (aa (pv 0) (aa (d0 (gk K) (pv 0) (cY af) fB) ad)))
    (λ C fp s H=>⟨fg K (n:=2) rfl (cK (aR (i:=0) vC rfl (Or.inl rfl)) (cK (aR (i:=1) vC rfl (Or.inl rfl)) fh)),bS,(ke.pe hr ax (aa (ak bK (pv 1) (pv 0)) ad))⟩))
  (ap (ay (ak gi (eS.pe hr ax (aa (aP (bq K) (pv 0) af (λ _ _=>rfl)) ad)) (iA.pe hr ax (aa (pv 1) ad)))))),?_⟩
  refine ⟨_,rfl,_,rfl,_,rfl,_,_,rfl,‹_›,?_⟩;intro l1 hl1;rw [zaE xs h0];have s1:Same H (upd H l1 (.lst ((xs.drop 1).map ov))):=Same.new hl1;have h1:(upd H l1 (.lst ((xs.drop 1).map ov))) l1=some (.lst ((xs.drop 1).map ov)):=ag;generalize upd H l1 (.lst ((xs.drop 1).map ov))=H1 at s1 h1;have hS1:=s1.seq hS;refine ⟨p,l1,_,_,rfl,hS1,SqL.of h1,?_⟩;refine ⟨nu (xs:=xs.map ov) (ys:=(xs.drop 1).map ov) (λ i acc H'=>Same H1 H'/\acc=(stp xs (i+1)).map V.int) ⟨Same.refl _,rfl⟩
   (xs.length - 1) (by rw [ae,ae,List.length_drop];omega) (λ i acc H' hi hp'=>⟨hp'.1.seq hS1,SqL.of (hp'.1 _ _ h1),by rw [hp'.2,ae,fS];omega⟩) (aX (aY (by omega))) ?_ ?_⟩
  ·rintro i x y acc H3 T' hx' hy' hi ⟨s3,rfl⟩ hT;have hi1:i < xs.length:=by omega
   have hi2:i+1 < xs.length:=by omega
   have ex:x = .int ((at' xs i).getD 0):=by
    rw [aH,getD_at' hi1] at hx';cases hx';exact jL hn hi1
   have ey:y = .int ((at' xs (i+1)).getD 0):=by
    rw [aH,List.getElem?_drop,Nat.add_comm 1 i,getD_at' hi2] at hy';cases hy';exact jL hn hi2
   subst ex ey;have s4:Same H1 (upd H3 T' (.tup [.int ((at' xs i).getD 0),.int ((at' xs (i+1)).getD 0)])):=aJ s3 hT;refine ⟨T',_,rfl,SqT.of ag,rfl,_,_,rfl,_,_,rfl,rfl,(Wk.set rfl).trans (Wk.set rfl),tT ?_⟩;refine ⟨_,rfl,_,rfl,_,_,rfl,rfl,_,rfl,cw hi ⟨s4,?_⟩⟩;rw [rN,aE];rfl
  ·rintro acc H3 ⟨s3,rfl⟩ l3 hl3;have e1:xs.length - 1+1=xs.length:=by omega
   rw [e1];have s4:Same H (upd H3 l3 (.lst ((stp xs xs.length).map V.int))):=aJ (s1.trans s3) hl3;have h4:(upd H3 l3 (.lst ((stp xs xs.length).map V.int))) l3=some (.lst ((stp xs xs.length).map V.int)):=ag;generalize upd H3 l3 (.lst ((stp xs xs.length).map V.int))=H4 at s4 h4;have hS4:=s4.seq hS;have a0:atI (xs.map ov) 0=some (ov (at' xs 0)):=ef (j:=0) (by rw [aH,getD_at' h0];rfl);have le:(stp xs xs.length).length<=1000:=by rw [← e1,fS];omega
   refine ⟨_,rfl,p,_,_,_,rfl,rfl,hS4,a0,at' xs 0,rfl,al_ae.mp hok _ (cR (getD_at' h0)),λ H5 s5=>?_⟩;refine ⟨_,rfl,l3,_,rfl,SqL.of (s5 _ _ h4),le,j7 hok _,λ H6 s6=>?_⟩;refine ⟨_,_,rfl,rfl,?_,q _ ((s4.trans s5).trans s6)⟩;have a1:(cq (at' xs 0)).length=24:=cz _ _;have a2:=kS (j7 hok xs.length) le;have a3:=ip;omega
def gj(rs:List (OI × Nat))(v:OI):List (OI × Nat):=match rs.getLast? with
 | some (u,k)=>if u=v then rs.dropLast++[(v,k+1)] else rs++[(v,1)]
 | .none=>[(v,1)]
def cy(xs:List OI):List (OI × Nat):=xs.foldl gj []
theorem jY(xs:List OI)(v:OI):cy (xs++[v])=gj (cy xs) v:=by
 unfold cy;rw [List.foldl_append];rfl
theorem zg3(v:OI):gj [] v=[(v,1)]:=rfl
theorem jV(rs:List (OI × Nat))(u:OI)(k:Nat)(v:OI):gj (rs++[(u,k)]) v=if u=v then rs++[(v,k+1)] else (rs++[(u,k)])++[(v,1)]:=by
 unfold gj;rw [List.getLast?_append];simp
theorem zg1(rs:List (OI × Nat))(v:OI):(gj rs v).length<=rs.length+1:=by
 rcases List.eq_nil_or_concat rs with rfl | ⟨r,⟨u,k⟩,rfl⟩
 ·exact az _
 ·rw [List.concat_eq_append,jV]
  split <;> simp
theorem jX(xs:List OI):(cy xs).length<=xs.length:=by
 rcases List.eq_nil_or_concat xs with rfl | ⟨r,v,e⟩
 ·exact az _
 ·have ih:=jX r;have:=zg1 (cy r) v;rw [e,List.concat_eq_append,jY,bn,d5];omega
termination_by xs.length
decreasing_by (rw [e,List.concat_eq_append,bn];exact Nat.lt_succ_self _)
inductive mP (H:Hp) (l:Addr) (rs:List (OI × Nat)):Prop
 | i (as:List Addr) (_:H l=some (.lst (as.map V.ref))) (_:as.length=rs.length) (_:∀ (j:Nat) (a:Addr) (v:OI) (k:Nat),as[j]?=some a->rs[j]?=some (v,k)->H a=some (.tup [ov v,.int k]))
theorem oV{rs:List (OI × Nat)}(g:H l=some (.lst zs))(ea:as.length=rs.length)(el:∀ (j:Nat) (a:Addr) (v:OI) (k:Nat),as[j]?=some a->rs[j]?=some (v,k)->H a=some (.tup [ov v,.int k]))(hT:H a'=none):
  mP (upd (upd H a' (.tup [ov v,.int k])) l (.lst (as.map V.ref++[.ref a']))) l (rs++[(v,k)]):=by
 refine ⟨as++[a'],?_,by simp [ea],λ j a u m e1 e2=>?_⟩
 ·rw [ag,aE];rfl
 ·by_cases hj:j < as.length
  ·rw [List.getElem?_append_left hj] at e1;rw [List.getElem?_append_left (by omega)] at e2;have e:=el j a u m e1 e2;rw [aj (eC e g (by intro z;cases z)),aj (aI e hT)];exact e
  ·rw [List.getElem?_append_right (by omega)] at e1;rw [List.getElem?_append_right (by omega)] at e2;have h0:j - as.length=0:=by
    have:=(al_gs.mp e1).1;simp at this;omega
   rw [h0] at e1;rw [show j - rs.length=0 by omega] at e2;cases e1;cases e2;rw [aj (λ z=>by rw [z,g] at hT;cases hT),ag]
theorem qW{o':HO}(s4:Same H H4)(hT:H4 a'=none)(hl:H l=none):Same H (upd (upd H4 a' o) l o'):=λ b z e=>by
 rw [aj (aI e hl)];exact aJ s4 hT b z e
inductive xH (K:W.Frag) (vs:List V) (H:Hp) (Q:VK) (_E:XK):Prop
 | i (p:Addr) (xs:List OI) (_:vs=[.ref p]) (_:SqL K H p (xs.map ov)) (_:xs.length<=1000) (_:∀ (l:Addr) (H':Hp),Same H H'->H l=none->mP H' l (cy xs)->Q (.ref l) H')
theorem sc_runs_of:aC ["values", "runs", "value"] ["values"] (av qK):=by walk_at "sc"
theorem zfq(T:Txt K mg t)(F:Fun K "runs_of" "runs_of" qK f fd):FnOk P w K mg base CX0 1 f fd ["values"] (xH K):=by
 refine F.ok sc_runs_of (λ vs H Q E h=>?_) (λ cdv A outer s H vs Q E hr h=>?_)
 ·obtain ⟨p,xs,rfl,_⟩:=h;rfl
 ·obtain ⟨p,xs,rfl,hS,hl,q⟩:=h;refine ⟨_,(ah (aD (i:=1) sc_runs_of.nd rfl (Or.inl rfl) (bR ad))
  (ah (eD PassesOwn.never rfl (bN (pv 0)) (aR (i:=2) sc_runs_of.nd rfl (Or.inl rfl))
   (ap (aW (PW.pt (ik (i9 K (pv 1)) (jT (aF cb (aP (cj K) (aP (bq K) (pv 1) (dC dF af) (λ _ _=>rfl)) af (λ _ _=>rfl)) (pv 2) (aB _))))) (ap (zgh (dM (aa (pv 2) (aa (ak a7 (aP (cj K) (aP (bq K) (pv 1) (dC dF af) (λ _ _=>rfl)) af (λ _ _=>rfl)) af) ad))) (zf5 (pv 1) (dC dF af) zhZ)))
   (ap (ci (cu K PySem.F.plainAttrs_list PySem.F.slot_list_append PySem.F.type_list_append fe (pv 1) (aa (dM (aa (pv 2) (aa af ad))) ad)))))))
  (ap (ay (pv 1))))),?_⟩
  refine ⟨aO rfl,?_⟩;intro l hln;have s1:Same H (upd H l (.lst [])):=Same.new hln;have h1:(upd H l (.lst [])) l=some (.lst []):=ag;generalize upd H l (.lst [])=H1 at s1 h1;have hS1:=s1.seq hS;refine ⟨_,rfl,_,rfl,⟨_,‹_›⟩,?_⟩;refine ⟨gw (K:=K) (a:=p) (xs:=xs.map ov) (λ i σ H'=>∃ v:Option V,σ=[some (.ref p),some (.ref l),v]/\Same H H'/\mP H' l (cy (xs.take i)))
   ⟨none,rfl,s1,[],h1,rfl,λ j a v k e=>by cases e⟩ (λ i σ H' hi hp=>by obtain ⟨_,_,s2,_⟩:=hp;exact s2.seq hS) ?_ ?_⟩
  ·rintro i y σ H4 hi ⟨v,rfl,s4,as,g4,ea,el⟩;have hil:i < xs.length:=by
    have:=(al_gs.mp hi).1
    rwa [ae] at this
   rw [aH,getD_at' hil] at hi;cases hi;have et:cy (xs.take (i+1))=gj (cy (xs.take i)) (at' xs i):=by rw [cB hil,jY]
   have hle:=jX (xs.take i);rw [bc] at hle;rw [et];generalize cy (xs.take i)=rs at ea el hle;have hz:(as.map V.ref).length < sizeLine:=by rw [ae];exact aY (by omega)
   rcases List.eq_nil_or_concat rs with rfl | ⟨r0,⟨u,k⟩,er⟩
   ·have e0:as=[]:=List.eq_nil_of_length_eq_zero ea;subst e0;refine ⟨_,rfl,_,_,rfl,SqL.of g4,_,rfl,Or.inl ⟨rfl,_,SqL.of ‹_›⟩,_,rfl,aO rfl,?_⟩;intro a' hT;have n1:l≠a':=λ z=>by rw [← z,g4] at hT;cases hT
    refine ⟨l,_,_,rfl,rfl,by rw [aj n1];exact g4,hz,_,rfl,qW s4 hT hln,?_⟩;exact oV (k:=1) g4 ea el hT
   ·rw [List.concat_eq_append] at er;subst er;rcases List.eq_nil_or_concat as with rfl | ⟨as0,a0,eas⟩
    ·rw [bn] at ea;cases ea
    rw [List.concat_eq_append] at eas;subst eas;have l0:as0.length=r0.length:=by
     rw [bn,bn] at ea;exact Nat.add_right_cancel ea
    have h0:H4 a0=some (.tup [ov u,.int k]):=el as0.length a0 u k (by rw [List.getElem?_append_right (az _),Nat.sub_self];rfl) (by rw [l0,List.getElem?_append_right (az _),Nat.sub_self];rfl);have at1:atI ((as0++[a0]).map V.ref) (-1)=some (.ref a0):=by rw [aE];exact kE _ _
    have g4':SqL K H4 l ((as0++[a0]).map V.ref):=SqL.of g4;have h0':SqT K H4 a0 [ov u,.int k]:=SqT.of h0;have at2:atI [ov u,.int k] 0=some (ov u):=rfl;have at3:atI [ov u,.int (k:Int)] 1=some (.int k):=rfl;rw [jV];have hne:(!((as0++[a0]).map V.ref).isEmpty)=true:=by simp
    refine ⟨_,rfl,_,_,rfl,‹_›,?_⟩;rw [hne];refine aA ⟨_,rfl,_,rfl,_,_,_,_,rfl,rfl,g4',at1,_,_,_,_,rfl,rfl,h0',at2,_,rfl,lw _ _,_,rfl,?_⟩;rw [oE];refine g9 (λ hc=>?_) (λ hc=>?_)
    ·have hc:u=at' xs i:=of_decide_eq_true hc;rw [if_pos hc];have i1:ixN ((as0++[a0]).map V.ref).length (-1)=some as0.length:=by
      rw [ae,bn,d5];unfold ixN;rw [if_neg (by decide),if_pos (by omega)]
      congr 1
      omega
     refine ⟨_,rfl,_,rfl,_,rfl,_,_,_,_,rfl,rfl,g4',at1,_,_,_,_,rfl,rfl,h0',at3,_,_,rfl,rfl,(show 2<=sizeLine by decide),λ a' hT=>?_⟩;have n1:l≠a':=λ z=>by rw [← z,g4] at hT;cases hT
     refine ⟨_,rfl,_,rfl,l,_,_,as0.length,rfl,rfl,by rw [aj n1];exact g4,i1,_,rfl,qW s4 hT hln,?_⟩;have e1:((as0++[a0]).map V.ref).set as0.length (.ref a')=as0.map V.ref++[.ref a']:=by
      rw [aE,List.set_append_right _ _ (by rw [ae];exact az _),ae,Nat.sub_self];rfl
     rw [e1];refine oV (k:=k+1) g4 l0 (λ j a v m x1 x2=>el j a v m ?_ ?_) hT
     ·rw [List.getElem?_append_left (al_gs.mp x1).1];exact x1
     ·rw [List.getElem?_append_left (al_gs.mp x2).1];exact x2
    ·have hc:¬ u=at' xs i:=λ z=>hc (aV z);rw [if_neg hc];refine ⟨_,rfl,Or.inl ⟨rfl,_,SqL.of ‹_›⟩,_,rfl,aO rfl,?_⟩;intro a' hT;have n1:l≠a':=λ z=>by rw [← z,g4] at hT;cases hT
     refine ⟨l,_,_,rfl,rfl,by rw [aj n1];exact g4,hz,_,rfl,qW s4 hT hln,?_⟩;exact oV (k:=1) g4 ea el hT
  ·rintro σ H4 ⟨v,rfl,s4,R4⟩;rw [ae,aZ] at R4;exact ⟨_,rfl,q l _ s4 hln R4⟩
theorem wG:∀ (xs:List OI) (v:OI) (k:Nat),(v,k)∈cy xs->v∈xs/\1<=k:=by
 intro xs;generalize hn:xs.length=n;induction n generalizing xs with
 | zero=>
  intro v k h;rw [List.eq_nil_of_length_eq_zero hn] at h;cases h
 | succ n ih=>
  intro v k h;rcases List.eq_nil_or_concat xs with rfl | ⟨r,y,e⟩
  ·cases h
  rw [List.concat_eq_append] at e;subst e;have hr:r.length=n:=by
   rw [bn,d5] at hn;omega
  have ih:=ih r hr;rw [jY] at h;have old:(v,k)∈cy r->v∈r++[y]/\1<=k:=λ z=>⟨List.mem_append_left _ (ih v k z).1,(ih v k z).2⟩
  generalize cy r=rs at h ih old;rcases List.eq_nil_or_concat rs with rfl | ⟨r0,⟨u,m⟩,er⟩
  ·rw [zg3] at h;cases al_mi.mp h;exact ⟨List.mem_append_right _ (List.mem_singleton_self _),az _⟩
  ·rw [List.concat_eq_append] at er;subst er;rw [jV] at h
   split at h
   ·rcases al_mp.mp h with h | h
    ·exact old (List.mem_append_left _ h)
    ·cases al_mi.mp h;exact ⟨List.mem_append_right _ (List.mem_singleton_self _),Nat.le_add_left _ _⟩
   ·rcases al_mp.mp h with h | h
    ·exact old h
    ·cases al_mi.mp h;exact ⟨List.mem_append_right _ (List.mem_singleton_self _),az _⟩
theorem zg2(rs:List (OI × Nat))(v:OI):gj rs v≠[]:=by
 rcases List.eq_nil_or_concat rs with rfl | ⟨r,⟨u,k⟩,rfl⟩
 ·intro z;cases z
 ·rw [List.concat_eq_append,jV]
  split <;> simp
theorem wH(h:0 < xs.length):0 < (cy xs).length:=by
 rcases List.eq_nil_or_concat xs with rfl | ⟨r,y,e⟩
 ·cases h
 ·rw [e,List.concat_eq_append,jY];exact List.length_pos_iff.mpr (zg2 _ _)
def df(q:OI × Nat):Str:=cq q.1++b8 (q.2 - 1) 8
def im(xs:List OI):Str:=b8 ((cy xs).length - 1) 8++bp ((cy xs).map df)
theorem oA(q:OI × Nat):(df q).length=32:=by
 unfold df;rw [cT,cz];have:(cq q.1).length=24:=cz _ _;omega
inductive xG (K:W.Frag) (vs:List V) (H:Hp) (Q:VK) (_E:XK):Prop
 | i (p:Addr) (xs:List OI) (_:vs=[.ref p]) (_:SqL K H p (xs.map ov)) (_:0 < xs.length) (_:xs.length<=1000) (_:xs.all okV=true) (_:∀ H',Same H H'->Q (.str (im xs)) H')
theorem vB:(["value", "times"]:List Str).Nodup:=by decide +kernel
theorem sc_runs_bits:aC ["values", "runs", "written"] ["values"] (av qJ):=by walk_at "sc"
theorem zfp(T:Txt K mg t)(mH:Cal P w K mg base CX0 1 "runs_of" ["values"] (xH K))(eS:Cal P w K mg base CX0 3 "value_bits" ["value"] j5)(cZ:Cal P w K mg base CX0 1 "in_bits" ["number", "width"] jb)(F:Fun K "runs_bits" "runs_bits" qJ f fd):
  FnOk P w K mg base CX0 4 f fd ["values"] (xG K):=by
 refine F.ok sc_runs_bits (λ vs H Q E h=>?_) (λ cdv A outer s H vs Q E hr h=>?_)
 ·obtain ⟨p,xs,rfl,_⟩:=h;rfl
 ·obtain ⟨p,xs,rfl,hS,h0,hl,hok,q⟩:=h;refine ⟨_,(ah (aD (i:=1) sc_runs_bits.nd rfl (Or.inl rfl) (mH.pe hr ax (aa (pv 0) ad)))
  (ah (fk (i:=2) sc_runs_bits.nd rfl (Or.inl rfl) (N:=["value", "times"]) (fr:=[none,none]) ⟨rfl,rfl,rfl,rfl,rfl,rfl⟩ rfl (bN (pv 1))
    (λ C fp s H=>⟨fg K (n:=2) rfl (cK (aR (i:=0) vB rfl (Or.inl rfl)) (cK (aR (i:=1) vB rfl (Or.inl rfl)) fh)),bS,(ak gi (eS.pe hr ax (aa (pv 0) ad)) (cZ.pe hr ax (aa (ak bK (pv 1) af) (aa (bz T.nR) ad))))⟩))
  (ap (ay (ak gi (cZ.pe hr ax (aa (ak bK (aM (bQ K) (by rfl) T.bv PyProof.Rows.Boot.«len» (aa (pv 1) ad)) af) (aa (bz T.nQ) ad))) (cu K PySem.F.plainAttrs_str PySem.F.slot_str_join PySem.F.type_str_join (i4 K) aQ (aa (pv 2) ad))))))),?_⟩
  refine ⟨_,rfl,p,xs,rfl,hS,hl,λ l H1 s1 hln R1=>?_⟩;have hfacts:=wG xs;have hpos:=wH h0;have hle:=jX xs;obtain ⟨as,g1,ea,el⟩:=R1;have q':∀ H',Same H H'->Q (.str (b8 ((cy xs).length - 1) 8++bp ((cy xs).map df))) H':=q;generalize cy xs=rs at hfacts hpos hle ea el q';have g1':SqL K H1 l (as.map V.ref):=SqL.of g1;refine ⟨_,rfl,_,rfl,⟨_,‹_›⟩,?_⟩;have el1:(as.map V.ref).length=rs.length:=by rw [ae];exact ea
  have hl1:(as.map V.ref).length<=1000:=by omega
  refine ⟨cD (xs:=as.map V.ref) (λ i acc H'=>Same H1 H'/\acc=((rs.take i).map df).map V.str) ⟨Same.refl _,rfl⟩ ?_ (aX (aY hl1)) ?_ ?_⟩
  ·rintro i acc H2 hi ⟨s2,rfl⟩;refine ⟨s2.seq g1',?_⟩;rw [ae,ae,bc];omega
  ·rintro i x acc H2 hx hlt ⟨s2,rfl⟩;have hia:i < as.length:=by rwa [ae] at hlt
   have hir:i < rs.length:=by omega
   have ex:rs[i]?=some rs[i]:=aG hir;have exa:as[i]?=some as[i]:=aG hia;rw [aH,exa] at hx;cases hx;obtain ⟨f1,f2⟩:=hfacts rs[i].1 rs[i].2 (List.getElem_mem hir);have tp:=s2 _ _ (el i as[i] rs[i].1 rs[i].2 exa ex);have ek:((rs[i].2:Int) - 1)=((rs[i].2 - 1:Nat):Int):=by omega
   have tk:rs.take (i+1)=rs.take i++[rs[i]]:=by rw [cL,ex];rfl
   refine ⟨as[i],_,rfl,SqT.of tp,rfl,_,_,rfl,_,_,rfl,rfl,(Wk.set rfl).trans (Wk.set rfl),tT ?_⟩;refine ⟨_,rfl,rs[i].1,rfl,al_ae.mp hok _ f1,λ H3 s3=>?_⟩;refine ⟨_,rfl,_,_,rfl,rfl,rs[i].2 - 1,8,?_,by decide,λ H4 s4=>?_⟩
   ·show [V.int ((rs[i].2:Int) - 1),V.int 8]=_;rw [ek];rfl
   refine ⟨_,_,rfl,rfl,?_,cw hlt ⟨(s2.trans s3).trans s4,?_⟩⟩
   ·have a1:(cq rs[i].1).length=24:=cz _ _;have a2:(b8 (rs[i].2 - 1) 8).length=8:=cz _ _;have a3:=ip;omega
   ·rw [tk,aE,aE];rfl
  ·rintro acc H2 ⟨s2,rfl⟩ l2 hl2;rw [el1,aZ];have s3:Same H1 (upd H2 l2 (.lst ((rs.map df).map V.str))):=aJ s2 hl2;have h3:(upd H2 l2 (.lst ((rs.map df).map V.str))) l2=some (.lst ((rs.map df).map V.str)):=ag;generalize upd H2 l2 (.lst ((rs.map df).map V.str))=H3 at s3 h3;have g3:=s3.seq g1';have ek:((as.map V.ref).length:Int) - 1=((rs.length - 1:Nat):Int):=by rw [el1];omega
   have sz:((rs.map df).map (·.length)).sum=32 * rs.length:=gK λ x _=>oA x;refine ⟨_,rfl,l,_,rfl,Or.inl g3,_,_,rfl,rfl,rs.length - 1,8,?_,by decide,λ H4 s4=>?_⟩
   ·show [V.int (((as.map V.ref).length:Int) - 1),V.int 8]=_;rw [ek];rfl
   refine ⟨rfl,_,rfl, "", l2,rs.map df,rfl,rfl,SqL.of (s4 _ _ h3),?_,?_⟩
   ·rw [sz];show _+_ * 0<=16777216;omega
   ·rw [iX];refine ⟨_,_,rfl,rfl,?_,q' _ ((s1.trans s3).trans s4)⟩;have a2:(b8 (rs.length - 1) 8).length=8:=cz _ _;have a3:=ip;rw [a2,fL,sz];omega
def bkj:Nat->List OI->List (Key × V)
 | _,[]=>[]
 | n,w::r=>(Sum.inl w,.int (n:Nat))::bkj (n+1) r
theorem tm(v:OI):∀ (ws:List OI) (n:Nat),bkj n (ws++[v])=bkj n ws++[(Sum.inl v,.int ((n+ws.length:Nat):Int))]
 | [],n=>rfl
 | w::r,n=>by
  show (Sum.inl w,V.int (n:Nat))::bkj (n+1) (r++[v])=_;rw [tm v r (n+1)];show _=(Sum.inl w,V.int (n:Nat))::(bkj (n+1) r++_);rw [bY,show n+1+r.length=n+(r.length+1) by omega]
theorem kG:∀ (ws:List OI) (n:Nat),(bkj n ws).length=ws.length
 | [],_=>rfl
 | _::r,n=>congrArg Nat.succ (kG r (n+1))
theorem sZ:∀ (ws:List OI) (n:Nat),(bkj n ws).map (λ kv=>kV kv.1)=ws.map ov
 | [],_=>rfl
 | w::r,n=>by
  show kV (Sum.inl w)::(bkj (n+1) r).map (λ kv=>kV kv.1)=ov w::r.map ov;rw [sZ r (n+1)];cases w <;> rfl
theorem tf{v:OI}:∀ {ws:List OI} (n:Nat),v∉ws->bJ (bkj n ws) (Sum.inl v:Key)=none
 | [],_,_=>rfl
 | w::r,n,h=>by
  show bJ ((Sum.inl w,V.int (n:Nat))::bkj (n+1) r) _=none;rw [eQ (λ e=>h (by cases e;exact cG ..))];exact tf (n+1) λ z=>h (bV _ z)
theorem m9{v:OI}:∀ {ws:List OI} (n:Nat),v∈ws->bJ (bkj n ws) (Sum.inl v:Key)=some (.int ((n+ws.idxOf v:Nat):Int))
 | [],_,h=>nomatch h
 | w::r,n,h=>by
  show bJ ((Sum.inl w,V.int (n:Nat))::bkj (n+1) r) _=_;by_cases e:w=v
  ·subst e;rw [fq rfl,List.idxOf_cons_self];rfl
  ·rw [eQ (λ z=>e (by cases z;rfl)),m9 (n+1) ((al_mc.mp h).resolve_left λ z=>e z.symm),List.idxOf_cons,show (w == v)=false by simpa using e,show n+1+r.idxOf v=n+(r.idxOf v+1) by omega];rfl
theorem uU(o:OI):kV (Sum.inl o)=ov o:=by cases o <;> rfl
theorem zhb(s4:Same H H4)(hd:H d=none):Same H (upd H4 d o):=λ b z e=>by
 rw [aj (aI e hd)];exact s4 b z e
theorem kH(xs:List OI):∀ n,n<=xs.length->(aq (xs.take n)).book.length<=n
 | 0,_=>az _
 | n+1,h=>by
  have ih:=kH xs n (by omega);rw [fC h];show (if at' xs n∈(aq (xs.take n)).book then (aq (xs.take n)).book else (aq (xs.take n)).book++[at' xs n]).length<=n+1
  split
  ·omega
  ·rw [bn,d5];omega
def fE(ws:List OI)(v:OI):Str:=b8 (ws.idxOf v) (aK (ws.length - 1))
def gU(xs:List OI):Str:=b8 ((aq xs).book.length - 1) 6++dN (aq xs).book++bp (xs.map (fE (aq xs).book))
inductive w5 (K:W.Frag) (vs:List V) (H:Hp) (Q:VK) (_E:XK):Prop
 | i (p:Addr) (xs:List OI) (_:vs=[.ref p]) (_:SqL K H p (xs.map ov)) (_:0 < xs.length) (_:xs.length<=1000) (_:xs.all okV=true) (_:∀ H',Same H H'->Q (.str (gU xs)) H')
theorem zdr:(["value", "width", "book"]:List Str).Nodup:=by decide +kernel
theorem sc_book_bits:aC ["values", "book", "value", "width", "numbers"] ["values"] (av pH):=by walk_at "sc"
theorem zep(T:Txt K mg t)(eR:Cal P w K mg base CX0 1 "needed" ["number"] iq)(cZ:Cal P w K mg base CX0 1 "in_bits" ["number", "width"] jb)(kh:Cal P w K mg base CX0 4 "plain_bits" ["values"] (rH K))(F:Fun K "book_bits" "book_bits" pH f fd):
  FnOk P w K mg base CX0 5 f fd ["values"] (w5 K):=by
 refine F.ok sc_book_bits (λ vs H Q E h=>?_) (λ cdv A outer s H vs Q E hr h=>?_)
 ·obtain ⟨p,xs,rfl,_⟩:=h;rfl
 ·obtain ⟨p,xs,rfl,hS,h0,hl,hok,q⟩:=h;have hu:=ge hr;refine ⟨_,(ah (aD (i:=1) sc_book_bits.nd rfl (Or.inr rfl) vU)
  (ah (eD PassesOwn.never rfl (bN (pv 0)) (aR (i:=2) sc_book_bits.nd rfl (Or.inl rfl))
   (ap (ci (cu K PySem.F.plainAttrs_dict PySem.F.slot_dict_setdefault PySem.F.type_dict_setdefault zc9 (pv 1) (aa (pv 2) (aa (aM kI (by rfl) T.bv PyProof.Rows.Boot.«len» (aa (pv 1) ad)) ad))))))
  (ah (aD (i:=3) sc_book_bits.nd rfl (Or.inr rfl) (eR.pe hr ax (aa (ak bK (aM kI (by rfl) T.bv PyProof.Rows.Boot.«len» (aa (pv 1) ad)) af) ad)))
  (ah (fk (i:=4) sc_book_bits.nd rfl (Or.inl rfl) (N:=["value", "width", "book"]) (fr:=[none,some 3,some 1]) ⟨rfl,rfl,rfl,rfl,rfl,rfl⟩ rfl (bN (pv 0))
    (λ C fp s H=>⟨aR (i:=0) zdr rfl (Or.inl rfl),bS,(cZ.pe hr ax (aa (oJ hu (pv 2) (pv 0) (λ _ _=>rfl)) (aa (pv 1) ad)))⟩))
  (ap (ay (ak gi (ak gi (cZ.pe hr ax (aa (ak bK (aM kI (by rfl) T.bv PyProof.Rows.Boot.«len» (aa (pv 1) ad)) af) (aa (bz T.nM) ad))) (kh.pe hr ax (aa (ij (tH rfl) (by rfl) T.jK PyProof.Rows.Boot.«list» (aa (pv 1) ad)) ad))) (cu K PySem.F.plainAttrs_str PySem.F.slot_str_join PySem.F.type_str_join (i4 K) aQ (aa (pv 4) ad))))))))),?_⟩
  intro d hd;have s1:Same H (upd H d (.dK [])):=Same.new hd;have h1:(upd H d (.dK [])) d=some (.dK (bkj 0 [])):=ag;generalize upd H d (.dK [])=H1 at s1 h1;have hS1:=s1.seq hS;refine ⟨_,rfl,p,rfl,⟨_,hS1⟩,⟨gw (K:=K) (a:=p) (xs:=xs.map ov) (λ i σ H'=>∃ v:Option V,σ=[some (.ref p),some (.ref d),v,none,none]/\Same H H'/\H' d=some (.dK (bkj 0 (aq (xs.take i)).book)))
   ⟨none,rfl,s1,h1⟩ (λ i σ H' hi hp=>by obtain ⟨_,_,s2,_⟩:=hp;exact s2.seq hS) ?_ ?_⟩⟩
  ·rintro i y σ H4 hi ⟨v,rfl,s4,h4⟩;have hil:i < xs.length:=by
    have:=(al_gs.mp hi).1
    rwa [ae] at this
   rw [aH,getD_at' hil] at hi;cases hi;have et:(aq (xs.take (i+1))).book=if at' xs i∈(aq (xs.take i)).book then (aq (xs.take i)).book else (aq (xs.take i)).book++[at' xs i]:=by
    rw [fC hil];rfl
   have hle:=kH xs i (by omega);rw [et];generalize (aq (xs.take i)).book=ws at h4 hle;refine ⟨_,rfl,Or.inr (Or.inr (Or.inl ⟨rfl,Or.inl ⟨_,h4⟩⟩)),_,rfl,_,rfl,d,_,rfl,h4,d,_,Sum.inl (at' xs i),_,rfl,by rw [uU],h4,λ z hz=>?_,λ hz=>⟨?_,?_⟩⟩
   ·have hm:at' xs i∈ws:=by
     by_cases hm:at' xs i∈ws
     ·exact hm
     ·rw [tf 0 hm] at hz;cases hz
    rw [if_pos hm];exact ⟨_,rfl,s4,h4⟩
   ·rw [kG];exact aY (by omega)
   ·have hm:at' xs i∉ws:=λ hm=>by rw [m9 0 hm] at hz;cases hz
    rw [if_neg hm];refine ⟨_,rfl,zhb s4 hd,?_⟩;rw [ag,zgs _ hz,tm,kG,Nat.zero_add]
  ·rintro σ H4 ⟨v,rfl,s4,h4⟩;rw [ae,aZ] at h4;have hle:=kH xs xs.length (az _);have hmem:=om (xs:=xs) xs.length;rw [aZ] at hle hmem;have q':∀ H',Same H H'->Q (.str (b8 ((aq xs).book.length - 1) 6++dN (aq xs).book++bp (xs.map (fE (aq xs).book)))) H':=q;generalize (aq xs).book=ws at h4 hle hmem q';have hpos:0 < ws.length:=List.length_pos_of_mem ((hmem _ (az _)).mpr (cR (getD_at' h0)));have el:((bkj 0 ws).length:Int) - 1=((ws.length - 1:Nat):Int):=by rw [kG];omega
   have hw:aK (ws.length - 1)<=10:=ie (by omega);have hS4:=s4.seq hS;have ew:aK (((bkj 0 ws).length:Int) - 1).toNat=aK (ws.length - 1):=by rw [el,Int.toNat_natCast]
   refine ⟨_,rfl,d,_,rfl,h4,_,_,rfl,rfl,_,rfl,by omega,?_⟩;rw [ew];refine ⟨_,rfl,p,rfl,⟨_,hS4⟩,⟨cD (xs:=xs.map ov) (λ i acc H'=>Same H4 H'/\acc=((xs.take i).map (fE ws)).map V.str) ⟨Same.refl _,rfl⟩ ?_ ?_ ?_ ?_⟩⟩
   ·rintro i acc H5 hi ⟨s5,rfl⟩;refine ⟨s5.seq hS4,?_⟩;rw [ae,ae,bc];omega
   ·rw [ae];exact aX (aY hl)
   ·rintro i x acc H5 hx hlt ⟨s5,rfl⟩;have hlt':i < xs.length:=by rwa [ae] at hlt
    rw [aH,getD_at' hlt'] at hx;cases hx;have hm:at' xs i∈ws:=(hmem _ (az _)).mpr (cR (getD_at' hlt'));have h5:=s5 _ _ h4;have dg:DGet H5 d (ov (at' xs i)) (some (.int ((ws.idxOf (at' xs i):Nat):Int))):=.inl ⟨_,Sum.inl (at' xs i),.inl h5,(uU _).symm,by rw [m9 0 hm,Nat.zero_add]⟩;refine ⟨Wk.set rfl,tT ?_⟩;refine ⟨_,rfl,_,rfl,d,_,rfl,dg,_,rfl,ws.idxOf (at' xs i),aK (ws.length - 1),rfl,by omega,λ H6 s6=>cw hlt ⟨s5.trans s6,?_⟩⟩;rw [cB hlt',aE,aE];rfl
   ·rintro acc H5 ⟨s5,rfl⟩ l5 hl5;rw [ae,aZ];have s6:Same H4 (upd H5 l5 (.lst ((xs.map (fE ws)).map V.str))):=aJ s5 hl5;have h6:(upd H5 l5 (.lst ((xs.map (fE ws)).map V.str))) l5=some (.lst ((xs.map (fE ws)).map V.str)):=ag;generalize upd H5 l5 (.lst ((xs.map (fE ws)).map V.str))=H6 at s6 h6;have d6:=s6 _ _ h4;have sz:((xs.map (fE ws)).map (·.length)).sum=aK (ws.length - 1) * xs.length:=gK λ x _=>cz _ _;have szl:aK (ws.length - 1) * xs.length<=10 * 1000:=Nat.mul_le_mul hw hl;have okw:ws.all okV=true:=al_ae.mpr λ v hv=>al_ae.mp hok v ((hmem v (az _)).mp hv);refine ⟨_,rfl,d,_,rfl,d6,_,_,rfl,rfl,ws.length - 1,6,?_,by decide,λ H7 s7=>?_⟩
    ·show [V.int (((bkj 0 ws).length:Int) - 1),V.int 6]=_;rw [el];rfl
    refine ⟨_,rfl,d,_,rfl,s7 _ _ d6,λ l8 hl8=>?_⟩;rw [sZ];refine ⟨l8,ws,rfl,SqL.of ag,by omega,okw,λ H9 s9=>?_⟩;have s79:Same H6 H9:=(aJ s7 hl8).trans s9;have a1:(b8 (ws.length - 1) 6).length=6:=cz _ _;have a2:(dN ws).length=24 * ws.length:=by unfold dN;rw [fL,oK]
    have a3:=ip;refine ⟨_,_,rfl,rfl,by omega,?_⟩;refine ⟨rfl,_,rfl, "", l5,xs.map (fE ws),rfl,rfl,SqL.of (s79 _ _ h6),?_,?_⟩
    ·rw [sz];show _+_ * 0<=16777216;omega
    ·rw [iX];refine ⟨_,_,rfl,rfl,?_,q' _ ((s4.trans s6).trans s79)⟩;rw [cT,a1,a2,fL,sz];omega
def db:Nat->List OI->Str
 | 0=>dN
 | 1=>im
 | 2=>gU
 | 3=>gq
 | _=>gJ
def dh(j:Nat)(xs:List OI):Str:=b8 j 3++b8 (xs.length - 1) 8++db j xs
theorem rm4(h:rm xs 4≠.none): .none∉xs:=λ c=>h (by
 show fD (if (aq xs).none=true then .none else _)=_;rw [if_pos ((oQ xs).mpr c)];rfl)
theorem ff(h:okB xs=true):xs.all okV=true/\xs.length<=100:=by
 simp only [okB,Bool.and_eq_true,decide_eq_true_eq] at h;exact ⟨h.2,h.1.2⟩
theorem lE(xs:List OI):(dN xs).length=24 * xs.length:=by unfold dN;rw [fL,oK]
theorem wF(xs:List OI):(im xs).length=8+32 * (cy xs).length:=by
 unfold im;rw [cT,cz,fL,gK (k:=32) λ x _=>oA x]
theorem tD(xs:List OI):(gU xs).length=6+24 * (aq xs).book.length+aK ((aq xs).book.length - 1) * xs.length:=by
 unfold gU;rw [cT,cT,cz,lE,fL,gK (f:=fE (aq xs).book) (k:=aK ((aq xs).book.length - 1)) λ x _=>cz _ _]
theorem evenS_len'(ns:List Int):(dR ns).length=5+aK (bu ns).toNat * ns.length:=by
 unfold dR;rw [cT,cz,fL,gK (k:=aK (bu ns).toNat) λ x _=>cz _ _]
theorem iw(o:OI):(cq o).length=24:=cz _ _
theorem zab(xs:List OI):(gq xs).length=24+(5+aK (bu (xs.map (above (bj xs)))).toNat * xs.length):=by
 unfold gq;rw [cT,iw,evenS_len',ae]
theorem zic(xs:List OI):(gJ xs).length=24+(5+aK (bu (stp xs xs.length)).toNat * (stp xs xs.length).length):=by
 unfold gJ;rw [cT,iw,evenS_len']
theorem tE(xs:List OI):(aq xs).book.length<=xs.length:=by
 have:=kH xs xs.length (az _)
 rwa [aZ] at this
theorem zid(xs:List OI):(stp xs xs.length).length<=xs.length:=by
 cases h:xs.length with
 | zero=>simp [stp]
 | succ n=>rw [fS];omega
theorem tz(hl:xs.length<=1000)(hok:xs.all okV=true)(j:Nat):(db j xs).length<=200000:=by
 have hb:=tE xs;have hr:=jX xs
 match j with
 | 0=>show (dN xs).length<=_;rw [lE];omega
 | 1=>show (im xs).length<=_;rw [wF];omega
 | 2=>
  show (gU xs).length<=_;have hw:aK ((aq xs).book.length - 1)<=10:=ie (by omega);have:=Nat.mul_le_mul hw hl;rw [tD];omega
 | 3=>
  show (gq xs).length<=_;have:=kS (kB hok) (by rw [ae];exact hl);unfold gq;rw [cT,iw];omega
 | j+4=>
  show (gJ xs).length<=_;have:=kS (j7 hok xs.length) (Nat.le_trans (zid xs) hl);unfold gJ;rw [cT,iw];omega
def spW(K:W.Frag):Str->Sp:=λ x vs H Q _=>∃ (p:Addr) (xs:List OI) (j:Nat),vs=[.ref p]/\kindsS[j]?=some x/\SqL K H p (xs.map ov)/\0 < xs.length/\xs.length<=1000/\xs.all okV=true/\(j=4->.none∉xs)/\
 ∀ H',Same H H'->Q (.str (db j xs)) H'
theorem zjp{f1 f2 f3 f4 f5:Addr}(hm:mg "WRITERS" = some (.ref a))(hl:K.lookup a=some ⟨.type "dict", none,.dict es n,#[]⟩)(hk:W.KeysLit w.params es.toList)(n1:W.nsIn K a "plain" = some (some (.ref f1)))(n2:W.nsIn K a "runs" = some (some (.ref f2)))(n3:W.nsIn K a "book" = some (some (.ref f3)))(n4:W.nsIn K a "base" = some (some (.ref f4)))(n5:W.nsIn K a "steps" = some (some (.ref f5)))(g1:mg "plain_bits" = some (.ref f1))(g2:mg "runs_bits" = some (.ref f2))(g3:mg "book_bits" = some (.ref f3))(g4:mg "base_bits" = some (.ref f4))(g5:mg "steps_bits" = some (.ref f5))(C1:Cal P w K mg base CX0 4 "plain_bits" ["values"] (rH K))(C2:Cal P w K mg base CX0 4 "runs_bits" ["values"] (xG K))(C3:Cal P w K mg base CX0 5 "book_bits" ["values"] (w5 K))(C4:Cal P w K mg base CX0 4 "base_bits" ["values"] (wV K))(C5:Cal P w K mg base CX0 4 "steps_bits" ["values"] (xJ K)):CalT P w K mg base CX0 5 "WRITERS" ["values"] kindsS (spW K):=by
 refine ⟨a,es,n,hm,hl,hk,λ y hy=>?_⟩;obtain ⟨j,hj⟩:=List.getElem?_of_mem hy;have only:∀ {i:Nat},kindsS[i]?=some y->i=j:=λ h=>fO ic h hj;rcases nE hj with ⟨rfl,rfl⟩ | ⟨rfl,rfl⟩ | ⟨rfl,rfl⟩ | ⟨rfl,rfl⟩ | ⟨rfl,rfl⟩
 ·obtain ⟨f,fd,G,m,k,b⟩:=C1;cases g1.symm.trans m;exact ⟨_,fd,n1,(G.mono (by decide)).imp (λ vs H Q E ⟨p,xs,i,e,hi,hS,h0,hl,hok,hn,q⟩=>by cases only hi;exact ⟨p,xs,e,hS,hl,hok,q⟩),k,b⟩
 ·obtain ⟨f,fd,G,m,k,b⟩:=C2;cases g2.symm.trans m;exact ⟨_,fd,n2,(G.mono (by decide)).imp (λ vs H Q E ⟨p,xs,i,e,hi,hS,h0,hl,hok,hn,q⟩=>by cases only hi;exact ⟨p,xs,e,hS,h0,hl,hok,q⟩),k,b⟩
 ·obtain ⟨f,fd,G,m,k,b⟩:=C3;cases g3.symm.trans m;exact ⟨_,fd,n3,G.imp (λ vs H Q E ⟨p,xs,i,e,hi,hS,h0,hl,hok,hn,q⟩=>by cases only hi;exact ⟨p,xs,e,hS,h0,hl,hok,q⟩),k,b⟩
 ·obtain ⟨f,fd,G,m,k,b⟩:=C4;cases g4.symm.trans m;exact ⟨_,fd,n4,(G.mono (by decide)).imp (λ vs H Q E ⟨p,xs,i,e,hi,hS,h0,hl,hok,hn,q⟩=>by cases only hi;exact ⟨p,xs,e,hS,hl,hok,q⟩),k,b⟩
 ·obtain ⟨f,fd,G,m,k,b⟩:=C5;cases g5.symm.trans m;exact ⟨_,fd,n5,(G.mono (by decide)).imp (λ vs H Q E ⟨p,xs,i,e,hi,hS,h0,hl,hok,hn,q⟩=>by cases only hi;exact ⟨p,xs,e,hS,h0,hl,hok,hn rfl,q⟩),k,b⟩
inductive rG (K:W.Frag) (t:Ad) (vs:List V) (H:Hp) (Q:VK) (E:XK):Prop
 | i (p:Addr) (xs:List OI) (x:Str) (_:vs=[.str x,.ref p]) (_:SqL K H p (xs.map ov)) (_:xs.length<=1000) (_:(okB xs=false->∀ H',Same H H'->E (.ref t.dQ) none H')) (_:(okB xs=true->x∉kindsS->∀ H',Same H H'->E (.ref t.fu) none H')) (_:(okB xs=true->∀ j,kindsS[j]?=some x->rm xs j = .none->∀ H',Same H H'->E (.ref t.fu) none H')) (_:(okB xs=true->∀ j,kindsS[j]?=some x->rm xs j≠.none->∀ H',Same H H'->Q (.str (dh j xs)) H'))
theorem zfb(T:Txt K mg t)(mF:Cal P w K mg base (CXr P w) 6 "room" ["kind", "values"] (xE K t))(cZ:Cal P w K mg base CX0 1 "in_bits" ["number", "width"] jb)(mj:CalT P w K mg base CX0 5 "WRITERS" ["values"] kindsS (spW K))(F:Fun K "packed" "packed" qx f fd):FnOk P w K mg base (CXr P w) 7 f fd ["kind", "values"] (rG K t):=by
 refine F.okX sc_packed (λ vs H Q E h=>?_) (λ cdv A outer s H vs Q E hr h=>?_)
 ·obtain ⟨p,xs,x,rfl,_⟩:=h;rfl
 ·obtain ⟨p,xs,x,rfl,hS,hl,k1,k2,k3,k4⟩:=h;have el:(xs.map ov).length=xs.length:=ae _;refine ⟨_,(ah (aW (aF dL (mF.pe hr c5 (aa (pv 0) (aa (pv 1) ad))) bx (aB _)) (ap (fj fm T.yt rfl (by rfl) T.nK (aa aQ ad)))
   a8)
  (ah (aD (i:=2) sc_packed.nd rfl (Or.inl rfl) (ak gi (cZ.pe hr ax (aa (cu K PySem.F.plainAttrs_tuple PySem.F.slot_tuple_index PySem.F.type_tuple_index (zda K) (dZ T.iV) (aa (pv 0) ad)) (aa (bz T.nO) ad))) (cZ.pe hr ax (aa (ak bK (aM (bQ K) (by rfl) T.bv PyProof.Rows.Boot.«len» (aa (pv 1) ad)) af) (aa (bz T.nP) ad)))))
  (ap (ay (ak gi (pv 2) (mj.pe hr ax (pv 0) (aa (pv 1) ad))))))),?_⟩
  refine ⟨_,rfl,_,rfl,p,xs,x,rfl,hS,hl,k1,k2,λ okb j hj H1 s1=>?_⟩;have h0:=gh okb;obtain ⟨hok,h100⟩:=ff okb;obtain ⟨q1,q2⟩:=uW hj;have k3:=k3 okb j hj;have k4:=k4 okb j hj;have hr4:j=4->rm xs j≠.none->.none∉xs:=λ e h=>by subst e;exact rm4 h
  refine ⟨rfl,_,rfl,?_⟩;show (if decide (ov (rm xs j) = .non)=true then _ else _);cases e:rm xs j with
  | none=>exact aA ⟨by show 1<=sizeLine;decide,k3 e H1 s1⟩
  | some M=>
   have hne:rm xs j≠.none:=by rw [e];intro z;cases z
   refine au ?_;have ej:((xs.length:Int) - 1)=((xs.length - 1:Nat):Int):=by omega
   refine ⟨.inr (.inl ⟨rfl,T.uV⟩),_,rfl,t.eW,kindsV,.str x,j,rfl,rfl,T.iZ _,rfl,rfl,q1,q2,?_⟩;refine ⟨j,3,rfl,by decide,λ H2 s2=>?_⟩;refine ⟨_,rfl,p,_,rfl,.inl ((s1.trans s2).seq hS),_,_,rfl,rfl,xs.length - 1,8,?_,by decide,λ H3 s3=>?_⟩
   ·show [V.int (((xs.map ov).length:Int) - 1),V.int 8]=_;rw [el,ej];rfl
   have a1:(b8 j 3).length=3:=cz _ _;have a2:(b8 (xs.length - 1) 8).length=8:=cz _ _;have a3:=ip;refine ⟨_,_,rfl,rfl,by omega,?_⟩;refine ⟨_,rfl,_,rfl,x,rfl,cR hj,_,rfl,p,xs,j,rfl,hj,((s1.trans s2).trans s3).seq hS,h0,hl,hok,λ z=>hr4 z hne,λ H4 s4=>?_⟩;refine ⟨_,_,rfl,rfl,?_,k4 hne H4 (((s1.trans s2).trans s3).trans s4)⟩;have:=tz hl hok j;rw [cT,a1,a2];omega
theorem zi4(ns:List Int):∀ a∈0::ns,a<=bu ns:=by
 obtain ⟨m,e⟩:=ol (l:=0::ns) (by simp);have:bu ns=m:=by unfold bu;rw [e];rfl
 rw [this];exact i3 e
theorem i5(a:List Nat):(cr a).length=a.length:=by simp [cr]
theorem kX(a:Str)(l:List Str):bp (a::l)=a++bp l:=by
 apply jd;rw [dq,e9,e9,bE,List.flatten_cons]
theorem Ris.snoc{m e:Nat}:∀ {l:List Nat} {b:Nat},Ris m b l->m < e->Ris e b (l++[e])
 | [],b,h,he=>⟨by have:b=m:=h;omega,rfl⟩
 | _::_,_,h,he=>⟨h.1,Ris.snoc h.2 he⟩
theorem kN(xs:List OI):∀ e,Ris e 0 (br xs e):=by
 intro e;induction e using Nat.strongRecOn with
 | ind e ih=>
  by_cases h:e=0
  ·subst h;exact rfl
  ·have hl:=jF xs (e:=e) (by omega);rw [nA xs (by omega)];exact (ih _ hl).snoc hl
def cW(xs:List OI):Nat->List Nat->List (List OI)
 | _,[]=>[]
 | b,e::r=>(xs.drop b).take (e - b)::cW xs e r
theorem gr(xs:List OI):∀ (b:Nat) (l:List Nat),(cW xs b l).length=l.length
 | _,[]=>rfl
 | b,e::r=>congrArg Nat.succ (gr xs e r)
theorem iL(xs:List OI):∀ (b:Nat) (l:List Nat) (i:Nat),i < l.length->(cW xs b l)[i]?=some ((xs.drop ((b::l).getD i 0)).take (l.getD i 0 - (b::l).getD i 0))
 | b,e::r,0,_=>rfl
 | b,e::r,i+1,h=>by
  have:=iL xs e r i (by simpa using h);show (cW xs e r)[i]?=_;rw [this];simp [List.getD]
theorem vL(h:okC xs=true):xs.all okV=true:=by
 simp only [okC,Bool.and_eq_true] at h;exact h.2
theorem na(hok:xs.all okV=true)(hl:xs.length<=100)(hb:b < e)(he:e<=xs.length):okB ((xs.drop b).take (e - b))=true:=by
 have ll:((xs.drop b).take (e - b)).length=e - b:=by rw [bc,List.length_drop];omega
 unfold okB;rw [ll,aV (by omega),Bool.true_and,al_ae];intro v hv;exact al_ae.mp hok v (List.mem_of_mem_drop (List.mem_of_mem_take hv))
def fZ(xs:List OI):Str:=dh (bM xs) xs
theorem m7(xs:List OI):bM xs < 5/\rm xs (bM xs)=some (fY xs):=by
 obtain ⟨M,h1,h2,_⟩:=m6 xs;have h5:bM xs < (bd (aq xs)).length:=(al_gs.mp h2).1;refine ⟨h5,?_⟩;unfold rm;rw [List.getD,h2,sP h1];rfl
theorem zad(xs:List OI):kindsS[bM xs]?=some (kindsS.getD (bM xs) ""):=by
 have h:bM xs < kindsS.length:=(m7 xs).1;simp [List.getD,h]
def iu(xs:List OI):Str:=bp ((cW xs 0 (br xs xs.length)).map fZ)
inductive yu (H:Hp) (l:Addr) (bs:List (List OI)):Prop
 | i (as:List Addr) (_:H l=some (.lst (as.map V.ref))) (_:as.length=bs.length) (_:∀ (j:Nat) (a:Addr) (b:List OI),as[j]?=some a->bs[j]?=some b->H a=some (.lst (b.map ov)))
inductive wZ (K:W.Frag) (vs:List V) (H:Hp) (Q:VK) (_E:XK):Prop
 | i (p e:Addr) (xs:List OI) (ens:List Nat) (_:vs=[.ref p,.ref e]) (_:SqL K H p (xs.map ov)) (_:H e=some (.lst (cr ens))) (_:xs.length<=1000) (_:Ris xs.length 0 ens) (_:ens.length<=1000) (_:∀ (l:Addr) (H':Hp),Same H H'->H l=none->yu H' l (cW xs 0 ens)->Q (.ref l) H')
theorem vA:(["begin", "end", "values"]:List Str).Nodup:=by decide +kernel
theorem zht:aC ["values", "ends"] ["values", "ends"] (av pG):=by walk_at "sc"
theorem zeo(T:Txt K mg t)(F:Fun K "blocks_between" "blocks_between" pG f fd):FnOk P w K mg base CX0 1 f fd ["values", "ends"] (wZ K):=by
 refine F.ok zht (λ vs H Q E h=>?_) (λ cdv A outer s H vs Q E hr h=>?_)
 ·obtain ⟨p,e,xs,ens,rfl,_⟩:=h;rfl
 ·obtain ⟨p,e,xs,ens,rfl,hS,he,hx,ris,hen,q⟩:=h;refine ⟨_,(ap (ay (cn (N:=["begin", "end", "values"]) (fr:=[none,none,some 0]) ⟨rfl,rfl,rfl,rfl,rfl,rfl⟩ rfl (lD K (by rfl) T.jM (aa (ak fP (bR (aa af ad)) (pv 1)) (aa (pv 1) ad)))
    (λ C fp s H=>⟨fg K (n:=2) rfl (cK (aR (i:=0) vA rfl (Or.inl rfl)) (cK (aR (i:=1) vA rfl (Or.inl rfl)) fh)),bS,(d0 (gk K) (pv 2) (cY (pv 0)) (cY (pv 1)))⟩)))),?_⟩
  refine ⟨aO rfl,λ l1 hl1=>?_⟩;have n1:e≠l1:=aI he hl1;refine ⟨_,rfl,l1,e,_,_,rfl,rfl,ag,by rw [aj n1];exact he,?_,λ l2 hl2=>?_⟩
  ·rw [i5];exact aX (small1000' (show 1+ens.length<=10000 by omega))
  have s2:Same H (upd (upd H l1 (.lst [.int 0])) l2 (.lst ([.int 0]++cr ens))):=aJ (Same.new hl1) hl2;have h2:(upd (upd H l1 (.lst [.int 0])) l2 (.lst ([.int 0]++cr ens))) l2=some (.lst (cr (0::ens))):=ag;generalize upd (upd H l1 (.lst [.int 0])) l2 (.lst ([.int 0]++cr ens))=H2 at s2 h2;have he2:=s2 _ _ he;refine ⟨_,rfl,l2,e,_,_,rfl,SqL.of h2,SqL.of he2,?_⟩;refine ⟨nu (xs:=cr (0::ens)) (ys:=cr ens) (λ i acc H'=>Same H2 H'/\∃ as:List Addr,acc=as.map V.ref/\as.length=i/\∀ (j:Nat) (a:Addr) (b:List OI),as[j]?=some a->(cW xs 0 ens)[j]?=some b->H' a=some (.lst (b.map ov))) ⟨Same.refl _,[],rfl,rfl,λ j a b e=>by cases e⟩
   ens.length (by rw [i5,i5,bY];omega) (λ i acc H' hi hp'=>⟨SqL.of (hp'.1 _ _ h2),SqL.of (hp'.1 _ _ he2),by obtain ⟨_,as,e,h,_⟩:=hp';rw [e,ae];omega⟩) (aX (aY (by omega))) ?_ ?_⟩
  ·rintro i x y acc H3 T' hx' hy' hi ⟨s3,as,rfl,ha,hb⟩ hT;obtain ⟨r1,r2⟩:=ris.at i hi;have ex:x = .int (((0::ens).getD i 0:Nat):Int):=by
    have:i < (0::ens).length:=by rw [bY];omega
    rw [aH,aH,aG this] at hx';cases hx';simp only [List.getD,aG this,Option.getD_some]
   have ey:y = .int ((ens.getD i 0:Nat):Int):=by
    rw [aH,aH,aG hi] at hy';cases hy';simp only [List.getD,aG hi,Option.getD_some]
   have hg:=iL xs 0 ens i hi;generalize (0::ens).getD i 0=b at r1 ex hg;generalize ens.getD i 0=c at r1 r2 ey hg;subst ex ey;have s4:Same H2 (upd H3 T' (.tup [.int b,.int c])):=aJ s3 hT;refine ⟨T',_,rfl,SqT.of ag,rfl,_,_,rfl,_,_,rfl,rfl,(Wk.set rfl).trans (Wk.set rfl),tT ?_⟩;refine ⟨_,rfl,_,rfl,_,rfl,_,rfl,_,rfl,p,_,rfl,(s2.trans s4).seq hS,λ l5 hl5=>?_⟩;rw [tW xs (by omega) r2];have s5:=aJ (o:=.lst (((xs.drop b).take (c - b)).map ov)) s4 hl5;refine cw hi ⟨s5,as++[l5],by rw [aE];rfl,by simp [ha],λ j a z e1 e2=>?_⟩;by_cases hj:j < as.length
   ·rw [List.getElem?_append_left hj] at e1;have h6:=aJ s3 hT (o:=.tup [.int b,.int c]);have h7:=hb j a z e1 e2;have h8:(upd H3 T' (.tup [.int b,.int c])) a=some (.lst (z.map ov)):=by rw [aj (aI h7 hT)];exact h7
    rw [aj (aI h8 hl5)];exact h8
   ·rw [List.getElem?_append_right (by omega)] at e1;have hji:j - as.length=0:=by
     have:=(al_gs.mp e1).1;simp at this;omega
    rw [hji] at e1;cases e1;rw [show j=i by omega,hg] at e2;cases e2;exact ag
  ·rintro acc H3 ⟨s3,as,rfl,ha,hb⟩ l hl2';refine q l _ (aJ (s2.trans s3) hl2') ((s2.trans s3).free hl2') ⟨as,ag,by rw [ha,gr],λ j a b e1 e2=>?_⟩;have:=hb j a b e1 e2;rw [aj (aI this hl2')];exact this
inductive rM (K:W.Frag) (t:Ad) (vs:List V) (H:Hp) (Q:VK) (E:XK):Prop
 | i (p:Addr) (xs:List OI) (_:vs=[.ref p]) (_:SqL K H p (xs.map ov)) (_:xs.length<=1000) (_:(okC xs=true->∀ H',Same H H'->Q (.str (iu xs)) H')) (_:(okC xs=false->∀ H',Same H H'->E (.ref t.dQ) none H'))
theorem uJ{l:List Str}(h:∀ s∈l,s.length<=k):(l.map (·.length)).sum<=k * l.length:=by
 induction l with
 | nil=>exact Nat.zero_le _
 | cons a r ih=>
  rw [bE,List.sum_cons,bY,Nat.mul_succ];have:=ih λ s hs=>h s (bV _ hs);have:=h a cG;omega
theorem sQ(hl:xs.length<=1000)(hok:xs.all okV=true):(fZ xs).length<=200011:=by
 unfold fZ dh;rw [cT,cT,cz,cz];have:=tz hl hok (bM xs);omega
theorem zdU:(["block"]:List Str).Nodup:=by decide +kernel
theorem zhV:aC ["values"] ["values"] (av qO):=by walk_at "sc"
theorem zfx(T:Txt K mg t)(mo:Cal P w K mg base CX0 1 "blocks_between" ["values", "ends"] (wZ K))(iz:Cal P w K mg base (CXr P w) 8 "cuts" ["values"] (rj K t))(iC:Cal P w K mg base (CXr P w) 7 "packed" ["kind", "values"] (rG K t))(mm:Cal P w K mg base (CXr P w) 6 "best_kind" ["values"] (wW K t))(F:Fun K "tight" "tight" qO f fd):
  FnOk P w K mg base (CXr P w) 9 f fd ["values"] (rM K t):=by
 refine F.okX zhV (λ vs H Q E h=>?_) (λ cdv A outer s H vs Q E hr h=>?_)
 ·obtain ⟨p,xs,rfl,_⟩:=h;rfl
 ·obtain ⟨p,xs,rfl,hS,hl,k1,k2⟩:=h;refine ⟨_,(ap (ay (cu K PySem.F.plainAttrs_str PySem.F.slot_str_join PySem.F.type_str_join (i4 K) aQ (aa (cn (N:=["block"]) (fr:=[none]) ⟨rfl,rfl,rfl,rfl,rfl,rfl⟩ rfl (bN (mo.pe hr ax (aa (pv 0) (aa (iz.pe hr c5 (aa (pv 0) ad)) ad))))
    (λ C fp s H=>⟨aR (i:=0) zdU rfl (Or.inl rfl),bS,(iC.pe hr cF (aa (mm.pe hr cF (aa (pv 0) ad)) (aa (pv 0) ad)))⟩)) ad)))),?_⟩
  refine ⟨rfl,_,rfl,_,rfl,p,xs,rfl,hS,hl,λ ok c H1 s1 hc h1=>?_,k2⟩;have l64:=gD ok;have hok:=vL ok;have ris:=kN xs xs.length;have clen:=ny xs xs.length;have k1:∀ H',Same H H'->Q (.str (bp ((cW xs 0 (br xs xs.length)).map fZ))) H':=k1 ok;generalize br xs xs.length=ens at h1 ris clen k1;refine ⟨p,c,xs,ens,rfl,s1.seq hS,h1,hl,ris,by omega,λ l H2 s2 hln B2=>?_⟩;have bl:=gr xs 0 ens;have bg:=iL xs 0 ens;obtain ⟨as,g2,ea,eb⟩:=B2;have la:(as.map V.ref).length=ens.length:=by rw [ae];omega
  refine ⟨l,rfl,⟨_,SqL.of g2⟩,⟨cD (xs:=as.map V.ref) (λ i acc H'=>Same H2 H'/\acc=(((cW xs 0 ens).take i).map fZ).map V.str) ⟨Same.refl _,rfl⟩ ?_ (aX (aY (by omega))) ?_ ?_⟩⟩
  ·rintro i acc H3 hi ⟨s3,rfl⟩;refine ⟨SqL.of (s3 _ _ g2),?_⟩;rw [ae,ae,bc];omega
  ·rintro i y acc H3 hx hlt ⟨s3,rfl⟩;have hia:i < as.length:=by rwa [ae] at hlt
   have hie:i < ens.length:=by omega
   rw [aH,aG hia] at hx;cases hx;obtain ⟨r1,r2⟩:=ris.at i hie;have hb:=bg i hie;have hbk:=eb i as[i] _ (aG hia) hb;have okb:=na hok (by omega) r1 r2;generalize (xs.drop ((0::ens).getD i 0)).take (ens.getD i 0 - (0::ens).getD i 0)=blk at hb hbk okb;obtain ⟨hbo,hb100⟩:=ff okb;have nok:∀ {Z:Prop},okB blk=false->Z:=λ h=>by rw [okb] at h;cases h
   obtain ⟨b5,brm⟩:=m7 blk;have hkd:=zad blk;refine ⟨Wk.set rfl,tT ⟨_,rfl,as[i],blk,rfl,SqL.of (s3 _ _ hbk),by omega,nok,λ _ H4 s4=>?_⟩⟩;refine ⟨_,rfl,as[i],blk,_,rfl,SqL.of ((s3.trans s4) _ _ hbk),by omega,nok,λ _ hk=>absurd (cR hkd) hk,λ _ j hj hn=>?_,λ _ j hj hn H5 s5=>?_⟩
   ·have:j=bM blk:=fO ic hj hkd;subst this;rw [brm] at hn;cases hn
   ·have:j=bM blk:=fO ic hj hkd;subst this;refine cw hlt ⟨(s3.trans s4).trans s5,?_⟩;rw [cL,hb];show _=((((cW xs 0 ens).take i)++[blk]).map fZ).map V.str;rw [aE,aE];rfl
  ·rintro acc H3 ⟨s3,rfl⟩ l3 hl3;rw [la,← bl,aZ];refine ⟨"", l3,(cW xs 0 ens).map fZ,rfl,rfl,SqL.of ag,?_,?_⟩
   ·have h64:=uJ (l:=(cW xs 0 ens).map fZ) (k:=200011) λ s hs=>by
     obtain ⟨b,hb,rfl⟩:=List.mem_map.mp hs;obtain ⟨i,hi⟩:=List.getElem?_of_mem hb;have hie:i < ens.length:=by
      have:=(al_gs.mp hi).1;omega
     rw [bg i hie] at hi;cases hi;obtain ⟨r1,r2⟩:=ris.at i hie;obtain ⟨x1,x2⟩:=ff (na hok (by omega) r1 r2);exact sQ (by omega) x1
    rw [ae,bl] at h64;have:200011 * ens.length<=200011 * 64:=Nat.mul_le_mul_left _ (by omega);show _+_ * 0<=16777216;omega
   ·rw [iX];exact k1 _ (aJ ((s1.trans s2).trans s3) hl3)
inductive At (X:List Nat) (n:Nat) (L:List Nat):Prop
 | i (pre post:_) (_:X=pre++(L++post)) (_:pre.length=n)
theorem At.left(h:At X n (A++B)):At X n A:=by
 obtain ⟨pre,post,e,hl⟩:=h;exact ⟨pre,B++post,by rw [e,List.append_assoc],hl⟩
theorem At.right(h:At X n (A++B)):At X (n+A.length) B:=by
 obtain ⟨pre,post,e,hl⟩:=h;exact ⟨pre++A,post,by rw [e,List.append_assoc,List.append_assoc],by rw [bn,hl]⟩
theorem At.le(h:At X n L):n+L.length<=X.length:=by
 obtain ⟨pre,post,e,hl⟩:=h;rw [e,bn,bn];omega
theorem At.cut(h:At X n L):(X.drop n).take L.length=L:=by
 obtain ⟨pre,post,e,hl⟩:=h;subst hl;rw [e,List.drop_left,List.take_left]
theorem sW(n:Nat):∀ w,bB (bZ n w)
 | 0=>λ c h=>by cases h
 | w+1=>λ c h=>by
  rcases al_mc.mp (show c∈eF n w::bZ n w from h) with e | h
  ·rw [e];unfold eF;split
   ·exact Or.inr rfl
   ·exact Or.inl rfl
  ·exact sW n w c h
theorem uw(n:Nat):∀ (w a:Nat),(bZ n w).foldl (λ acc c=>acc * 2+(c - 48)) a=a * 2 ^ w+n % 2 ^ w
 | 0,a=>by
  show a=a * 2 ^ 0+n % 2 ^ 0;rw [Nat.pow_zero,Nat.mul_one,Nat.mod_one];rfl
 | w+1,a=>by
  show (bZ n w).foldl (λ acc c=>acc * 2+(c - 48)) (a * 2+(eF n w - 48))=_;rw [uw n w];have eb:eF n w - 48=n / 2 ^ w % 2:=by
   unfold eF;by_cases h:n / 2 ^ w % 2=1
   ·rw [if_pos h,h]
   ·rw [if_neg h];omega
  rw [eb,Nat.mod_pow_succ,Nat.add_mul,Nat.pow_succ,Nat.mul_assoc,Nat.mul_comm 2 (2 ^ w),Nat.mul_comm (n / 2 ^ w % 2)];omega
theorem zaf(n w:Nat):eY (bZ n w)=n % 2 ^ w:=by
 unfold eY;rw [uw];omega
theorem zae(n w:Nat):(b8 n w).cps.toList=bZ n w:=rfl
def oU(X:Str)(n:Nat):List (Str × V):=[("text", .str X),("place", .int n)]
def RdAt(C:Addr)(H:Hp)(r:Addr)(X:Str)(n:Nat):Prop:=∃ dx,H r=some (.ins C dx (oU X n))
def Kp(r:Addr)(H H':Hp):Prop:=∀ b o,b≠r->H b=some o->H' b=some o
theorem Kp.refl(r:Addr)(H:Hp):Kp r H H:=λ _ _ _ e=>e
theorem Kp.trans{H'':Hp}(a:Kp r H H')(b:Kp r H' H''):Kp r H H'':=λ c o n e=>b c o n (a c o n e)
theorem Kp.of(s:Same H H'):Kp r H H':=λ c o _ e=>s c o e
theorem Kp.own    : Kp r H (upd H r o):=λ c o' n e=>by rw [aj n];exact e
theorem RdAt.same{X:Str}(h:RdAt C H r X n)(s:Same H H'):RdAt C H' r X n:=by
 obtain ⟨dx,h⟩:=h;exact ⟨dx,s _ _ h⟩
theorem il{X:Str}{b:Addr}(h:RdAt C H r X n)(hb:H b=none):b≠r:=λ z=>by
 obtain ⟨dx,h⟩:=h;rw [z,h] at hb;cases hb
theorem Kp.lst{X:Str}{xs:List V}(h:RdAt C H r X n)(k:Kp r H H')(e:H a=some (.lst xs)):H' a=some (.lst xs):=by
 refine k a _ (λ z=>?_) e;obtain ⟨dx,h⟩:=h;rw [z,h] at e;cases e
theorem Kp.new(k:Kp r H H1)(h:H1 l=none):Kp r H (upd H1 l o):=λ b o' n e=>by
 have:=k b o' n e;rw [aj (aI this h)];exact this
theorem RdAt.new{X:Str}(R:RdAt C H1 r X n)(h:H1 l=none):RdAt C (upd H1 l o) r X n:=by
 obtain ⟨dx,hR⟩:=id R;exact ⟨dx,by rw [aj (il R h).symm];exact hR⟩
theorem Kp.free{X:Str}(k:Kp r H H1)(R:RdAt C H1 r X n)(h:H1 l=none):H l=none:=by
 cases e:H l with
 | none=>rfl
 | some o=>rw [k l o (il R h) e] at h;cases h
theorem RdAt.put{X:Str}(R:RdAt C H1 r X n)(h:H1 l=some (.lst zs)):RdAt C (upd H1 l o) r X n:=by
 obtain ⟨dx,hR⟩:=R;exact ⟨dx,by rw [aj (λ z=>by rw [← z,hR] at h;cases h)];exact hR⟩
theorem Kp.put(k:Kp r H H1)(h:H l=none):Kp r H (upd H1 l o):=λ b o' n e=>by
 rw [aj (aI e h)];exact k b o' n e
inductive gI (t:Ad) (vs:List V) (H:Hp) (Q:VK) (E:XK):Prop
 | i (r:Addr) (X:Str) (n k:Nat) (_:vs=[.ref r,.int k]) (_:RdAt t.bh H r X n) (_:bB X.cps.toList) (_:X.length<=16777216) (_:k<=640) (_:(n+k<=X.length->∀ H',Kp r H H'->RdAt t.bh H' r X (n+k)->Q (.int (eY ((X.cps.toList.drop n).take k))) H')) (_:(X.length < n+k->∀ H',Same H H'->E (.ref t.gb) none H'))
theorem sc_Reader_take:aC ["self", "width", "end", "taken"] ["self", "width"] (av pf):=by walk_at "sc"
theorem zfu(T:Txt K mg t)(F:Fun K "take" "Reader.take" pf f fd):FnOk P w K mg base (CXr P w) 1 f fd ["self", "width"] (gI t):=by
 refine F.okX sc_Reader_take (λ vs H Q E h=>?_) (λ cdv A outer s H vs Q E hr h=>?_)
 ·obtain ⟨r,X,n,k,rfl,_⟩:=h;rfl
 ·obtain ⟨r,X,n,k,rfl,⟨dx,hR⟩,hb,hz,hk,q1,q2⟩:=h;have hz':X.length<=sizeLine:=by rw [sizeLine_eq];exact hz
  refine ⟨_,(ah (aD (i:=2) sc_Reader_take.nd rfl (Or.inl rfl) (ak a7 (eK K (pv 0) rfl) (pv 1)))
  (ah (aW (aF dU (pv 2) (aM ni (by rfl) T.bv PyProof.Rows.Boot.«len» (aa (eK K (pv 0) rfl) ad)) (aB _)) (ap (fj fm T.yq rfl (by rfl) T.nH (aa aQ ad)))
   a8)
  (ah (aD (i:=3) sc_Reader_take.nd rfl (Or.inl rfl) (d0 wO (eK K (pv 0) rfl) (cY (eK K (pv 0) rfl)) (cY (pv 2))))
  (ah (dD (pv 0) (pv 2) rfl)
  (ap (ay (c6 (aF dU (pv 1) af (aB _)) (ij zap (by rfl) T.lq PyProof.Rows.Boot.«int» (aa (pv 3) (aa af ad))) af))))))),?_⟩
  refine ⟨_,rfl,r,_,dx,_,_,rfl,hR,T.cA,T.gP,rfl,_,rfl,_,_,rfl,rfl,?_⟩;refine ⟨_,rfl,_,rfl,r,_,dx,_,_,rfl,hR,T.cA,T.jp,rfl,X,rfl,hz',_,_,rfl,rfl,_,rfl,?_⟩;by_cases c:X.length < n+k
  ·rw [aV (show (X.length:Int) < (n:Int)+(k:Int) by omega)];exact aA ⟨by show 1<=sizeLine;decide,q2 c H (Same.refl H)⟩
  ·rw [aU (show ¬ (X.length:Int) < (n:Int)+(k:Int) by omega)];refine au ?_;refine ⟨_,rfl,r,_,dx,_,_,rfl,hR,T.cA,T.jp,rfl,_,rfl,r,_,dx,_,_,rfl,hR,T.cA,T.gP,rfl,_,rfl,_,rfl,_,rfl,X,n,n+k,rfl,rfl,rfl,by omega,by omega,hz',?_⟩;refine ⟨_,rfl,_,rfl,r,_,dx,_,rfl,hR,T.cA,T.gP,by show 2 < 1000;decide,?_⟩;have hR':RdAt t.bh (upd H r (.ins t.bh dx (dj "place" (.int ((n:Int)+(k:Int))) (oU X n)))) r X (n+k):=⟨dx,ag⟩
   have q1:=q1 (by omega) _ Kp.own hR';refine ⟨_,rfl,_,_,rfl,rfl,_,rfl,?_⟩;by_cases c0:k=0
   ·subst c0;exact au q1
   ·rw [aV (show (0:Int) < (k:Int) by omega)];have el:((X.cps.toList.drop n).take k).length=k:=by
     rw [bc,List.length_drop,Array.length_toList];show min k (X.length - n)=k;omega
    have ec:n+k - n=k:=by omega
    refine aA ⟨_,rfl,_,rfl,?_,?_,?_,?_⟩
    ·intro c' hc';rw [ec] at hc';exact hb c' (List.mem_of_mem_drop (List.mem_of_mem_take hc'))
    ·intro z;have z:(X.cps.toList.drop n).take (n+k - n)=[]:=z;rw [ec] at z;rw [z] at el;exact c0 el.symm
    ·show ((X.cps.toList.drop n).take (n+k - n)).toArray.size<=640;rw [ec,aT,el];exact hk
    ·show Q (.int (eY ((X.cps.toList.drop n).take (n+k - n)))) _;rw [ec];exact q1
inductive xg (t:Ad) (vs:List V) (H:Hp) (Q:VK) (_E:XK):Prop
 | i (r:Addr) (X:Str) (n:Nat) (_:vs=[.ref r]) (_:RdAt t.bh H r X n) (_:X.length<=16777216) (_:Q (.bl (decide (n < X.length))) H)
theorem zhl:aC ["self"] ["self"] (av pc):=by walk_at "sc"
theorem zeE(T:Txt K mg t)(F:Fun K "has_more" "Reader.has_more" pc f fd):FnOk P w K mg base CX0 1 f fd ["self"] (xg t):=by
 refine F.ok zhl (λ vs H Q E h=>?_) (λ cdv A outer s H vs Q E hr h=>?_)
 ·obtain ⟨r,X,n,rfl,_⟩:=h;rfl
 ·obtain ⟨r,X,n,rfl,⟨dx,hR⟩,hz,q⟩:=h;have hz':X.length<=sizeLine:=by rw [sizeLine_eq];exact hz
  refine ⟨_,(ap (ay (dY ig (eK K (pv 0) rfl) (aM ni (by rfl) T.bv PyProof.Rows.Boot.«len» (aa (eK K (pv 0) rfl) ad)) (aB _)))),?_⟩;refine ⟨_,rfl,r,_,dx,_,_,rfl,hR,T.cA,T.gP,rfl,_,rfl,r,_,dx,_,_,rfl,hR,T.cA,T.jp,rfl,X,rfl,hz',_,_,rfl,rfl,?_⟩;have e:decide ((n:Int) < (X.length:Int))=decide (n < X.length):=by
   by_cases c:n < X.length
   ·rw [aV c,aV (show (n:Int) < (X.length:Int) by omega)]
   ·rw [aU c,aU (show ¬ (n:Int) < (X.length:Int) by omega)]
  show Q (.bl (decide ((n:Int) < (X.length:Int)))) H;rw [e];exact q
inductive xK (t:Ad) (vs:List V) (H:Hp) (Q:VK) (_E:XK):Prop
 | i (r:Addr) (X:Str) (b n:Nat) (_:vs=[.ref r,.int b]) (_:RdAt t.bh H r X n) (_:X.length<=16777216) (_:b<=n) (_:n<=X.length) (_:Q (.str ⟨((X.cps.toList.drop b).take (n - b)).toArray⟩) H)
theorem zhn:aC ["self", "place"] ["self", "place"] (av ph):=by walk_at "sc"
theorem zfv(T:Txt K mg t)(F:Fun K "taken_since" "Reader.taken_since" ph f fd):FnOk P w K mg base CX0 1 f fd ["self", "place"] (xK t):=by
 refine F.ok zhn (λ vs H Q E h=>?_) (λ cdv A outer s H vs Q E hr h=>?_)
 ·obtain ⟨r,X,b,n,rfl,_⟩:=h;rfl
 ·obtain ⟨r,X,b,n,rfl,⟨dx,hR⟩,hz,hb,hn,q⟩:=h;have hz':X.length<=sizeLine:=by rw [sizeLine_eq];exact hz
  refine ⟨_,(ap (ay (d0 wO (eK K (pv 0) rfl) (cY (pv 1)) (cY (eK K (pv 0) rfl))))),?_⟩;exact ⟨_,rfl,r,_,dx,_,_,rfl,hR,T.cA,T.jp,rfl,_,rfl,_,rfl,_,rfl,r,_,dx,_,_,rfl,hR,T.cA,T.gP,rfl,_,rfl,X,b,n,rfl,rfl,rfl,hb,hn,hz',q⟩
inductive wT (t:Ad) (vs:List V) (H:Hp) (Q:VK) (E:XK):Prop
 | i (p dx:Addr) (X:Str) (_:vs=[.ref p,.str X]) (_:H p=some (.ins t.bh dx [])) (_:X.length<=16777216) (_:(bB X.cps.toList->∀ H':Hp,RdAt t.bh H' p X 0->(∀ b,b≠p->H' b=H b)->Q .non H')) (_:(¬ bB X.cps.toList->∀ H',Same H H'->E (.ref t.gb) none H'))
theorem sX:∀ l:List Nat,(l.count 48+l.count 49<=l.length)/\(l.count 48+l.count 49=l.length↔bB l)
 | []=>⟨az _,⟨λ _ c h=>(by cases h),λ _=>rfl⟩⟩
 | c::r=>by
  obtain ⟨h1,h2⟩:=sX r;have hb:bB (c::r)↔(c=48\/c=49)/\bB r:=⟨λ h=>⟨h c cG,λ d hd=>h d (bV _ hd)⟩,λ h d hd=>(al_mc.mp hd).elim (λ e=>by rw [e];exact h.1) (h.2 d)⟩
  rw [hb,← h2,List.count_cons,List.count_cons,bY];by_cases e0:c=48
  ·subst e0;simp;omega
  ·by_cases e1:c=49
   ·subst e1;simp;omega
   ·have x0:(c == 48)=false:=by simpa using e0
    have x1:(c == 49)=false:=by simpa using e1
    rw [x0,x1];simp [e0,e1];omega
theorem zhm:aC ["self", "text"] ["self", "text"] (av pd):=by walk_at "sc"
theorem zed(T:Txt K mg t)(F:Fun K "__init__" "Reader.__init__" pd f fd):FnOk P w K mg base (CXr P w) 1 f fd ["self", "text"] (wT t):=by
 refine F.okX zhm (λ vs H Q E h=>?_) (λ cdv A outer s H vs Q E hr h=>?_)
 ·obtain ⟨p,dx,X,rfl,_⟩:=h;rfl
 ·obtain ⟨p,dx,X,rfl,hp,hz,q1,q2⟩:=h;have hz':X.length<=sizeLine:=by rw [sizeLine_eq];exact hz
  refine ⟨_,(ah (aW (aF dW (ak a7 (cu K PySem.F.plainAttrs_str PySem.F.slot_str_count PySem.F.type_str_count vp (pv 1) (aa aQ ad)) (cu K PySem.F.plainAttrs_str PySem.F.slot_str_count PySem.F.type_str_count vp (pv 1) (aa aQ ad))) (aM ni (by rfl) T.bv PyProof.Rows.Boot.«len» (aa (pv 1) ad)) (aB _)) (ap (fj fm T.yq rfl (by rfl) T.nH (aa aQ ad)))
   a8)
  (ah (dD (pv 0) (pv 1) rfl)
  (ap (dD (pv 0) af rfl)))),?_⟩
  refine ⟨_,rfl,rfl,X, "0", rfl,rfl,_,rfl,rfl,X, "1", rfl,rfl,_,_,rfl,rfl,_,rfl,X,rfl,hz',rfl,_,rfl,?_⟩;rw [dec_int];have e0:Txt.count X "0" = ((X.cps.toList.count 48:Nat):Int):=by rw [vc];exact wL X 48
  have e1:Txt.count X "1" = ((X.cps.toList.count 49:Nat):Int):=by rw [vd];exact wL X 49
  have el:X.cps.toList.length=X.length:=Array.length_toList;obtain ⟨b1,b2⟩:=sX X.cps.toList;rw [e0,e1];by_cases c:bB X.cps.toList
  ·have:=b2.mpr c;rw [aV (show (((X.cps.toList.count 48:Nat):Int)+((X.cps.toList.count 49:Nat):Int))=(X.length:Int) by omega)];refine au ?_;refine ⟨_,rfl,_,rfl,p,t.bh,dx,_,rfl,hp,T.cA,T.jp,by show 0 < 1000;decide,?_⟩;refine ⟨_,rfl,p,t.bh,dx,_,rfl,ag,T.cA,T.gP,by show 1 < 1000;decide,?_⟩;exact q1 c _ ⟨dx,ag⟩ λ b hb=>by rw [aj hb,aj hb]
  ·have:¬ X.cps.toList.count 48+X.cps.toList.count 49=X.cps.toList.length:=λ z=>c (b2.mp z);rw [aU (show ¬ (((X.cps.toList.count 48:Nat):Int)+((X.cps.toList.count 49:Nat):Int))=(X.length:Int) by omega)];exact aA ⟨by show 1<=sizeLine;decide,q2 c H (Same.refl H)⟩
theorem nq{o:OI}(h:okV o=true):T1.fH o < 2 ^ 24:=by
 cases o with
 | none=>show 0 < 2 ^ 24;decide
 | some i=>
  have:=T1.i6 h;show (i+4000001).toNat < 2 ^ 24;omega
def c7(rs:List (OI × Nat)):List OI:=(rs.map λ q=>List.replicate q.2 q.1).flatten
theorem ma(rs:List (OI × Nat))(q:OI × Nat):c7 (rs++[q])=c7 rs++List.replicate q.2 q.1:=by
 unfold c7;rw [aE,List.flatten_append];simp
theorem zjg(rs:List (OI × Nat))(v:OI):c7 (gj rs v)=c7 rs++[v]:=by
 rcases List.eq_nil_or_concat rs with rfl | ⟨r,⟨u,k⟩,rfl⟩
 ·rfl
 ·rw [List.concat_eq_append,jV]
  split
  ·rename_i h
   subst h;rw [ma,ma,List.replicate_succ',List.append_assoc]
  ·rw [ma (r++[(u,k)]) (v,1)];rfl
theorem zjf(xs:List OI):c7 (cy xs)=xs:=by
 have key:∀ n,n<=xs.length->c7 (cy (xs.take n))=xs.take n:=by
  intro n;induction n with
  | zero=>intro _;rfl
  | succ n ih=>
   intro h;rw [cB h,jY,zjg,ih (by omega)]
 have:=key xs.length (az _)
 rwa [aZ] at this
theorem yh:∀ {rs:List (OI × Nat)} {q:OI × Nat},q∈rs->q.2<=(c7 rs).length
 | a::r,q,h=>by
  have e:c7 (a::r)=List.replicate a.2 a.1++c7 r:=rfl;rw [e,bn,d7];rcases al_mc.mp h with h | h
  ·subst h;omega
  ·have:=yh h;omega
theorem zaZ(d:Int):(if bw d % 2=0 then bw d / 2 else -(bw d / 2) - 1)=d:=by
 unfold bw;by_cases h:0<=d
 ·rw [if_pos h,if_pos (by omega)];omega
 ·rw [if_neg h,if_neg (by omega)];omega
theorem zK{X:Str}{v:Nat}(h:At X.cps.toList n (bZ v k))(hv:v < 2 ^ k):n+k<=X.length/\eY ((X.cps.toList.drop n).take k)=v:=by
 have h1:=h.le;have h2:=h.cut;rw [eX] at h1 h2;rw [Array.length_toList] at h1;exact ⟨h1,by rw [h2,zaf,Nat.mod_eq_of_lt hv]⟩
theorem eP{X:Str}{v:Nat}(R:RdAt t.bh H r X n)(hb:bB X.cps.toList)(hz:X.length<=16777216)(hk:k<=640)(h:At X.cps.toList n (bZ v k))(hv:v < 2 ^ k)(q:∀ H',Kp r H H'->RdAt t.bh H' r X (n+k)->Q (.int (v:Int)) H'):gI t [.ref r,.int (k:Int)] H Q E:=by
 obtain ⟨h1,h2⟩:=zK h hv;refine ⟨r,X,n,k,rfl,R,hb,hz,hk,λ _ H' k' R'=>?_,λ z=>absurd h1 (by omega)⟩;rw [h2];exact q H' k' R'
theorem tk1{x v:V}(h:sp [x,v] H Q E):ir (tC v) fT σ H (λ vs H2=>sp (x::(vs++[])) H2 Q E):=h
theorem tkv{x v:V}(hv:σ[i]?=some (some v))(h:sp [x,v] H Q E):ir (cf i) fT σ H (λ vs H2=>sp (x::(vs++[])) H2 Q E):=⟨v,hv,h⟩
inductive rJ (t:Ad) (vs:List V) (H:Hp) (Q:VK) (_E:XK):Prop
 | i (r:Addr) (X:Str) (n:Nat) (o:OI) (_:vs=[.ref r]) (_:RdAt t.bh H r X n) (_:bB X.cps.toList) (_:X.length<=16777216) (_:okV o=true) (_:At X.cps.toList n (cq o).cps.toList) (_:∀ H',Kp r H H'->RdAt t.bh H' r X (n+24)->Q (ov o) H')
theorem sc_read_value:aC ["reader", "number"] ["reader"] (av qF):=by walk_at "sc"
theorem zfj(T:Txt K mg t)(CT:bF P w K mg base (CXr P w) 1 t.bh "take" ["self", "width"] (gI t))(F:Fun K "read_value" "read_value" qF f fd):FnOk P w K mg base CX0 3 f fd ["reader"] (rJ t):=by
 obtain ⟨jA,jB,c8,de,c9⟩:=CT;refine F.ok sc_read_value (λ vs H Q E h=>?_) (λ cdv A outer s H vs Q E hr h=>?_)
 ·obtain ⟨r,T,n,o,rfl,_⟩:=h;rfl
 ·obtain ⟨r,X,n,o,rfl,R,hb,hz,ho,ha,q⟩:=h;refine ⟨_,(ah (aD (i:=1) sc_read_value.nd rfl (Or.inl rfl) (cp (pv 0) T.cA de c8 (hr.mono (by decide)) c9 .nil cF (aa (bz T.gc) ad)))
  (ap (ay (c6 (aF cb (pv 1) af (aB _)) bx (ak bK (pv 1) (bz T.kW)))))),?_⟩
  obtain ⟨dx,hR⟩:=id R;refine ⟨_,rfl,r,dx,_,rfl,hR,rfl,tk1 (eP (k:=24) R hb hz (by decide) ha (nq ho) λ H1 k1 R1=>?_)⟩;have q:=q H1 k1 R1;refine ⟨_,rfl,rfl,_,rfl,?_⟩;rw [dec_int];cases o with
  | none=>exact aA q
  | some i=>
   have hi:=i6 ho;have ec:((fH (some i):Nat):Int)=i+4000001:=by
    show (((i+4000001).toNat:Nat):Int)=_;omega
   rw [ec,aU (show ¬ i+4000001=0 by omega)];refine au ⟨_,rfl,_,_,rfl,rfl,?_⟩;show Q (.int (i+4000001 - 4000001)) H1;rw [show i+4000001 - 4000001=i by omega];exact q
theorem zgb(xs:List OI):(dN xs).cps.toList=(xs.map λ o=>(cq o).cps.toList).flatten:=by
 unfold dN;rw [e9,List.map_map];rfl
theorem kF{α:Type}{f:α->List Nat}{k:Nat}{X:List Nat}:∀ {l:List α} {n:Nat},(∀ a,(f a).length=k)->At X n ((l.map f).flatten)->∀ (i:Nat) (a:α),l[i]?=some a->At X (n+k * i) (f a)
 | b::r,n,hk,h,0,a,e=>by
  cases e;rw [bE,List.flatten_cons] at h;rw [Nat.mul_zero];exact h.left
 | b::r,n,hk,h,i+1,a,e=>by
  rw [bE,List.flatten_cons] at h;have:=kF (l:=r) hk h.right i a e;rw [hk b] at this;rw [show n+k * (i+1)=n+k+k * i by rw [Nat.mul_succ];omega];exact this
inductive lR (t:Ad) (vs:List V) (H:Hp) (Q:VK) (_E:XK):Prop
 | i (r:Addr) (X:Str) (n:Nat) (xs:List OI) (_:vs=[.ref r,.int xs.length]) (_:RdAt t.bh H r X n) (_:bB X.cps.toList) (_:X.length<=16777216) (_:xs.length<=1000) (_:xs.all okV=true) (_:At X.cps.toList n (dN xs).cps.toList) (_:∀ (l:Addr) (H':Hp),Kp r H H'->H l=none->RdAt t.bh H' r X (n+24 * xs.length)->H' l=some (.lst (xs.map ov))->Q (.ref l) H')
theorem zdT:(["place", "reader"]:List Str).Nodup:=by decide +kernel
theorem zhQ:aC ["reader", "length"] ["reader", "length"] (av qC):=by walk_at "sc"
theorem zfg(T:Txt K mg t)(iD:Cal P w K mg base CX0 3 "read_value" ["reader"] (rJ t))(F:Fun K "read_plain" "read_plain" qC f fd):FnOk P w K mg base CX0 4 f fd ["reader", "length"] (lR t):=by
 refine F.ok zhQ (λ vs H Q E h=>?_) (λ cdv A outer s H vs Q E hr h=>?_)
 ·obtain ⟨r,T,n,xs,rfl,_⟩:=h;rfl
 ·obtain ⟨r,X,n,xs,rfl,R,hb,hz,hl,hok,ha,q⟩:=h;rw [zgb] at ha;have hv:=λ i a e=>kF (f:=λ o=>(cq o).cps.toList) (k:=24) (λ o=>by show (bZ _ _).toArray.toList.length=24;exact eX _ _) ha i a e;refine ⟨_,(ap (ay (cn (N:=["place", "reader"]) (fr:=[none,some 0]) ⟨rfl,rfl,rfl,rfl,rfl,rfl⟩ rfl (fi (by rfl) T.dB (aa (pv 1) ad))
    (λ C fp s H=>⟨aR (i:=0) zdT rfl (Or.inl rfl),bS,(iD.pe hr ax (aa (pv 1) ad))⟩)))),?_⟩
  refine ⟨_,rfl,_,rfl,by omega,by omega,?_⟩;rw [Int.toNat_natCast];refine ⟨fJ (λ i acc H'=>Kp r H H'/\RdAt t.bh H' r X (n+24 * i)/\acc=(xs.take i).map ov) ⟨Kp.refl _ _,R,rfl⟩ (λ i acc H' hi hp=>by rw [hp.2.2,ae,bc];omega) (aX (aY hl)) ?_ ?_⟩
  ·rintro i acc H1 hi ⟨k1,R1,rfl⟩;refine ⟨Wk.set rfl,tT ⟨_,rfl,r,X,n+24 * i,at' xs i,rfl,R1,hb,hz,al_ae.mp hok _ (cR (getD_at' hi)),hv i _ (getD_at' hi),λ H2 k2 R2=>cw hi ⟨k1.trans k2,?_,?_⟩⟩⟩
   ·rw [show n+24 * (i+1)=n+24 * i+24 by omega];exact R2
   ·rw [cB hi,aE];rfl
  ·rintro acc H1 ⟨k1,R1,rfl⟩ l hln;rw [aZ];exact q l _ (k1.new hln) (k1.free R1 hln) (R1.new hln) ag
inductive fQ (t:Ad) (j:Nat) (vs:List V) (H:Hp) (Q:VK) (_E:XK):Prop
 | i (r:Addr) (X:Str) (n:Nat) (xs:List OI) (_:vs=[.ref r,.int xs.length]) (_:RdAt t.bh H r X n) (_:bB X.cps.toList) (_:X.length<=16777216) (_:okB xs=true) (_:rm xs j≠.none) (_:At X.cps.toList n (db j xs).cps.toList) (_:∀ (l:Addr) (H':Hp),Kp r H H'->H l=none->RdAt t.bh H' r X (n+(db j xs).length)->H' l=some (.lst (xs.map ov))->Q (.ref l) H')
theorem zgV{vs:List V}(h:fQ t 0 vs H Q E):lR t vs H Q E:=by
 obtain ⟨r,X,n,xs,e,R,hb,hz,okb,_,ha,q⟩:=h;obtain ⟨h1,h2⟩:=ff okb;refine ⟨r,X,n,xs,e,R,hb,hz,by omega,h1,ha,λ l H' k hn R' h'=>q l H' k hn ?_ h'⟩;show RdAt t.bh H' r X (n+(dN xs).length);rw [lE];exact R'
theorem zg4(q:OI × Nat):(df q).cps.toList=(cq q.1).cps.toList++bZ (q.2 - 1) 8:=by
 unfold df;rw [dq,zae]
theorem zg5(q:OI × Nat):(df q).cps.toList.length=32:=by
 rw [Array.length_toList];exact oA q
theorem sc_read_runs:aC ["reader", "length", "values", "place", "value", "times"] ["reader", "length"] (av qD):=by walk_at "sc"
theorem zfh(T:Txt K mg t)(CT:bF P w K mg base (CXr P w) 1 t.bh "take" ["self", "width"] (gI t))(iD:Cal P w K mg base CX0 3 "read_value" ["reader"] (rJ t))(F:Fun K "read_runs" "read_runs" qD f fd):
  FnOk P w K mg base CX0 4 f fd ["reader", "length"] (fQ t 1):=by
 obtain ⟨jA,jB,c8,de,c9⟩:=CT;refine F.ok sc_read_runs (λ vs H Q E h=>?_) (λ cdv A outer s H vs Q E hr h=>?_)
 ·obtain ⟨r,T,n,xs,rfl,_⟩:=h;rfl
 ·obtain ⟨r,X,n,xs,rfl,R,hb,hz,okb,_,ha,q⟩:=h;obtain ⟨hok,h100⟩:=ff okb;have h0:=gh okb;have hlen:(db 1 xs).length=8+32 * (cy xs).length:=wF xs;rw [hlen] at q;have ha:At X.cps.toList n (bZ ((cy xs).length - 1) 8++((cy xs).map λ q=>(df q).cps.toList).flatten):=by
   have e:(db 1 xs).cps.toList=bZ ((cy xs).length - 1) 8++((cy xs).map λ q=>(df q).cps.toList).flatten:=by
    show (im xs).cps.toList=_;unfold im;rw [dq,e9,List.map_map];rfl
   rw [← e];exact ha
  have hfacts:=wG xs;have hpos:=wH h0;have hle:=jX xs;have hun:=zjf xs;generalize cy xs=rs at q ha hfacts hpos hle hun;have ha2:=ha.right;rw [eX] at ha2;have hv:=λ i a e=>kF (f:=λ q=>(df q).cps.toList) (k:=32) zg5 ha2 i a e;refine ⟨_,(ah (aD (i:=2) sc_read_runs.nd rfl (Or.inl rfl) (bR ad))
  (ah (eD PassesOwn.never rfl (fi (by rfl) T.dB (aa (ak a7 (cp (pv 0) T.cA de c8 (hr.mono (by decide)) c9 .nil cF (aa (bz T.nQ) ad)) af) ad)) (aR (i:=3) sc_read_runs.nd rfl (Or.inl rfl))
   (ah (aD (i:=4) sc_read_runs.nd rfl (Or.inl rfl) (iD.pe hr ax (aa (pv 0) ad)))
  (ah (aD (i:=5) sc_read_runs.nd rfl (Or.inl rfl) (ak a7 (cp (pv 0) T.cA de c8 (hr.mono (by decide)) c9 .nil cF (aa (bz T.nR) ad)) af))
  (ap (ci (cu K PySem.F.plainAttrs_list PySem.F.slot_list_extend PySem.F.type_list_extend oq (pv 2) (aa (ak jO (bR (aa (pv 4) ad)) (pv 5)) ad)))))))
  (ap (ay (pv 2))))),?_⟩
  refine ⟨aO rfl,λ l hln=>?_⟩;have R1:=R.new (o:=.lst []) hln;have k1:Kp r H (upd H l (.lst [])):=(Kp.refl r H).new hln;have h1:(upd H l (.lst [])) l=some (.lst (([]:List OI).map ov)):=ag;have nlr:=il R hln;generalize upd H l (.lst [])=H1 at R1 k1 h1;obtain ⟨dx,hR1⟩:=id R1;refine ⟨_,rfl,r,dx,_,rfl,hR1,rfl,tk1 (eP (k:=8) R1 hb hz (by decide) ha.left (show rs.length - 1 < 2 ^ 8 by omega) λ H2 k2 R2=>?_)⟩;have h2:=k2 l _ nlr h1;refine ⟨_,_,rfl,rfl,_,rfl,by omega,by omega,?_⟩;rw [show (((rs.length - 1:Nat):Int)+1).toNat=rs.length by omega];refine ⟨iT (λ i σ H'=>∃ v3 v4 v5:Option V,σ=[some (.ref r),some (.int xs.length),some (.ref l),v3,v4,v5]/\Kp r H H'/\RdAt t.bh H' r X (n+8+32 * i)/\H' l=some (.lst ((c7 (rs.take i)).map ov))) ⟨none,none,none,rfl,k1.trans k2,R2,h2⟩ ?_ ?_⟩
  ·rintro i σ H3 hi ⟨v3,v4,v5,rfl,k3,R3,h3⟩;have ex:rs[i]?=some rs[i]:=aG hi;obtain ⟨f1,f2⟩:=hfacts rs[i].1 rs[i].2 (List.getElem_mem hi);have hav:=hv i _ ex;rw [zg4] at hav;have hk256:rs[i].2 - 1 < 2 ^ 8:=by
    have hsum:rs[i].2<=(c7 rs).length:=yh (List.getElem_mem hi);rw [hun] at hsum;omega
   have vl:((cq rs[i].1).cps.toList).length=24:=by rw [Array.length_toList];exact iw _
   have hav2:=hav.right;rw [vl] at hav2;refine ⟨_,rfl,r,X,_,rs[i].1,rfl,R3,hb,hz,al_ae.mp hok _ f1,hav.left,λ H4 k4 R4=>?_⟩;obtain ⟨dx4,hR4⟩:=id R4;refine ⟨_,rfl,r,dx4,_,rfl,hR4,rfl,tk1 (eP (k:=8) R4 hb hz (by decide) hav2 hk256 λ H5 k5 R5=>?_)⟩;have h5:=(k4.trans k5) l _ nlr h3;refine ⟨_,_,rfl,rfl,?_⟩;have etm:((rs[i].2 - 1:Nat):Int)+1=((rs[i].2:Nat):Int):=by omega
   have k5':=(k3.trans k4).trans k5;have hkl:(c7 (rs.take i)).length<=100:=by
    have:c7 rs=c7 (rs.take i)++c7 (rs.drop i):=by
     unfold c7;rw [← List.flatten_append,← aE,List.take_append_drop]
    rw [hun] at this;have:=congrArg List.length this;rw [bn] at this;omega
   refine ⟨_,rfl,.inl ⟨rfl,_,SqL.of h5⟩,_,rfl,aO rfl,λ a1 ha1=>⟨_,rfl,a1,_,_,rfl,rfl,ag,by omega,by omega,?_,λ a2 ha2=>?_⟩⟩
   ·rw [d5];exact aX (aY (by omega))
   have n1:l≠a1:=aI h5 ha1;have h6:(upd H5 a1 (.lst [ov rs[i].1])) l=some (.lst ((c7 (rs.take i)).map ov)):=by rw [aj n1];exact h5
   have n2:l≠a2:=aI h6 ha2;have R6:=(R5.new (o:=.lst [ov rs[i].1]) ha1).new (o:=.lst (List.replicate (((rs[i].2 - 1:Nat):Int)+1).toNat [ov rs[i].1]).flatten) ha2;have h7:(upd (upd H5 a1 (.lst [ov rs[i].1])) a2 (.lst (List.replicate (((rs[i].2 - 1:Nat):Int)+1).toNat [ov rs[i].1]).flatten)) l=some (.lst ((c7 (rs.take i)).map ov)):=by rw [aj n2];exact h6
   have tk:rs.take (i+1)=rs.take i++[rs[i]]:=by rw [cL,ex];rfl
   refine ⟨l,a2,_,_,rfl,rfl,h7,ag,?_,_,_,_,rfl,((k5'.new ha1).new ha2).put hln,?_,?_⟩
   ·rw [ae,u6,d5];exact aX (aY (by omega))
   ·rw [show n+8+32 * (i+1)=n+8+32 * i+24+8 by omega];exact R6.put h7
   ·rw [ag,List.flatten_replicate_singleton,tk,ma,aE,List.map_replicate,show (((rs[i].2 - 1:Nat):Int)+1).toNat=rs[i].2 by omega]
  ·rintro σ H3 ⟨v3,v4,v5,rfl,k3,R3,h3⟩;rw [aZ,hun] at h3;refine ⟨_,rfl,q l H3 k3 hln ?_ h3⟩;rw [← Nat.add_assoc];exact R3
theorem vE(h:i<=n):i < 2 ^ aK n:=by
 rw [oy];by_cases e:n=0
 ·rw [if_pos e];have:i=0:=by omega
  subst this;decide
 ·rw [if_neg e];exact Nat.lt_of_le_of_lt h Nat.lt_log2_self
theorem rm2(h:rm xs 2≠.none):(aq xs).book.length<=64:=by
 by_cases c:64 < (aq xs).book.length
 ·refine absurd ?_ h;show fD (if 64 < (aq xs).book.length then .none else _)=_;rw [if_pos c];rfl
 ·omega
theorem mY{g:α->Nat}{l:List α}(h:At X n ((l.map λ a=>(b8 (g a) k).cps.toList).flatten))(i:Nat)(a:α)(e:l[i]?=some a):At X (n+k * i) (bZ (g a) k):=
 kF (f:=λ a=>(b8 (g a) k).cps.toList) (λ a=>by show (bZ _ _).toArray.toList.length=k;exact eX _ _) h i a e
theorem zdS:(["place", "width", "reader"]:List Str).Nodup:=by decide +kernel
theorem zdR:(["number", "book"]:List Str).Nodup:=by decide +kernel
theorem sc_read_book:aC ["reader", "length", "entries", "book", "width", "numbers"] ["reader", "length"] (av qB):=by walk_at "sc"
theorem zff(T:Txt K mg t)(CT:bF P w K mg base (CXr P w) 1 t.bh "take" ["self", "width"] (gI t))(ki:Cal P w K mg base CX0 4 "read_plain" ["reader", "length"] (lR t))(eR:Cal P w K mg base CX0 1 "needed" ["number"] iq)(F:Fun K "read_book" "read_book" qB f fd):FnOk P w K mg base CX0 5 f fd ["reader", "length"] (fQ t 2):=by
 obtain ⟨jA,jB,c8,de,c9⟩:=CT;refine F.ok sc_read_book (λ vs H Q E h=>?_) (λ cdv A outer s H vs Q E hr h=>?_)
 ·obtain ⟨r,T,n,xs,rfl,_⟩:=h;rfl
 ·obtain ⟨r,X,n,xs,rfl,R,hb,hz,okb,hrm,ha,q⟩:=h;obtain ⟨hok,h100⟩:=ff okb;have h0:=gh okb;have hlen:(db 2 xs).length=6+24 * (aq xs).book.length+aK ((aq xs).book.length - 1) * xs.length:=tD xs;rw [hlen] at q;have ha:At X.cps.toList n (bZ ((aq xs).book.length - 1) 6++((dN (aq xs).book).cps.toList++(xs.map λ v=>(b8 ((aq xs).book.idxOf v) (aK ((aq xs).book.length - 1))).cps.toList).flatten)):=by
   have e:(db 2 xs).cps.toList=bZ ((aq xs).book.length - 1) 6++((dN (aq xs).book).cps.toList++(xs.map λ v=>(b8 ((aq xs).book.idxOf v) (aK ((aq xs).book.length - 1))).cps.toList).flatten):=by
    show (gU xs).cps.toList=_;unfold gU;rw [dq,dq,e9,List.map_map,List.append_assoc];rfl
   rw [← e];exact ha
  have h64:=rm2 hrm;have hle:=tE xs;have hmem:=om (xs:=xs) xs.length;rw [aZ] at hmem;generalize (aq xs).book=ws at q ha h64 hle hmem;have hpos:0 < ws.length:=List.length_pos_of_mem ((hmem _ (az _)).mpr (cR (getD_at' h0)));have okw:ws.all okV=true:=al_ae.mpr λ v hv=>al_ae.mp hok v ((hmem v (az _)).mp hv);have hw:aK (ws.length - 1)<=6:=ie (by omega);have ha2:=ha.right;rw [eX] at ha2;have ha3:=ha2.right;rw [Array.length_toList,show (dN ws).cps.size=24 * ws.length from lE ws] at ha3;have hv:=λ i a e=>mY ha3 i a e;refine ⟨_,(ah (aD (i:=2) sc_read_book.nd rfl (Or.inl rfl) (ak a7 (cp (pv 0) T.cA de c8 (hr.mono (by decide)) c9 .nil cF (aa (bz T.nM) ad)) af))
  (ah (aD (i:=3) sc_read_book.nd rfl (Or.inr rfl) (ki.pe hr ax (aa (pv 0) (aa (pv 2) ad))))
  (ah (aD (i:=4) sc_read_book.nd rfl (Or.inr rfl) (eR.pe hr ax (aa (ak bK (pv 2) af) ad)))
  (ah (fk (i:=5) sc_read_book.nd rfl (Or.inl rfl) (N:=["place", "width", "reader"]) (fr:=[none,some 4,some 0]) ⟨rfl,rfl,rfl,rfl,rfl,rfl⟩ rfl (fi (by rfl) T.dB (aa (pv 1) ad))
    (λ C fp s H=>⟨aR (i:=0) zdS rfl (Or.inl rfl),bS,(cp (pv 2) T.cA de c8 (hr.mono (by decide)) c9 .nil cF (aa (pv 1) ad))⟩))
  (ah (aW (aF lu (aM (ju K rfl) (by rfl) T.gB PyProof.Rows.Boot.«max» (aa (pv 5) ad)) (pv 2) (aB _)) lH
   a8)
  (ap (ay (cn (N:=["number", "book"]) (fr:=[none,some 3]) ⟨rfl,rfl,rfl,rfl,rfl,rfl⟩ rfl (bN (pv 5))
    (λ C fp s H=>⟨aR (i:=0) zdR rfl (Or.inl rfl),bS,(aP (bq K) (pv 1) (pv 0) (λ _ _=>rfl))⟩))))))))),?_⟩
  obtain ⟨dx,hR⟩:=id R;refine ⟨_,rfl,r,dx,_,rfl,hR,rfl,tk1 (eP (k:=6) R hb hz (by decide) ha.left (show ws.length - 1 < 2 ^ 6 by omega) λ H1 k1 R1=>?_)⟩;have ew:((ws.length - 1:Nat):Int)+1=(ws.length:Int):=by omega
  refine ⟨_,_,rfl,rfl,_,rfl,_,rfl,r,X,n+6,ws,?_,R1,hb,hz,by omega,okw,ha2.left,λ lb H2 k2 hlb R2 h2=>?_⟩
  ·show [V.ref r,V.int (((ws.length - 1:Nat):Int)+1)]=_;rw [ew]
  have k12:=k1.trans k2;have hlb0:=k1.free R1 hlb;have nlb:lb≠r:=il R1 hlb;refine ⟨_,rfl,_,_,rfl,rfl,_,rfl,by omega,?_⟩;have en:(((ws.length - 1:Nat):Int)+1 - 1).toNat=ws.length - 1:=by omega
  rw [en];refine ⟨_,rfl,_,rfl,by omega,by omega,?_⟩;rw [Int.toNat_natCast];refine ⟨fJ (λ i acc H'=>Kp r H2 H'/\RdAt t.bh H' r X (n+6+24 * ws.length+aK (ws.length - 1) * i)/\acc=((xs.take i).map λ v=>((ws.idxOf v:Nat):Int)).map V.int) ⟨Kp.refl _ _,R2,rfl⟩ (λ i acc H' hi hp=>by rw [hp.2.2,ae,ae,bc];omega) (aX (aY (by omega))) ?_ ?_⟩
  ·rintro i acc H3 hi ⟨k3,R3,rfl⟩;obtain ⟨dx3,hR3⟩:=id R3;have hm:at' xs i∈ws:=(hmem _ (az _)).mpr (cR (getD_at' hi));have hix:ws.idxOf (at' xs i) < ws.length:=List.idxOf_lt_length_of_mem hm;refine ⟨Wk.set rfl,tT ⟨_,rfl,r,dx3,_,rfl,hR3,rfl,tkv rfl (eP (k:=aK (ws.length - 1)) R3 hb hz (by omega) (hv i _ (getD_at' hi)) (vE (i:=ws.idxOf (at' xs i)) (n:=ws.length - 1) (by omega)) λ H4 k4 R4=>cw hi ⟨k3.trans k4,?_,?_⟩)⟩⟩
   ·rw [Nat.mul_succ,← Nat.add_assoc];exact R4
   ·rw [cB hi,aE,aE];rfl
  ·rintro acc H3 ⟨k3,R3,rfl⟩ ln hln;rw [aZ];have k4:=k3.new (o:=.lst ((xs.map λ v=>((ws.idxOf v:Nat):Int)).map V.int)) hln;have R4:=R3.new (o:=.lst ((xs.map λ v=>((ws.idxOf v:Nat):Int)).map V.int)) hln;have h4:(upd H3 ln (.lst ((xs.map λ v=>((ws.idxOf v:Nat):Int)).map V.int))) ln=some (.lst ((xs.map λ v=>((ws.idxOf v:Nat):Int)).map V.int)):=ag;generalize upd H3 ln (.lst ((xs.map λ v=>((ws.idxOf v:Nat):Int)).map V.int))=H4 at k4 R4 h4;have b4:=k4 lb _ nlb h2;obtain ⟨M,hM⟩:=ol (l:=xs.map λ v=>((ws.idxOf v:Nat):Int)) (by intro z;rw [List.map_eq_nil_iff.mp z] at h0;cases h0);have hMm:=gy hM;have hMlt:M < (ws.length:Int):=by
    obtain ⟨v,hv',rfl⟩:=List.mem_map.mp hMm;have:=List.idxOf_lt_length_of_mem ((hmem v (az _)).mpr hv');omega
   refine ⟨_,rfl,ln,_,M,rfl,SqL.of h4,hMm,i3 hM,_,rfl,_,_,rfl,rfl,_,rfl,?_⟩;rw [aU (show ¬ (((ws.length - 1:Nat):Int)+1)<=M by omega)];refine au ?_;refine ⟨_,rfl,ln,rfl,⟨_,SqL.of h4⟩,⟨cD (xs:=(xs.map λ v=>((ws.idxOf v:Nat):Int)).map V.int) (λ i acc H'=>Same H4 H'/\acc=(xs.take i).map ov) ⟨Same.refl _,rfl⟩ ?_ ?_ ?_ ?_⟩⟩
   ·rintro i acc H5 hi ⟨s5,rfl⟩;refine ⟨SqL.of (s5 _ _ h4),?_⟩;rw [ae,bc];omega
   ·rw [ae,ae];exact aX (aY (by omega))
   ·rintro i y acc H5 hx hlt ⟨s5,rfl⟩;have hlt':i < xs.length:=by rwa [ae,ae] at hlt
    rw [aH,aH,getD_at' hlt'] at hx;cases hx;have hm:at' xs i∈ws:=(hmem _ (az _)).mpr (cR (getD_at' hlt'));have hix:ws.idxOf (at' xs i) < ws.length:=List.idxOf_lt_length_of_mem hm;have a1:atI (ws.map ov) ((ws.idxOf (at' xs i):Nat):Int)=some (ov (at' xs i)):=ef (by rw [aH,aG hix,List.getElem_idxOf hix];rfl);refine ⟨Wk.set rfl,tT ⟨_,rfl,_,rfl,lb,_,_,_,rfl,rfl,SqL.of (s5 _ _ b4),a1,cw hlt ⟨s5,?_⟩⟩⟩;rw [cB hlt',aE];rfl
   ·rintro acc H5 ⟨s5,rfl⟩ l hl5;rw [ae,ae,aZ];have k5:Kp r H H5:=(k12.trans k4).trans (Kp.of s5);have R5:=R4.same s5;refine q l _ (k5.new hl5) (k5.free R5 hl5) ?_ ag;rw [show n+(6+24 * ws.length+aK (ws.length - 1) * xs.length)=n+6+24 * ws.length+aK (ws.length - 1) * xs.length by omega];exact R5.new hl5
theorem uj(h:At X n (dR ns).cps.toList):At X n (bZ (aK (bu ns).toNat) 5)/\At X (n+5) ((ns.map λ m=>(b8 m.toNat (aK (bu ns).toNat)).cps.toList).flatten):=by
 have e:(dR ns).cps.toList=bZ (aK (bu ns).toNat) 5++(ns.map λ m=>(b8 m.toNat (aK (bu ns).toNat)).cps.toList).flatten:=by
  unfold dR;rw [dq,e9,List.map_map];rfl
 rw [e] at h;have h2:=h.right;rw [eX] at h2;exact ⟨h.left,h2⟩
theorem yd(h:m∈ns):m.toNat < 2 ^ aK (bu ns).toNat:=by
 have:=zi4 ns m (bV _ h);exact vE (by omega)
theorem zdQ:(["place", "width", "reader"]:List Str).Nodup:=by decide +kernel
theorem zdP:(["number", "least"]:List Str).Nodup:=by decide +kernel
theorem sc_read_base:aC ["reader", "length", "least", "width", "numbers"] ["reader", "length"] (av qz):=by walk_at "sc"
theorem zfd(T:Txt K mg t)(CT:bF P w K mg base (CXr P w) 1 t.bh "take" ["self", "width"] (gI t))(F:Fun K "read_base" "read_base" qz f fd):FnOk P w K mg base CX0 3 f fd ["reader", "length"] (fQ t 3):=by
 obtain ⟨jA,jB,c8,de,c9⟩:=CT;refine F.ok sc_read_base (λ vs H Q E h=>?_) (λ cdv A outer s H vs Q E hr h=>?_)
 ·obtain ⟨r,T,n,xs,rfl,_⟩:=h;rfl
 ·obtain ⟨r,X,n,xs,rfl,R,hb,hz,okb,hrm,ha,q⟩:=h;obtain ⟨hok,h100⟩:=ff okb;have h0:=gh okb;have hlen:(db 3 xs).length=24+(5+aK (bu (xs.map (above (bj xs)))).toNat * xs.length):=zab xs;rw [hlen] at q;have ha:At X.cps.toList n ((cq (some (bj xs))).cps.toList++(dR (xs.map (above (bj xs)))).cps.toList):=by
   have e:(db 3 xs).cps.toList=(cq (some (bj xs))).cps.toList++(dR (xs.map (above (bj xs)))).cps.toList:=by
    show (gq xs).cps.toList=_;unfold gq;rw [dq]
   rw [← e];exact ha
  have hlo:=oh hok;have hli:=i6 hlo;have hab:=kB hok;have ha2:=ha.right;rw [Array.length_toList,show (cq (some (bj xs))).cps.size=24 from iw _] at ha2;obtain ⟨e1,e2⟩:=uj ha2;obtain ⟨t0,t1⟩:=l9 (k:=2 ^ 30) (by decide) hab;have hw:aK (bu (xs.map (above (bj xs)))).toNat<=30:=ie (by omega);have hv:=λ i a e=>mY e2 i a e;have htl:=λ m h=>yd (ns:=xs.map (above (bj xs))) (m:=m) h;generalize aK (bu (xs.map (above (bj xs)))).toNat=wd at q e1 e2 hw hv htl;refine ⟨_,(ah (aD (i:=2) sc_read_base.nd rfl (Or.inr rfl) (ak bK (cp (pv 0) T.cA de c8 (hr.mono (by decide)) c9 .nil cF (aa (bz T.gc) ad)) (bz T.kW)))
  (ah (aD (i:=3) sc_read_base.nd rfl (Or.inr rfl) (cp (pv 0) T.cA de c8 (hr.mono (by decide)) c9 .nil cF (aa (bz T.jE) ad)))
  (ah (fk (i:=4) sc_read_base.nd rfl (Or.inl rfl) (N:=["place", "width", "reader"]) (fr:=[none,some 3,some 0]) ⟨rfl,rfl,rfl,rfl,rfl,rfl⟩ rfl (fi (by rfl) T.dB (aa (pv 1) ad))
    (λ C fp s H=>⟨aR (i:=0) zdQ rfl (Or.inl rfl),bS,(cp (pv 2) T.cA de c8 (hr.mono (by decide)) c9 .nil cF (aa (pv 1) ad))⟩))
  (ap (ay (cn (N:=["number", "least"]) (fr:=[none,some 2]) ⟨rfl,rfl,rfl,rfl,rfl,rfl⟩ rfl (bN (pv 4))
    (λ C fp s H=>⟨aR (i:=0) zdP rfl (Or.inl rfl),bS,(c6 (aF cb (pv 0) af (aB _)) bx (ak bK (ak a7 (pv 1) (pv 0)) af))⟩))))))),?_⟩
  obtain ⟨dx,hR⟩:=id R;refine ⟨_,rfl,r,dx,_,rfl,hR,rfl,tk1 (eP (k:=24) R hb hz (by decide) ha.left (nq hlo) λ H1 k1 R1=>?_)⟩;have ec:((fH (some (bj xs)):Nat):Int) - 4000001=bj xs:=by
   show (((bj xs+4000001).toNat:Nat):Int) - 4000001=_;omega
  obtain ⟨dx1,hR1⟩:=id R1;refine ⟨_,_,rfl,rfl,_,rfl,r,dx1,_,rfl,hR1,rfl,tk1 (eP (k:=5) R1 hb hz (by decide) e1 (show wd < 2 ^ 5 by omega) λ H2 k2 R2=>?_)⟩;refine ⟨_,rfl,_,rfl,by omega,by omega,?_⟩;rw [Int.toNat_natCast];refine ⟨fJ (λ i acc H'=>Kp r H2 H'/\RdAt t.bh H' r X (n+24+5+wd * i)/\acc=((xs.map (above (bj xs))).take i).map V.int) ⟨Kp.refl _ _,R2,rfl⟩ (λ i acc H' hi hp=>by rw [hp.2.2,ae,bc];omega) (aX (aY (by omega))) ?_ ?_⟩
  ·rintro i acc H3 hi ⟨k3,R3,rfl⟩;obtain ⟨dx3,hR3⟩:=id R3;have ex:(xs.map (above (bj xs)))[i]?=some (above (bj xs) (at' xs i)):=by rw [aH,getD_at' hi];rfl
   have hmem:=cR ex;obtain ⟨n0,_⟩:=hab _ hmem;refine ⟨Wk.set rfl,tT ⟨_,rfl,r,dx3,_,rfl,hR3,rfl,tkv rfl (eP (k:=wd) R3 hb hz (by omega) (hv i _ ex) (htl _ hmem) λ H4 k4 R4=>cw hi ⟨k3.trans k4,?_,?_⟩)⟩⟩
   ·rw [Nat.mul_succ,← Nat.add_assoc];exact R4
   ·rw [cL,ex,aE,Int.toNat_of_nonneg n0];rfl
  ·rintro acc H3 ⟨k3,R3,rfl⟩ ln hln;have ell:(xs.map (above (bj xs))).take xs.length=xs.map (above (bj xs)):=List.take_of_length_le (by rw [ae];exact az _);rw [ell];have k4:=k3.new (o:=.lst ((xs.map (above (bj xs))).map V.int)) hln;have R4:=R3.new (o:=.lst ((xs.map (above (bj xs))).map V.int)) hln;have h4:(upd H3 ln (.lst ((xs.map (above (bj xs))).map V.int))) ln=some (.lst ((xs.map (above (bj xs))).map V.int)):=ag;generalize upd H3 ln (.lst ((xs.map (above (bj xs))).map V.int))=H4 at k4 R4 h4;refine ⟨_,rfl,ln,rfl,⟨_,SqL.of h4⟩,⟨cD (xs:=(xs.map (above (bj xs))).map V.int) (λ i acc H'=>Same H4 H'/\acc=(xs.take i).map ov) ⟨Same.refl _,rfl⟩ ?_ ?_ ?_ ?_⟩⟩
   ·rintro i acc H5 hi ⟨s5,rfl⟩;refine ⟨SqL.of (s5 _ _ h4),?_⟩;rw [ae,bc];omega
   ·rw [ae,ae];exact aX (aY (by omega))
   ·rintro i y acc H5 hx hlt ⟨s5,rfl⟩;have hlt':i < xs.length:=by rwa [ae,ae] at hlt
    rw [aH,aH,getD_at' hlt'] at hx;cases hx;have hmx:at' xs i∈xs:=cR (getD_at' hlt');refine ⟨Wk.set rfl,tT ⟨_,rfl,rfl,_,rfl,?_⟩⟩;rw [dec_int];cases e:at' xs i with
    | none=>
     refine aA (cw hlt ⟨s5,?_⟩);rw [cB hlt',e,aE];rfl
    | some z=>
     have hz1:0<=z - bj xs:=by
      obtain ⟨m,hm⟩:∃ m,bH (aN xs)=some m:=by
       cases e2:aN xs with
       | nil=>have:=mem_somes.mpr (e ▸ hmx);rw [e2] at this;cases this
       | cons x r=>exact ⟨_,rfl⟩
      have:=gf hm z (mem_somes.mpr (e ▸ hmx));have:bj xs=m:=by unfold bj;rw [hm];rfl
      omega
     rw [aU (show ¬ above (bj xs) (some z)=0 by show ¬ z - bj xs+1=0;omega)];refine au ⟨_,rfl,_,rfl,_,_,rfl,rfl,_,_,rfl,rfl,cw hlt ⟨s5,?_⟩⟩;rw [cB hlt',e,aE,ec];have e3:bj xs+above (bj xs) (some z) - 1=z:=by show bj xs+(z - bj xs+1) - 1=z;omega
     show List.map ov (List.take i xs)++[V.int (bj xs+above (bj xs) (some z) - 1)]=_;rw [e3];rfl
   ·rintro acc H5 ⟨s5,rfl⟩ l hl5;rw [ae,ae,aZ];have k5:Kp r H H5:=((k1.trans k2).trans k4).trans (Kp.of s5);have R5:=R4.same s5;refine q l _ (k5.new hl5) (k5.free R5 hl5) ?_ ag;rw [show n+(24+(5+wd * xs.length))=n+24+5+wd * xs.length by omega];exact R5.new hl5
inductive xM (vs:List V) (H:Hp) (Q:VK) (_E:XK):Prop
 | i (d:Int) (_:vs=[.int (bw d)]) (_:Q (.int d) H)
theorem zhW:aC ["number"] ["number"] (av qP):=by walk_at "sc"
theorem zfB(F:Fun K "unfolded" "unfolded" qP f fd):FnOk P w K mg base CX0 1 f fd ["number"] xM:=by
 refine F.ok zhW (λ vs H Q E h=>?_) (λ cdv A outer s H vs Q E hr h=>?_)
 ·obtain ⟨d,rfl,_⟩:=h;rfl
 ·obtain ⟨d,rfl,q⟩:=h;have hb:=zaZ d;have hn:=nG d;generalize bw d=m at hb hn;refine ⟨_,(ap (ay (c6 (aF cb (ak cE (pv 0) af) af (aB _)) (ak dJ (pv 0) af) (ak bK (dC dF (ak dJ (pv 0) af)) af)))),?_⟩;refine ⟨_,rfl,_,_,rfl,rfl,by show (0:Int) < 2;decide,rfl,_,rfl,?_⟩;rw [dec_int];by_cases c:m % 2=0
  ·rw [if_pos c] at hb;rw [aV c];refine aA ⟨_,rfl,_,_,rfl,rfl,⟨by decide,by decide⟩,?_⟩;show Q (.int (m / 2)) H;rw [hb];exact q
  ·rw [if_neg c] at hb;rw [aU c];refine au ⟨_,rfl,_,_,rfl,rfl,⟨by decide,by decide⟩,_,rfl,_,_,rfl,rfl,?_⟩;show Q (.int (-(m / 2) - 1)) H;rw [hb];exact q
theorem sc_read_steps:aC ["reader", "length", "values", "width", "place"] ["reader", "length"] (av qE):=by walk_at "sc"
theorem zfi(T:Txt K mg t)(CT:bF P w K mg base (CXr P w) 1 t.bh "take" ["self", "width"] (gI t))(mJ:Cal P w K mg base CX0 1 "unfolded" ["number"] xM)(F:Fun K "read_steps" "read_steps" qE f fd):
  FnOk P w K mg base CX0 3 f fd ["reader", "length"] (fQ t 4):=by
 obtain ⟨jA,jB,c8,de,c9⟩:=CT;refine F.ok sc_read_steps (λ vs H Q E h=>?_) (λ cdv A outer s H vs Q E hr h=>?_)
 ·obtain ⟨r,T,n,xs,rfl,_⟩:=h;rfl
 ·obtain ⟨r,X,n,xs,rfl,R,hb,hz,okb,hrm,ha,q⟩:=h;obtain ⟨hok,h100⟩:=ff okb;have h0:=gh okb;have hn:=rm4 hrm;have hlen:(db 4 xs).length=24+(5+aK (bu (stp xs xs.length)).toNat * (stp xs xs.length).length):=zic xs;rw [hlen] at q;have ha:At X.cps.toList n ((cq (at' xs 0)).cps.toList++(dR (stp xs xs.length)).cps.toList):=by
   have e:(db 4 xs).cps.toList=(cq (at' xs 0)).cps.toList++(dR (stp xs xs.length)).cps.toList:=by
    show (gJ xs).cps.toList=_;unfold gJ;rw [dq]
   rw [← e];exact ha
  have hok0:okV (at' xs 0)=true:=al_ae.mp hok _ (cR (getD_at' h0));have hs:=j7 hok xs.length;have ha2:=ha.right;rw [Array.length_toList,show (cq (at' xs 0)).cps.size=24 from iw _] at ha2;obtain ⟨e1,e2⟩:=uj ha2;obtain ⟨t0,t1⟩:=l9 (k:=2 ^ 30) (by decide) hs;have hw:aK (bu (stp xs xs.length)).toNat<=30:=ie (by omega);have hv:=λ i a e=>mY e2 i a e;have htl:=λ m h=>yd (ns:=stp xs xs.length) (m:=m) h;obtain ⟨N,hN⟩:∃ N,xs.length=N+1:=⟨xs.length - 1,by omega⟩
  have sl:(stp xs xs.length).length=N:=by rw [hN,fS]
  have sg:∀ i,i < N->(stp xs xs.length)[i]?=some (bw ((at' xs (i+1)).getD 0 - (at' xs i).getD 0)):=by
   have key:∀ m i,i < m->(stp xs (m+1))[i]?=some (bw ((at' xs (i+1)).getD 0 - (at' xs i).getD 0)):=by
    intro m;induction m with
    | zero=>intro i hi;omega
    | succ m ih=>
     intro i hi;rw [rN];by_cases c:i < m
     ·rw [List.getElem?_append_left (by rw [fS];exact c)];exact ih i c
     ·have:i=m:=by omega
      subst this;rw [List.getElem?_append_right (by rw [fS];exact az _),fS,Nat.sub_self];rfl
   intro i hi;rw [hN];exact key N i hi
  rw [sl] at q;generalize aK (bu (stp xs xs.length)).toNat=wd at q e1 e2 hw hv htl;refine ⟨_,(ah (aD (i:=2) sc_read_steps.nd rfl (Or.inl rfl) (bR (aa (ak bK (cp (pv 0) T.cA de c8 (hr.mono (by decide)) c9 .nil cF (aa (bz T.gc) ad)) (bz T.kW)) ad)))
  (ah (aD (i:=3) sc_read_steps.nd rfl (Or.inl rfl) (cp (pv 0) T.cA de c8 (hr.mono (by decide)) c9 .nil cF (aa (bz T.jE) ad)))
  (ah (eD PassesOwn.never rfl (fi (by rfl) T.dB (aa (ak bK (pv 1) af) ad)) (aR (i:=4) sc_read_steps.nd rfl (Or.inl rfl))
   (ap (ci (cu K PySem.F.plainAttrs_list PySem.F.slot_list_append PySem.F.type_list_append fe (pv 2) (aa (ak a7 (aP (bq K) (pv 2) (dC dF af) (λ _ _=>rfl)) (mJ.pe hr ax (aa (cp (pv 0) T.cA de c8 (hr.mono (by decide)) c9 .nil cF (aa (pv 3) ad)) ad))) ad)))))
  (ap (ay (pv 2)))))),?_⟩
  obtain ⟨dx,hR⟩:=id R;refine ⟨_,rfl,r,dx,_,rfl,hR,rfl,tk1 (eP (k:=24) R hb hz (by decide) ha.left (nq hok0) λ H1 k1 R1=>?_)⟩;have ec:((fH (at' xs 0):Nat):Int) - 4000001=(at' xs 0).getD 0:=by
   obtain ⟨z,ez⟩:=qZ hn h0;have:=i6 (ez ▸ hok0);rw [ez];show (((z+4000001).toNat:Nat):Int) - 4000001=z;omega
  refine ⟨_,_,rfl,rfl,aO rfl,λ l hln=>?_⟩;have h2:(upd H1 l (.lst [V.int (((fH (at' xs 0):Nat):Int) - 4000001)])) l=some (.lst ((xs.take 1).map ov)):=by
   rw [ag,ec,cB h0,← jL hn h0];rfl
  have k2:=k1.new (o:=.lst [V.int (((fH (at' xs 0):Nat):Int) - 4000001)]) hln;have R2:=R1.new (o:=.lst [V.int (((fH (at' xs 0):Nat):Int) - 4000001)]) hln;have hl0:=k1.free R1 hln;have nlr:=il R1 hln;show dS _ _ _ (upd H1 l (.lst [V.int (((fH (at' xs 0):Nat):Int) - 4000001)])) _;generalize upd H1 l (.lst [V.int (((fH (at' xs 0):Nat):Int) - 4000001)])=H2 at h2 k2 R2;obtain ⟨dx2,hR2⟩:=id R2;refine ⟨_,rfl,r,dx2,_,rfl,hR2,rfl,tk1 (eP (k:=5) R2 hb hz (by decide) e1 (show wd < 2 ^ 5 by omega) λ H3 k3 R3=>?_)⟩;refine ⟨_,rfl,_,_,rfl,rfl,_,rfl,by omega,by omega,?_⟩;rw [show ((xs.length:Int) - 1).toNat=N by omega];refine ⟨iT (λ i σ H'=>∃ v4:Option V,σ=[some (.ref r),some (.int xs.length),some (.ref l),some (.int wd),v4]/\Kp r H H'/\RdAt t.bh H' r X (n+24+5+wd * i)/\H' l=some (.lst ((xs.take (i+1)).map ov))) ⟨none,rfl,k2.trans k3,R3,k3 l _ nlr h2⟩ ?_ ?_⟩
  ·rintro i σ H4 hi ⟨v4,rfl,k4,R4,h4⟩;obtain ⟨dx4,hR4⟩:=id R4;have hi1:i < xs.length:=by omega
   have hi2:i+1 < xs.length:=by omega
   have ex:=sg i hi;have hmem:=cR ex;obtain ⟨n0,_⟩:=hs _ hmem;have al:atI ((xs.take (i+1)).map ov) (-1)=some (.int ((at' xs i).getD 0)):=by
    rw [cB hi1,aE,← jL hn hi1];exact kE _ _
   refine ⟨_,rfl,.inl ⟨rfl,_,SqL.of h4⟩,_,rfl,1,rfl,l,_,_,_,rfl,rfl,SqL.of h4,al,?_⟩;refine ⟨_,rfl,r,dx4,_,rfl,hR4,rfl,tkv rfl (eP (k:=wd) R4 hb hz (by omega) (hv i _ ex) (htl _ hmem) λ H5 k5 R5=>?_)⟩;have h5:=k5 l _ nlr h4;refine ⟨(at' xs (i+1)).getD 0 - (at' xs i).getD 0,?_,_,_,rfl,rfl,l,_,_,rfl,rfl,h5,?_,_,rfl,(k4.trans k5).put hl0,?_,?_⟩
   ·show [V.int (((bw ((at' xs (i+1)).getD 0 - (at' xs i).getD 0)).toNat:Nat):Int)]=_;rw [Int.toNat_of_nonneg n0]
   ·rw [ae,bc];exact aY (by omega)
   ·rw [Nat.mul_succ,← Nat.add_assoc];exact R5.put h5
   ·rw [ag,cB hi2,aE];show some (HO.lst (_++[V.int ((at' xs i).getD 0+((at' xs (i+1)).getD 0 - (at' xs i).getD 0))]))=some (HO.lst (_++[ov (at' xs (i+1))]));rw [jL hn hi2,show (at' xs i).getD 0+((at' xs (i+1)).getD 0 - (at' xs i).getD 0)=(at' xs (i+1)).getD 0 by omega]
  ·rintro σ H4 ⟨v4,rfl,k4,R4,h4⟩;rw [← hN,aZ] at h4;refine ⟨_,rfl,q l H4 k4 hl0 ?_ h4⟩;rw [show n+(24+(5+wd * N))=n+24+5+wd * N by omega];exact R4
def spR(t:Ad):Str->Sp:=λ x vs H Q E=>∃ j,kindsS[j]?=some x/\fQ t j vs H Q E
theorem zgW{f1 f2 f3 f4 f5:Addr}(hm:mg "READERS" = some (.ref a))(hl:K.lookup a=some ⟨.type "dict", none,.dict es n,#[]⟩)(hk:W.KeysLit w.params es.toList)(n1:W.nsIn K a "plain" = some (some (.ref f1)))(n2:W.nsIn K a "runs" = some (some (.ref f2)))(n3:W.nsIn K a "book" = some (some (.ref f3)))(n4:W.nsIn K a "base" = some (some (.ref f4)))(n5:W.nsIn K a "steps" = some (some (.ref f5)))(g1:mg "read_plain" = some (.ref f1))(g2:mg "read_runs" = some (.ref f2))(g3:mg "read_book" = some (.ref f3))(g4:mg "read_base" = some (.ref f4))(g5:mg "read_steps" = some (.ref f5))(C1:Cal P w K mg base CX0 4 "read_plain" ["reader", "length"] (lR t))(C2:Cal P w K mg base CX0 4 "read_runs" ["reader", "length"] (fQ t 1))(C3:Cal P w K mg base CX0 5 "read_book" ["reader", "length"] (fQ t 2))(C4:Cal P w K mg base CX0 3 "read_base" ["reader", "length"] (fQ t 3))(C5:Cal P w K mg base CX0 3 "read_steps" ["reader", "length"] (fQ t 4)):CalT P w K mg base CX0 5 "READERS" ["reader", "length"] kindsS (spR t):=by
 refine ⟨a,es,n,hm,hl,hk,λ y hy=>?_⟩;obtain ⟨j,hj⟩:=List.getElem?_of_mem hy;have only:∀ {i:Nat},kindsS[i]?=some y->i=j:=λ h=>fO ic h hj;rcases nE hj with ⟨rfl,rfl⟩ | ⟨rfl,rfl⟩ | ⟨rfl,rfl⟩ | ⟨rfl,rfl⟩ | ⟨rfl,rfl⟩
 ·obtain ⟨f,fd,G,m,k,b⟩:=C1;cases g1.symm.trans m;exact ⟨_,fd,n1,(G.mono (by decide)).imp (λ vs H Q E ⟨i,hi,h⟩=>by cases only hi;exact zgV h),k,b⟩
 ·obtain ⟨f,fd,G,m,k,b⟩:=C2;cases g2.symm.trans m;exact ⟨_,fd,n2,(G.mono (by decide)).imp (λ vs H Q E ⟨i,hi,h⟩=>by cases only hi;exact h),k,b⟩
 ·obtain ⟨f,fd,G,m,k,b⟩:=C3;cases g3.symm.trans m;exact ⟨_,fd,n3,G.imp (λ vs H Q E ⟨i,hi,h⟩=>by cases only hi;exact h),k,b⟩
 ·obtain ⟨f,fd,G,m,k,b⟩:=C4;cases g4.symm.trans m;exact ⟨_,fd,n4,(G.mono (by decide)).imp (λ vs H Q E ⟨i,hi,h⟩=>by cases only hi;exact h),k,b⟩
 ·obtain ⟨f,fd,G,m,k,b⟩:=C5;cases g5.symm.trans m;exact ⟨_,fd,n5,(G.mono (by decide)).imp (λ vs H Q E ⟨i,hi,h⟩=>by cases only hi;exact h),k,b⟩
theorem f9{a b:Str}(ha:bB a.cps.toList)(hb:bB b.cps.toList):bB (a++b).cps.toList:=λ c hc=>by
 rw [dq] at hc;rcases al_mp.mp hc with h | h
 ·exact ha c h
 ·exact hb c h
theorem zah{l:List Str}(h:∀ s∈l,bB s.cps.toList):bB (bp l).cps.toList:=λ c hc=>by
 rw [e9] at hc;obtain ⟨s,hs,hc⟩:=List.mem_flatten.mp hc;obtain ⟨z,hz,rfl⟩:=List.mem_map.mp hs;exact h z hz c hc
theorem iK{f:α->Str}{l:List α}(h:∀ a,bB (f a).cps.toList):bB (bp (l.map f)).cps.toList:=zah λ s hs=>by
 obtain ⟨a,_,rfl⟩:=List.mem_map.mp hs;exact h a
theorem eG(n k:Nat):bB (b8 n k).cps.toList:=sW n k
theorem sY(ns:List Int):bB (dR ns).cps.toList:=f9 (eG _ _) (iK λ _=>eG _ _)
theorem zag(j:Nat)(xs:List OI):bB (db j xs).cps.toList:=by
 match j with
 | 0=>exact iK (f:=cq) λ _=>eG _ _
 | 1=>exact f9 (eG _ _) (iK (f:=df) λ _=>f9 (eG _ _) (eG _ _))
 | 2=>exact f9 (f9 (eG _ _) (iK (f:=cq) λ _=>eG _ _)) (iK (f:=fE (aq xs).book) λ _=>eG _ _)
 | 3=>exact f9 (eG _ _) (sY _)
 | j+4=>exact f9 (eG _ _) (sY _)
theorem zaj(j:Nat)(xs:List OI):bB (dh j xs).cps.toList:=f9 (f9 (eG _ _) (eG _ _)) (zag j xs)
abbrev Blk:=Nat × List OI
variable {bl:List Blk}
def okK(b:Blk):Prop:=okB b.2=true/\b.1 < 5/\rm b.2 b.1≠.none
def bW(b:Blk):Str:=dh b.1 b.2
theorem sI{α:Type}(f:α->Str):∀ (l:List α) (i:Nat) (a:α),l[i]?=some a->At (bp (l.map f)).cps.toList (bp ((l.take i).map f)).length (f a).cps.toList
 | b::r,0,a,e=>by
  cases e;refine ⟨[],(bp (r.map f)).cps.toList,?_,rfl⟩;rw [bE,kX,dq];rfl
 | b::r,i+1,a,e=>by
  obtain ⟨pre,post,h1,h2⟩:=sI f r i a e;refine ⟨(f b).cps.toList++pre,post,?_,?_⟩
  ·rw [bE,kX,dq,h1,List.append_assoc]
  ·rw [List.take_succ_cons,bE,kX,cT,bn,h2,Array.length_toList];rfl
inductive xD (t:Ad) (vs:List V) (H:Hp) (Q:VK) (_E:XK):Prop
 | i (r:Addr) (X:Str) (n:Nat) (b:Blk) (_:vs=[.ref r]) (_:RdAt t.bh H r X n) (_:bB X.cps.toList) (_:X.length<=16777216) (_:okK b) (_:At X.cps.toList n (bW b).cps.toList) (_:∀ (a l:Addr) (H':Hp),Kp r H H'->H a=none->H l=none->H' a=some (.tup [.str (kindsS.getD b.1 ""),.ref l])->H' l=some (.lst (b.2.map ov))->RdAt t.bh H' r X (n+(bW b).length)->Q (.ref a) H')
theorem sc_read_block:aC ["reader", "begin", "number", "kind", "length", "values"] ["reader"] (av qA):=by walk_at "sc"
theorem zfe(T:Txt K mg t)(CT:bF P w K mg base (CXr P w) 1 t.bh "take" ["self", "width"] (gI t))(CS:bF P w K mg base CX0 1 t.bh "taken_since" ["self", "place"] (xK t))(mh:CalT P w K mg base CX0 5 "READERS" ["reader", "length"] kindsS (spR t))(kf:Cal P w K mg base CX0 4 "is_block" ["values"] (rA K))(iC:Cal P w K mg base (CXr P w) 7 "packed" ["kind", "values"] (rG K t))(F:Fun K "read_block" "read_block" qA f fd):FnOk P w K mg base CX0 8 f fd ["reader"] (xD t):=by
 obtain ⟨jA,jB,c8,de,c9⟩:=CT;obtain ⟨zjL,zjZ,zw,zcK,z8⟩:=CS;refine F.ok sc_read_block (λ vs H Q E h=>?_) (λ cdv A outer s H vs Q E hr h=>?_)
 ·obtain ⟨r,T,n,b,rfl,_⟩:=h;rfl
 ·obtain ⟨r,X,n,⟨j,xs⟩,rfl,R,hb,hz,⟨okb,hj5,hrm⟩,ha,q⟩:=h;have okb:okB xs=true:=okb;have hj5:j < 5:=hj5;have hrm:rm xs j≠.none:=hrm;have ha:At X.cps.toList n (dh j xs).cps.toList:=ha;obtain ⟨hok,h100⟩:=ff okb;have h0:=gh okb;have hj:kindsS[j]?=some (kindsS.getD j ""):=by
   have h:j < kindsS.length:=hj5;simp [List.getD,h]
  have q:∀ (a l:Addr) (H':Hp),Kp r H H'->H a=none->H l=none->H' a=some (.tup [.str (kindsS.getD j ""),.ref l])->H' l=some (.lst (xs.map ov))->RdAt t.bh H' r X (n+(dh j xs).length)->Q (.ref a) H':=q;generalize kindsS.getD j "" = x at hj q;have hcut:=ha.cut;have hle:=ha.le;rw [Array.length_toList] at hcut;rw [Array.length_toList,Array.length_toList] at hle;have hle:n+(dh j xs).length<=X.length:=hle;have hpl:(dh j xs).length=11+(db j xs).length:=by
   unfold dh;rw [cT,cT,cz,cz]
  have ha:At X.cps.toList n (bZ j 3++(bZ (xs.length - 1) 8++(db j xs).cps.toList)):=by
   have e:(dh j xs).cps.toList=bZ j 3++(bZ (xs.length - 1) 8++(db j xs).cps.toList):=by
    unfold dh;rw [dq,dq,List.append_assoc];rfl
   rw [← e];exact ha
  have ha2:=ha.right;rw [eX] at ha2;have ha3:=ha2.right;rw [eX] at ha3;refine ⟨_,(ah (aD (i:=1) sc_read_block.nd rfl (Or.inl rfl) (eK K (pv 0) rfl))
  (ah (aD (i:=2) sc_read_block.nd rfl (Or.inl rfl) (cp (pv 0) T.cA de c8 (hr.mono (by decide)) c9 .nil cF (aa (bz T.nO) ad)))
  (ah (aW (aF lu (pv 2) (aM (bQ K) (by rfl) T.bv PyProof.Rows.Boot.«len» (aa (dZ T.iV) ad)) (aB _)) lH
   a8)
  (ah (aD (i:=3) sc_read_block.nd rfl (Or.inl rfl) (aP (cj K) (dZ T.iV) (pv 2) (λ _ _=>rfl)))
  (ah (aD (i:=4) sc_read_block.nd rfl (Or.inl rfl) (ak a7 (cp (pv 0) T.cA de c8 (hr.mono (by decide)) c9 .nil cF (aa (bz T.nP) ad)) af))
  (ah (aD (i:=5) sc_read_block.nd rfl (Or.inl rfl) (mh.pe hr ax (pv 3) (aa (pv 0) (aa (pv 4) ad))))
  (ah (aW (PW.pt (dO (eE (dE (kf.pe hr ax (aa (pv 5) ad)))) (eN (aF dW (iC.pe hr cF (aa (pv 3) (aa (pv 5) ad))) (cp (pv 0) T.cA zcK zw (hr.mono (by decide)) z8 .nil ax (aa (pv 1) ad)) (aB _))))) lH
   a8)
  (ap (ay (dM (aa (pv 3) (aa (pv 5) ad)))))))))))),?_⟩
  obtain ⟨dx,hR⟩:=id R;refine ⟨_,rfl,r,_,dx,_,_,rfl,hR,T.cA,T.gP,rfl,?_⟩;refine ⟨_,rfl,r,dx,_,rfl,hR,rfl,tk1 (eP (k:=3) R hb hz (by decide) ha.left (show j < 2 ^ 3 by omega) λ H1 k1 R1=>?_)⟩;refine ⟨_,rfl,t.eW,kindsV,rfl,.inr (T.iZ _),_,_,rfl,rfl,_,rfl,?_⟩;rw [aU (show ¬ ((kindsV.length:Nat):Int)<=(j:Int) by show ¬ (5:Int)<=(j:Int);omega)];refine au ?_;have atk:atI kindsV (j:Int)=some (.str x):=ef (by unfold kindsV;rw [aH,hj];rfl);refine ⟨_,rfl,t.eW,kindsV,_,_,rfl,rfl,T.iZ _,atk,?_⟩;obtain ⟨dx1,hR1⟩:=id R1;refine ⟨_,rfl,r,dx1,_,rfl,hR1,rfl,tk1 (eP (k:=8) R1 hb hz (by decide) ha2.left (show xs.length - 1 < 2 ^ 8 by omega) λ H2 k2 R2=>?_)⟩;have el:((xs.length - 1:Nat):Int)+1=(xs.length:Int):=by omega
  refine ⟨_,_,rfl,rfl,_,rfl,x,rfl,cR hj,_,rfl,_,rfl,j,hj,r,X,n+3+8,xs,?_,R2,hb,hz,okb,hrm,ha3,λ l H3 k3 hl3 R3 h3=>?_⟩
  ·show [V.ref r,V.int (((xs.length - 1:Nat):Int)+1)]=_;rw [el]
  have k13:=(k1.trans k2).trans k3;have hl0:=(k1.trans k2).free R2 hl3;have nlr:=il R2 hl3;refine ⟨_,rfl,l,xs,rfl,SqL.of h3,by omega,λ H4 s4=>⟨_,rfl,?_⟩⟩;rw [okb];refine au ?_;have R4:=R3.same s4;have h4:=s4 _ _ h3;refine ⟨_,rfl,_,rfl,l,xs,x,rfl,SqL.of h4,by omega,λ z=>(by rw [okb] at z;cases z),λ _ z=>absurd (cR hj) z,λ _ i hi z=>?_,λ _ i hi _ H5 s5=>?_⟩
  ·cases fO ic hi hj;exact absurd z hrm
  cases fO ic hi hj;have R5:=R4.same s5;obtain ⟨dx5,hR5⟩:=id R5;have e5:n+3+8+(db j xs).length=n+(dh j xs).length:=by rw [hpl];omega
  rw [e5] at R5;refine ⟨_,rfl,r,dx5,_,rfl,hR5,rfl,_,rfl,r,X,n,n+(dh j xs).length,rfl,R5,hz,by omega,hle,?_⟩;have ecut:(⟨((X.cps.toList.drop n).take (n+(dh j xs).length - n)).toArray⟩:Str)=dh j xs:=by
   apply jd;show (X.cps.toList.drop n).take (n+(dh j xs).length - n)=_;rw [Nat.add_sub_cancel_left];exact hcut
  rw [ecut];refine ⟨rfl,_,rfl,?_⟩;rw [zia];refine au ?_;refine ⟨_,rfl,_,rfl,(show 2<=sizeLine by decide),λ a ha'=>?_⟩;have k5:=(k13.trans (Kp.of s4)).trans (Kp.of (r:=r) s5);have h5:=s5 _ _ h4;refine q a l _ (k5.new ha') (k5.free R5 ha') hl0 ag ?_ (R5.new ha');rw [aj (aI h5 ha')];exact h5
inductive sy (H0 H:Hp) (l:Addr) (bl:List Blk):Prop
 | i (as:List (Addr × Addr)) (_:H l=some (.lst (as.map λ a=>V.ref a.1))) (_:as.length=bl.length) (_:(∀ (i:Nat) (a:Addr × Addr) (b:Blk),as[i]?=some a->bl[i]?=some b->H a.1=some (.tup [.str (kindsS.getD b.1 ""),.ref a.2])/\H a.2=some (.lst (b.2.map ov)))) (_:∀ a∈as,H0 a.1=none/\H0 a.2=none)
inductive lU (vs:List V) (H:Hp) (Q:VK) (_E:XK):Prop
 | i (bl:List Blk) (_:vs=[.str (bp (bl.map bW))]) (_:(∀ b∈bl,okK b)) (_:(bp (bl.map bW)).length<=16777216) (_:∀ (l:Addr) (H':Hp),Same H H'->H l=none->sy H H' l bl->Q (.ref l) H')
theorem tu(b:Blk):0 < (bW b).length:=by
 unfold bW dh;rw [cT,cT,cz];omega
theorem nV{b:Blk}(h:bl[i]?=some b):(bp ((bl.take (i+1)).map bW)).length=(bp ((bl.take i).map bW)).length+(bW b).length:=by
 rw [cL,h];show (bp ((bl.take i++[b]).map bW)).length=_;rw [aE,zbi,cT]
 congr 1
 show (bp [bW b]).length=_;rw [kX,cT];rfl
theorem sc_unpacked:aC ["bits", "reader", "blocks"] ["bits"] (av qQ):=by walk_at "sc"
theorem zfC(T:Txt K mg t)(CI:jl P w K mg base (CXr P w) 1 t.bh ["self", "text"] (wT t))(CH:bF P w K mg base CX0 1 t.bh "has_more" ["self"] (xg t))(mE:Cal P w K mg base CX0 8 "read_block" ["reader"] (xD t))(F:Fun K "unpacked" "unpacked" qQ f fd):FnOk P w K mg base CX0 9 f fd ["bits"] lU:=by
 obtain ⟨zjA,zjO,zl,zcA,zT⟩:=CI;obtain ⟨zjE,zjS,zp,zcE,zX⟩:=CH;refine F.ok sc_unpacked (λ vs H Q E h=>?_) (λ cdv A outer s H vs Q E hr h=>?_)
 ·obtain ⟨bl,rfl,_⟩:=h;rfl
 ·obtain ⟨bl,rfl,hbl,hz,q⟩:=h;have hb:bB (bp (bl.map bW)).cps.toList:=iK (f:=bW) λ b=>zaj _ _;have hat:=sI bW bl;have htot:bp ((bl.take bl.length).map bW)=bp (bl.map bW):=by rw [aZ]
  generalize hX:bp (bl.map bW)=X at hb hat hz htot;refine ⟨_,(ah (aD (i:=1) sc_unpacked.nd rfl (Or.inl rfl) (vX zcA zl (hr.mono (by decide)) rfl T.za7 zT .nil cF (aa (pv 0) ad)))
  (ah (aD (i:=2) sc_unpacked.nd rfl (Or.inl rfl) (bR ad))
  (ah (jR PassesOwn.never (dE (di (pv 1) T.cA zcE zp (hr.mono (by decide)) zX .nil ax))
   (ap (ci (cu K PySem.F.plainAttrs_list PySem.F.slot_list_append PySem.F.type_list_append fe (pv 2) (aa (mE.pe hr ax (aa (pv 1) ad)) ad)))))
  (ap (ay (pv 2)))))),?_⟩
  refine ⟨_,rfl,λ r dx nr ndx nex=>?_⟩;refine ⟨r,dx,X,rfl,ag,hz,λ _ H1 R1 kp=>⟨rfl,?_⟩,λ z=>absurd hb z⟩;have s1:Same H H1:=λ b o e=>by
   rw [kp b (aI e nr),aj (aI e nr),aj (aI e ndx)];exact e
  refine ⟨aO rfl,λ l hln=>?_⟩;have R2:=R1.new (o:=.lst []) hln;have s2:Same H (upd H1 l (.lst [])):=aJ s1 hln;have h2:(upd H1 l (.lst [])) l=some (.lst (([]:List (Addr × Addr)).map λ a=>V.ref a.1)):=ag;have hl0:=s1.free hln;have nlr:=il R1 hln;show dS _ _ _ (upd H1 l (.lst [])) _;generalize upd H1 l (.lst [])=H2 at R2 s2 h2;refine ka (λ σ H'=>σ=[some (.str X),some (.ref r),some (.ref l)]/\Same H H'/\∃ i,i<=bl.length/\RdAt t.bh H' r X (bp ((bl.take i).map bW)).length/\sy H H' l (bl.take i))
   (λ _ H'=>match H' r with | some (.ins _ _ [_,(_,.int n)])=>X.length - n.toNat | _=>0) ⟨rfl,s2,0,Nat.zero_le _,R2,[],h2,rfl,λ i a b e=>(by cases e),λ a h=>(by cases h)⟩ ?_
  rintro m σ H3 hm ⟨rfl,s3,i,hi,R3,P3⟩;obtain ⟨dx3,hR3⟩:=id R3;have hm:m=X.length - (bp ((bl.take i).map bW)).length:=by rw [hm,hR3];simp [oU]
  refine ⟨_,rfl,r,dx3,_,rfl,hR3,rfl,r,X,_,rfl,R3,hz,_,rfl,?_⟩;by_cases c:i < bl.length
  ·have ex:bl[i]?=some bl[i]:=aG c;have ha:=hat i _ ex;have hle:=ha.le;rw [Array.length_toList,Array.length_toList] at hle;have hpos:=tu bl[i];rw [aV (show (bp ((bl.take i).map bW)).length < X.length by
    have:(bp ((bl.take i).map bW)).length+(bW bl[i]).length<=X.length:=hle;omega)]
   refine aA ⟨_,wN,?_⟩;obtain ⟨as,p1,p2,p3,p4⟩:=P3;have p2:as.length=i:=by rw [p2,bc];omega
   refine ⟨_,rfl,.inl ⟨rfl,_,SqL.of p1⟩,_,rfl,r,X,_,bl[i],rfl,R3,hb,hz,hbl _ (List.getElem_mem c),ha,λ a l' H4 k4 ha0 hl'0 h4 h4' R4=>?_⟩;have hl4:=k4 l _ nlr p1;have al:a≠l:=λ z=>by rw [z,p1] at ha0;cases ha0
   have ll:l'≠l:=λ z=>by rw [z,p1] at hl'0;cases hl'0
   have R5:=R4.put (o:=.lst (as.map (λ a=>V.ref a.1)++[.ref a])) hl4;rw [← nV ex] at R5;have hlt:(bW bl[i]).length+(bp ((bl.take i).map bW)).length<=X.length:=by
    have:(bp ((bl.take i).map bW)).length+(bW bl[i]).length<=X.length:=hle;omega
   have hnew:=nV ex;have nrH:H r=none:=nr;refine ⟨l,_,_,rfl,rfl,hl4,?_,⟨rfl,λ b o e=>?_,i+1,by omega,R5,as++[(a,l')],?_,?_,λ k z b e1 e2=>?_,λ z hz'=>?_⟩,?_⟩
   ·rw [ae];have:i < X.length:=by
     have key:∀ k,k<=bl.length->k<=(bp ((bl.take k).map bW)).length:=by
      intro k;induction k with
      | zero=>intro _;exact Nat.zero_le _
      | succ k ih=>
       intro hk;have e:bl[k]?=some bl[k]:=aG (by omega);rw [nV e];have:=ih (by omega);have:=tu bl[k];omega
     have:=key (i+1) (by omega);rw [hnew] at this;omega
    rw [sizeLine_eq];omega
   ·have hbr:b≠r:=aI e nrH;rw [aj (aI e hl0)];exact k4 b o hbr (s3 b o e)
   ·rw [ag,aE];rfl
   ·rw [bn,bc,p2,d5];omega
   ·by_cases hk:k < as.length
    ·rw [List.getElem?_append_left hk] at e1;have e2':(bl.take i)[k]?=some b:=by
      rw [List.getElem?_take] at e2 ⊢;rw [if_pos (by omega)] at e2 ⊢;exact e2
     obtain ⟨z1,z2⟩:=p3 k z b e1 e2';have n1:z.1≠r:=λ y=>by rw [y,hR3] at z1;cases z1
     have n2:z.2≠r:=λ y=>by rw [y,hR3] at z2;cases z2
     have n3:z.1≠l:=λ y=>by rw [y,p1] at z1;cases z1
     refine ⟨?_,?_⟩
     ·rw [aj n3];exact k4 _ _ n1 z1
     ·by_cases y:z.2=l
      ·rw [y,p1] at z2;have e3:as.map (λ a=>V.ref a.1)=b.2.map ov:=HO.lst.inj (bL z2);obtain ⟨hb1,_,_⟩:=hbl b (cR (show bl[k]?=some b by rw [List.getElem?_take,if_pos (by omega)] at e2';exact e2'));have hb0:=gh hb1;obtain ⟨v,tl,hv⟩:∃ v tl,b.2=v::tl:=List.exists_cons_of_length_pos hb0;rw [hv] at e3;cases as with
       | nil=>cases e3
       | cons a0 ar=>
        have:=(List.cons.inj e3).1;cases v <;> cases this
      ·rw [aj y];exact k4 _ _ n2 z2
    ·rw [List.getElem?_append_right (by omega)] at e1;have hk0:k - as.length=0:=by
      have:=(al_gs.mp e1).1;simp at this;omega
     rw [hk0] at e1;cases e1;have hki:k=i:=by
      have:=(al_gs.mp e2).1;rw [bc] at this;omega
     subst hki;rw [List.getElem?_take,if_pos (by omega),ex] at e2;cases e2;refine ⟨?_,?_⟩
     ·show (upd H4 l _) a=_;rw [aj al];exact h4
     ·show (upd H4 l _) l'=_;rw [aj ll];exact h4'
   ·rcases al_mp.mp hz' with hz' | hz'
    ·exact p4 z hz'
    ·rw [al_mi.mp hz'];exact ⟨s3.free ha0,s3.free hl'0⟩
   ·obtain ⟨dx5,hR5⟩:=R5;show (match (upd H4 l _) r with | some (.ins _ _ [_,(_,.int n)])=>X.length - n.toNat | _=>0) < m;rw [hR5];show X.length - (((bp ((bl.take (i+1)).map bW)).length:Nat):Int).toNat < m;rw [Int.toNat_natCast,hm,hnew];omega
  ·have hi':i=bl.length:=by omega
   subst hi';rw [htot,aU (by omega)];refine au ?_;rw [aZ] at P3;exact ⟨_,rfl,q l H3 s3 hl0 P3⟩
theorem tq(xs:List OI):∀ (b:Nat) (l:List Nat),Ris xs.length b l->(cW xs b l).flatten=xs.drop b
 | b,[],h=>by
  have:b=xs.length:=h;subst this;rw [List.drop_length];rfl
 | b,e::r,h=>by
  have:=h.1;rw [cW,List.flatten_cons,tq xs e r h.2];have e1:xs.drop e=(xs.drop b).drop (e - b):=by rw [List.drop_drop];congr 1;omega
  rw [e1,List.take_append_drop]
def ei(xs:List OI):List Blk:=(cW xs 0 (br xs xs.length)).map λ b=>(bM b,b)
theorem iM(xs:List OI):bp ((ei xs).map bW)=iu xs:=by
 unfold ei iu;rw [List.map_map];rfl
theorem tQ(xs:List OI):((ei xs).map (·.2)).flatten=xs:=by
 unfold ei;rw [List.map_map];have:(cW xs 0 (br xs xs.length)).map ((·.2) ∘ λ b=>((bM b,b):Blk))=cW xs 0 (br xs xs.length):=List.map_id _;rw [this,tq xs 0 _ (kN xs xs.length)];rfl
theorem tw(ok:okC xs=true){b:List OI}(h:b∈cW xs 0 (br xs xs.length)):okB b=true:=by
 obtain ⟨i,hi⟩:=List.getElem?_of_mem h;have hl:=gD ok;have hie:i < (br xs xs.length).length:=by
  have:=(al_gs.mp hi).1
  rwa [gr] at this
 rw [iL xs 0 _ i hie] at hi;cases hi;obtain ⟨r1,r2⟩:=(kN xs xs.length).at i hie;exact na (vL ok) (by omega) r1 r2
theorem kL(ok:okC xs=true):∀ b∈ei xs,okK b:=λ b hb=>by
 obtain ⟨c,hc,rfl⟩:=List.mem_map.mp hb;obtain ⟨b5,brm⟩:=m7 c;exact ⟨tw ok hc,b5,by show rm c (bM c)≠none;rw [brm];intro z;cases z⟩
theorem kK(xs:List OI):(ei xs).length<=xs.length:=by
 unfold ei;rw [ae,gr];exact ny xs xs.length
theorem r8(ok:okC xs=true):(iu xs).length<=16777216:=by
 have hl:=gD ok;have h64:=uJ (l:=(cW xs 0 (br xs xs.length)).map fZ) (k:=200011) λ s hs=>by
  obtain ⟨b,hb,rfl⟩:=List.mem_map.mp hs;obtain ⟨x1,x2⟩:=ff (tw ok hb);exact sQ (by omega) x1
 rw [ae,gr] at h64;have:=ny xs xs.length;have:200011 * (br xs xs.length).length<=200011 * 64:=Nat.mul_le_mul_left _ (by omega);unfold iu;rw [fL];omega
inductive xa (t:Ad) (vs:List V) (H:Hp) (Q:VK) (E:XK):Prop
 | i (r n:Int) (_:vs=[.int r,.int n]) (_:(0<=r/\r < n->Q .non H)) (_:(¬ (0<=r/\r < n)->E (.ref t.cN) none H))
theorem zhA:aC ["row", "size"] ["row", "size"] (av pN):=by walk_at "sc"
theorem zeu(T:Txt K mg t)(F:Fun K "check_row" "check_row" pN f fd):FnOk P w K mg base (CXr P w) 1 f fd ["row", "size"] (xa t):=by
 refine F.okX zhA (λ vs H Q E h=>?_) (λ cdv A outer s H vs Q E hr h=>?_)
 ·obtain ⟨r,n,rfl,_⟩:=h;rfl
 ·obtain ⟨r,n,rfl,k1,k2⟩:=h;refine ⟨_,(ap (aW (eE (wj i7 ig af (pv 0) (pv 1))) (ap (fj fm T.zjq rfl (by rfl) T.uE (aa aQ ad)))
   a8)),?_⟩
  refine ⟨_,rfl,_,_,rfl,rfl,_,rfl,?_⟩;by_cases h1:0<=r
  ·rw [aV h1];refine aA ⟨_,rfl,_,_,rfl,rfl,_,rfl,?_⟩;by_cases h2:r < n
   ·rw [aV h2];exact au (k1 ⟨h1,h2⟩)
   ·rw [aU h2];exact aA ⟨by show 1<=sizeLine;decide,k2 λ z=>h2 z.2⟩
  ·rw [aU h1];refine au ⟨_,rfl,?_⟩;exact aA ⟨by show 1<=sizeLine;decide,k2 λ z=>h1 z.1⟩
inductive xO (vs:List V) (H:Hp) (Q:VK) (_E:XK):Prop
 | i (bl:List Blk) (_:vs=[.str (bp (bl.map bW))]) (_:(∀ b∈bl,okK b)) (_:(bp (bl.map bW)).length<=16777216) (_:bl.length<=1000) (_:∀ (l:Addr) (H':Hp),Same H H'->H l=none->H' l=some (.lst ((bl.map (·.2)).flatten.map ov))->Q (.ref l) H')
theorem ur:∀ (bl:List Blk),(∀ b∈bl,okK b)->((bl.map (·.2)).flatten).length<=100 * bl.length
 | [],_=>az _
 | b::r,h=>by
  have:=ur r λ c hc=>h c (bV _ hc);have h2:=(ff (h b cG).1).2;rw [bE,List.flatten_cons,bn,bY];omega
theorem sc_values_in:aC ["bits", "values", "kind", "block"] ["bits"] (av qS):=by walk_at "sc"
theorem zfF(T:Txt K mg t)(fV:Cal P w K mg base CX0 9 "unpacked" ["bits"] lU)(F:Fun K "values_in" "values_in" qS f fd):FnOk P w K mg base CX0 10 f fd ["bits"] xO:=by
 refine F.ok sc_values_in (λ vs H Q E h=>?_) (λ cdv A outer s H vs Q E hr h=>?_)
 ·obtain ⟨bl,rfl,_⟩:=h;rfl
 ·obtain ⟨bl,rfl,hbl,hz,hbl1000,q⟩:=h;have szl:=sizeLine_eq;refine ⟨_,(ah (aD (i:=1) sc_values_in.nd rfl (Or.inl rfl) (bR ad))
  (ah (eD PassesOwn.never rfl (bN (fV.pe hr ax (aa (pv 0) ad))) (fg K (n:=2) rfl (cK (aR (i:=2) sc_values_in.nd rfl (Or.inl rfl)) (cK (aR (i:=3) sc_values_in.nd rfl (Or.inl rfl)) fh)))
   (ap (ci (cu K PySem.F.plainAttrs_list PySem.F.slot_list_extend PySem.F.type_list_extend oq (pv 1) (aa (pv 3) ad)))))
  (ap (ay (pv 1))))),?_⟩
  refine ⟨aO rfl,λ l hln=>?_⟩;have s1:Same H (upd H l (.lst [])):=Same.new hln;have h1:(upd H l (.lst [])) l=some (.lst []):=ag;show dS _ _ _ (upd H l (.lst [])) _;generalize upd H l (.lst [])=H1 at s1 h1;refine ⟨_,rfl,bl,rfl,hbl,hz,λ lt H2 s2 hlt F2=>?_⟩;obtain ⟨as,a1,a2,a3,a4⟩:=F2;have h2:=s2 _ _ h1;have nlt:l≠lt:=λ z=>by rw [z] at h1;rw [h1] at hlt;cases hlt
  have nl1:∀ a∈as,a.1≠l/\a.2≠l:=λ a ha=>by
   obtain ⟨n1,n2⟩:=a4 a ha;exact ⟨λ z=>(by rw [z,h1] at n1;cases n1),λ z=>(by rw [z,h1] at n2;cases n2)⟩
  refine ⟨lt,rfl,⟨_,SqL.of a1⟩,⟨gw (K:=K) (a:=lt) (xs:=as.map λ a=>V.ref a.1) (λ k σ H'=>∃ v2 v3:Option V,σ=[some (.str (bp (bl.map bW))),some (.ref l),v2,v3]/\(∀ c o,c≠l->H2 c=some o->H' c=some o)/\H' l=some (.lst (((bl.take k).map (·.2)).flatten.map ov)))
   ⟨none,none,rfl,λ c o _ e=>e,h2⟩ (λ k σ H' hk hp=>by obtain ⟨_,_,_,h,_⟩:=hp;exact SqL.of (h _ _ nlt.symm a1)) ?_ ?_⟩⟩
  ·rintro k y σ H3 hy ⟨v2,v3,rfl,k3,g3⟩;have hka:k < as.length:=by
    have:=(al_gs.mp hy).1
    rwa [ae] at this
   rw [aH,aG hka] at hy;cases hy;have ec:bl[k]?=some (bl[k]'(by omega)):=aG (by omega);obtain ⟨z1,z2⟩:=a3 k as[k] _ (aG hka) ec;obtain ⟨n1,n2⟩:=nl1 _ (List.getElem_mem hka);have z1:=k3 _ _ n1 z1;have z2:=k3 _ _ n2 z2;have tk:bl.take (k+1)=bl.take k++[bl[k]'(by omega)]:=by rw [cL,ec];rfl
   have fl:=ur (bl.take (k+1)) λ b hb=>hbl b (List.mem_of_mem_take hb);rw [tk,aE,List.flatten_append,bn,bn,bc] at fl;refine ⟨as[k].1,_,rfl,SqT.of z1,rfl,_,_,rfl,_,_,rfl,rfl,?_⟩;refine ⟨_,rfl,.inl ⟨rfl,_,SqL.of g3⟩,_,rfl,l,as[k].2,_,_,rfl,rfl,g3,z2,?_,_,_,rfl,λ c o hc e=>?_,?_⟩
   ·rw [ae,ae];simp only [bE,List.map_nil,List.flatten_cons,List.flatten_nil,List.append_nil,d5] at fl;omega
   ·rw [aj hc];exact k3 c o hc e
   ·rw [ag,tk,aE,List.flatten_append,aE];simp only [bE,List.map_nil,List.flatten_cons,List.flatten_nil,List.append_nil]
  ·rintro σ H3 ⟨v2,v3,rfl,k3,g3⟩;rw [ae,a2,aZ] at g3;exact ⟨_,rfl,q l H3 (λ b o e=>k3 b o (aI e hln) (s2 _ _ (s1 _ _ e))) hln g3⟩
def ColAt(C:Addr)(H:Hp)(c:Addr)(xs:List OI):Prop:=∃ dx,H c=some (.ins C dx [("lying", .str (iu xs))])
theorem ColAt.same(h:ColAt C H c xs)(s:Same H H'):ColAt C H' c xs:=by
 obtain ⟨dx,h⟩:=h;exact ⟨dx,s _ _ h⟩
inductive wS (K:W.Frag) (t:Ad) (vs:List V) (H:Hp) (Q:VK) (E:XK):Prop
 | i (p dx l:Addr) (xs:List OI) (_:vs=[.ref p,.ref l]) (_:H p=some (.ins t.bi dx [])) (_:SqL K H l (xs.map ov)) (_:xs.length<=1000) (_:(okC xs=true->∀ H':Hp,ColAt t.bi H' p xs->Kp p H H'->Q .non H')) (_:(okC xs=false->∀ H',Same H H'->E (.ref t.dQ) none H'))
theorem zhe:aC ["self", "values"] ["self", "values"] (av o0):=by walk_at "sc"
theorem zec(T:Txt K mg t)(iF:Cal P w K mg base (CXr P w) 9 "tight" ["values"] (rM K t))(F:Fun K "__init__" "Column.__init__" o0 f fd):FnOk P w K mg base (CXr P w) 10 f fd ["self", "values"] (wS K t):=by
 refine F.okX zhe (λ vs H Q E h=>?_) (λ cdv A outer s H vs Q E hr h=>?_)
 ·obtain ⟨p,dx,l,xs,rfl,_⟩:=h;rfl
 ·obtain ⟨p,dx,l,xs,rfl,hp,hS,hl,q1,q2⟩:=h;refine ⟨_,(ap (dD (pv 0) (iF.pe hr c5 (aa (pv 1) ad)) rfl)),?_⟩;refine ⟨_,rfl,l,xs,rfl,hS,hl,λ ok H1 s1=>?_,q2⟩;exact ⟨_,rfl,p,t.bi,dx,_,rfl,s1 _ _ hp,T.cC,T.jo,by show 0 < 1000;decide,q1 ok _ ⟨dx,ag⟩ ((Kp.of s1).trans Kp.own)⟩
inductive lT (t:Ad) (vs:List V) (H:Hp) (Q:VK) (_E:XK):Prop
 | i (c:Addr) (xs:List OI) (_:vs=[.ref c]) (_:ColAt t.bi H c xs) (_:okC xs=true) (_:∀ (l:Addr) (H':Hp),Same H H'->H l=none->H' l=some (.lst (xs.map ov))->Q (.ref l) H')
theorem zhj:aC ["self"] ["self"] (av o7):=by walk_at "sc"
theorem zfz(T:Txt K mg t)(mK:Cal P w K mg base CX0 10 "values_in" ["bits"] xO)(F:Fun K "told" "Column.told" o7 f fd):FnOk P w K mg base CX0 11 f fd ["self"] (lT t):=by
 refine F.ok zhj (λ vs H Q E h=>?_) (λ cdv A outer s H vs Q E hr h=>?_)
 ·obtain ⟨c,xs,rfl,_⟩:=h;rfl
 ·obtain ⟨c,xs,rfl,⟨dx,hC⟩,ok,q⟩:=h;have hl:=gD ok;have hcl:=kK xs;refine ⟨_,(ap (ay (mK.pe hr ax (aa (eK K (pv 0) rfl) ad)))),?_⟩;refine ⟨_,rfl,c,_,dx,_,_,rfl,hC,T.cC,T.jo,rfl,ei xs,?_,kL ok,by rw [iM];exact r8 ok,by omega,λ l H' s1 hn h1=>?_⟩
  ·rw [iM];rfl
  ·rw [tQ] at h1;exact q l H' s1 hn h1
inductive wX (t:Ad) (vs:List V) (H:Hp) (Q:VK) (_E:XK):Prop
 | i (c:Addr) (xs:List OI) (_:vs=[.ref c]) (_:ColAt t.bi H c xs) (_:Q (.str (iu xs)) H)
theorem zhc:aC ["self"] ["self"] (av oX):=by walk_at "sc"
theorem zem(T:Txt K mg t)(F:Fun K "bits" "Column.bits" oX f fd):FnOk P w K mg base CX0 1 f fd ["self"] (wX t):=by
 refine F.ok zhc (λ vs H Q E h=>?_) (λ cdv A outer s H vs Q E hr h=>?_)
 ·obtain ⟨c,xs,rfl,_⟩:=h;rfl
 ·obtain ⟨c,xs,rfl,⟨dx,hC⟩,q⟩:=h;refine ⟨_,(ap (ay (eK K (pv 0) rfl))),?_⟩;exact ⟨_,rfl,c,_,dx,_,_,rfl,hC,T.cC,T.jo,rfl,q⟩
inductive ko (H:Hp) (l:Addr) (bl:List Blk):Prop
 | i (as:List Addr) (_:H l=some (.lst (as.map V.ref))) (_:as.length=bl.length) (_:∀ (i:Nat) (a:Addr) (b:Blk),as[i]?=some a->bl[i]?=some b->H a=some (.tup [.str (kindsS.getD b.1 ""),.int b.2.length]))
theorem zha(s:Same H H')(h:ko H l bl):ko H' l bl:=by
 obtain ⟨as,h1,h2,h3⟩:=h;exact ⟨as,s _ _ h1,h2,λ i a b e1 e2=>s _ _ (h3 i a b e1 e2)⟩
inductive xj (t:Ad) (vs:List V) (H:Hp) (Q:VK) (_E:XK):Prop
 | i (c:Addr) (xs:List OI) (_:vs=[.ref c]) (_:ColAt t.bi H c xs) (_:okC xs=true) (_:∀ (l:Addr) (H':Hp),Same H H'->H l=none->ko H' l (ei xs)->Q (.ref l) H')
theorem vx:(["kind", "block"]:List Str).Nodup:=by decide +kernel
theorem zhf:aC ["self"] ["self"] (av o3):=by walk_at "sc"
theorem zeK(T:Txt K mg t)(fV:Cal P w K mg base CX0 9 "unpacked" ["bits"] lU)(F:Fun K "kinds" "Column.kinds" o3 f fd):FnOk P w K mg base CX0 10 f fd ["self"] (xj t):=by
 refine F.ok zhf (λ vs H Q E h=>?_) (λ cdv A outer s H vs Q E hr h=>?_)
 ·obtain ⟨c,xs,rfl,_⟩:=h;rfl
 ·obtain ⟨c,xs,rfl,⟨dx,hC⟩,ok,q⟩:=h;have hl:=gD ok;have hcl:=kK xs;refine ⟨_,(ap (ay (cn (N:=["kind", "block"]) (fr:=[none,none]) ⟨rfl,rfl,rfl,rfl,rfl,rfl⟩ rfl (bN (fV.pe hr ax (aa (eK K (pv 0) rfl) ad)))
    (λ C fp s H=>⟨fg K (n:=2) rfl (cK (aR (i:=0) vx rfl (Or.inl rfl)) (cK (aR (i:=1) vx rfl (Or.inl rfl)) fh)),bS,(dM (aa (pv 0) (aa (aM (bQ K) (by rfl) T.bv PyProof.Rows.Boot.«len» (aa (pv 1) ad)) ad)))⟩)))),?_⟩
  refine ⟨_,rfl,c,_,dx,_,_,rfl,hC,T.cC,T.jo,rfl,ei xs,?_,kL ok,by rw [iM];exact r8 ok,λ lt H2 s2 hlt F2=>?_⟩
  ·rw [iM];rfl
  obtain ⟨as,a1,a2,a3,a4⟩:=F2;generalize ei xs=bl at q hcl a2 a3;have la:(as.map λ a=>V.ref a.1).length=bl.length:=by rw [ae,a2]
  refine ⟨lt,rfl,⟨_,SqL.of a1⟩,⟨cD (xs:=as.map λ a=>V.ref a.1) (λ i acc H'=>Same H2 H'/\∃ ks:List Addr,acc=ks.map V.ref/\ks.length=i/\∀ (j:Nat) (a:Addr) (b:Blk),ks[j]?=some a->bl[j]?=some b->H' a=some (.tup [.str (kindsS.getD b.1 ""),.int b.2.length])) ⟨Same.refl _,[],rfl,rfl,λ j a b e=>by cases e⟩ ?_ (aX (aY (by omega))) ?_ ?_⟩⟩
  ·rintro i acc H3 hi ⟨s3,ks,rfl,hk,_⟩;exact ⟨SqL.of (s3 _ _ a1),by rw [ae];omega⟩
  ·rintro i y acc H3 hy hlt' ⟨s3,ks,rfl,hk,hks⟩;have hia:i < as.length:=by rwa [ae] at hlt'
   rw [aH,aG hia] at hy;cases hy;have ec:bl[i]?=some (bl[i]'(by omega)):=aG (by omega);obtain ⟨z1,z2⟩:=a3 i as[i] _ (aG hia) ec;have z1:=s3 _ _ z1;have z2:=s3 _ _ z2;refine ⟨as[i].1,_,rfl,SqT.of z1,rfl,_,_,rfl,_,_,rfl,rfl,(Wk.set rfl).trans (Wk.set rfl),tT ?_⟩;refine ⟨_,rfl,_,rfl,as[i].2,_,rfl,.inl (SqL.of z2),(show 2<=sizeLine by decide),λ a ha=>?_⟩;have s4:=aJ (o:=.tup [.str (kindsS.getD (bl[i]'(by omega)).1 ""),.int (((bl[i]'(by omega)).2.map ov).length:Int)]) s3 ha;refine cw hlt' ⟨s4,ks++[a],by rw [aE];rfl,by simp [hk],λ j x b e1 e2=>?_⟩;by_cases hj:j < ks.length
   ·rw [List.getElem?_append_left hj] at e1;have:=hks j x b e1 e2;rw [aj (aI this ha)];exact this
   ·rw [List.getElem?_append_right (by omega)] at e1;have hji:j - ks.length=0:=by
     have:=(al_gs.mp e1).1;simp at this;omega
    rw [hji] at e1;cases e1;rw [show j=i by omega,ec] at e2;cases e2;rw [ag,ae]
  ·rintro acc H3 ⟨s3,ks,rfl,hk,hks⟩ l3 hl3;refine q l3 _ (aJ (s2.trans s3) hl3) ((s2.trans s3).free hl3) ⟨ks,ag,by omega,λ j a b e1 e2=>?_⟩;have:=hks j a b e1 e2;rw [aj (aI this hl3)];exact this
inductive Sm where
 | all | none | is (n:Int) | below (n:Int) | above (n:Int) | among (ns:List Int)
def Sm.word:Sm->Str
 | .all => "all" | .none => "none" | .is _ => "is" | .below _ => "below" | .above _ => "above" | .among _ => "among"
inductive QT where
 | sm (s:Sm) | neg (q:QT) | both (q r:QT) | either (q r:QT) | bad (w:Str) (vs:List V)
def JL:List (Str × V):=[("not", .int 2),("both", .int 3),("either", .int 3)]
def SL:List (Str × V):=[("all", .int 1),("none", .int 1),("is", .int 2),("below", .int 2),("above", .int 2),("among", .int 2)]
def SmAt(H:Hp)(a:Addr):Sm->Prop
 | .among ns=>∃ l,H a=some (.tup [.str "among", .ref l])/\H l=some (.lst (ns.map V.int))/\ns.length<=1000
 | .all=>H a=some (.tup [.str "all"])
 | .none=>H a=some (.tup [.str "none"])
 | .is n=>H a=some (.tup [.str "is", .int n])
 | .below n=>H a=some (.tup [.str "below", .int n])
 | .above n=>H a=some (.tup [.str "above", .int n])
def QAt(H:Hp):Addr->QT->Prop
 | a,.sm s=>SmAt H a s
 | a,.neg q=>∃ b,H a=some (.tup [.str "not", .ref b])/\QAt H b q
 | a,.both q r=>∃ b c,H a=some (.tup [.str "both", .ref b,.ref c])/\QAt H b q/\QAt H c r
 | a,.either q r=>∃ b c,H a=some (.tup [.str "either", .ref b,.ref c])/\QAt H b q/\QAt H c r
 | a,.bad w vs=>H a=some (.tup (.str w::vs))/\vs.length<=1000/\JL.lookup w≠some (.int (vs.length+1:Nat))/\(JL.lookup w=none->SL.lookup w≠some (.int (vs.length+1:Nat)))
def Kt(H H':Hp):Prop:=∀ b o,H b=some o->H' b=some o\/(∃ ps,o = .tbl ps)\/∃ x y,o = .frz x y
theorem eO(s:Same H H'):Kt H H':=λ b o e=>.inl (s b o e)
theorem Kt.tup(k:Kt H H'){xs:List V}(e:H a=some (.tup xs)):H' a=some (.tup xs):=(k a _ e).elim id λ z=>by rcases z with ⟨_,z⟩ | ⟨_,_,z⟩ <;> cases z
theorem Kt.lst(k:Kt H H'){xs:List V}(e:H a=some (.lst xs)):H' a=some (.lst xs):=(k a _ e).elim id λ z=>by rcases z with ⟨_,z⟩ | ⟨_,_,z⟩ <;> cases z
theorem SmAt.kt(k:Kt H H'): ∀ {s:Sm},SmAt H a s->SmAt H' a s
 | .among _,⟨l,e1,e2,z⟩=>⟨l,k.tup e1,k.lst e2,z⟩
 | .all,e=>k.tup e
 | .none,e=>k.tup e
 | .is _,e=>k.tup e
 | .below _,e=>k.tup e
 | .above _,e=>k.tup e
theorem QAt.kt{H H':Hp}(k:Kt H H'):∀ {q:QT} {a:Addr},QAt H a q->QAt H' a q
 | .sm _,_,h=>SmAt.kt k h
 | .neg q,_,⟨b,e,h⟩=>⟨b,k.tup e,QAt.kt k h⟩
 | .both q r,_,⟨b,c,e,h1,h2⟩=>⟨b,c,k.tup e,QAt.kt k h1,QAt.kt k h2⟩
 | .either q r,_,⟨b,c,e,h1,h2⟩=>⟨b,c,k.tup e,QAt.kt k h1,QAt.kt k h2⟩
 | .bad _ _,_,⟨e,r⟩=>⟨k.tup e,r⟩
def okQ:Nat->QT->Bool
 | d,.sm _=>decide (d<=6)
 | d,.neg q=>decide (d<=6) && okQ (d+1) q
 | d,.both q r=>decide (d<=6) && (okQ (d+1) q && okQ (d+1) r)
 | d,.either q r=>decide (d<=6) && (okQ (d+1) q && okQ (d+1) r)
 | _,.bad _ _=>false
def QT.plain:QT->Bool
 | .sm _=>true
 | .bad w _=>(JL.lookup w).isNone
 | _=>false
def QT.wd:QT->Str
 | .sm s=>s.word | .neg _ => "not" | .both _ _ => "both" | .either _ _ => "either" | .bad w _=>w
def QT.parts:QT->List QT
 | .neg q=>[q] | .both q r=>[q,r] | .either q r=>[q,r] | _=>[]
def QT.jn:QT->Bool
 | .neg _=>true | .both _ _=>true | .either _ _=>true | _=>false
theorem vM{d:Nat}(h:6 < d):∀ q:QT,okQ d q=false
 | .sm _=>aU (by omega)
 | .neg _=>by rw [okQ,aU (by omega)];rfl
 | .both _ _=>by rw [okQ,aU (by omega)];rfl
 | .either _ _=>by rw [okQ,aU (by omega)];rfl
 | .bad _ _=>rfl
theorem QT.jn_or:∀ {q:QT},q.plain=false->q.jn=true\/∃ x vs,q = .bad x vs
 | .neg _,_=>.inl rfl
 | .both _ _,_=>.inl rfl
 | .either _ _,_=>.inl rfl
 | .bad x vs,_=>.inr ⟨x,vs,rfl⟩
theorem zy{v:V}(h:JL.lookup x=some v):∃ n:Nat,v = .int n:=by
 have:=PySem.mem_of_lookup h;simp only [JL,al_mc,List.not_mem_nil,or_false,Prod.mk.injEq] at this;rcases this with ⟨_,e⟩ | ⟨_,e⟩ | ⟨_,e⟩
 ·exact ⟨2,e⟩
 ·exact ⟨3,e⟩
 ·exact ⟨3,e⟩
theorem zeb{d:Nat}(h:d<=6):∀ {q:QT},q.plain=true->okQ d q=okQ 1 q
 | .sm _,_=>by rw [okQ,okQ,aV h];rfl
 | .bad _ _,_=>rfl
theorem vO{d:Nat}(h:d<=6):∀ {q:QT},q.jn=true->okQ d q=q.parts.all (okQ (d+1))
 | .neg _,_=>by rw [okQ,aV h];simp [QT.parts]
 | .both _ _,_=>by rw [okQ,aV h];simp [QT.parts]
 | .either _ _,_=>by rw [okQ,aV h];simp [QT.parts]
theorem QAt.tup   : ∀ {q:QT},QAt H a q->∃ xs,H a=some (.tup (.str q.wd::xs))/\xs.length<=1000/\(JL.lookup q.wd).isSome = !q.plain
 | .sm (.among _),⟨l,e,_⟩=>⟨_,e,aO rfl,rfl⟩
 | .sm .all,e=>⟨_,e,aO rfl,rfl⟩
 | .sm .none,e=>⟨_,e,aO rfl,rfl⟩
 | .sm (.is _),e=>⟨_,e,aO rfl,rfl⟩
 | .sm (.below _),e=>⟨_,e,aO rfl,rfl⟩
 | .sm (.above _),e=>⟨_,e,aO rfl,rfl⟩
 | .neg _,⟨_,e,_⟩=>⟨_,e,aO rfl,rfl⟩
 | .both _ _,⟨_,_,e,_⟩=>⟨_,e,aO rfl,rfl⟩
 | .either _ _,⟨_,_,e,_⟩=>⟨_,e,aO rfl,rfl⟩
 | .bad x vs,⟨e,l,_⟩=>⟨_,e,l,by show (JL.lookup x).isSome = !((JL.lookup x).isNone);cases JL.lookup x <;> rfl⟩
theorem QAt.parts   : ∀ {q:QT},QAt H a q->q.jn=true->∃ bs:List Addr,H a=some (.tup (.str q.wd::bs.map V.ref))/\bs.length=q.parts.length/\bs.length<=2/\JL.lookup q.wd=some (.int (bs.length+1:Nat))/\∀ (i:Nat) b p,bs[i]?=some b->q.parts[i]?=some p->QAt H b p
 | .neg q,⟨b,e,h⟩,_=>⟨[b],e,rfl,aO rfl,rfl,λ i b p e1 e2=>by match i,e1,e2 with | 0,e1,e2=>cases e1;cases e2;exact h⟩
 | .both q r,⟨b,c,e,h1,h2⟩,_=>⟨[b,c],e,rfl,aO rfl,rfl,λ i b p e1 e2=>by
   match i,e1,e2 with
   | 0,e1,e2=>cases e1;cases e2;exact h1
   | 1,e1,e2=>cases e1;cases e2;exact h2⟩
 | .either q r,⟨b,c,e,h1,h2⟩,_=>⟨[b,c],e,rfl,aO rfl,rfl,λ i b p e1 e2=>by
   match i,e1,e2 with
   | 0,e1,e2=>cases e1;cases e2;exact h1
   | 1,e1,e2=>cases e1;cases e2;exact h2⟩
theorem jg(x:V)(xs:List V):cH (x::xs) (some 1) none=xs:=L2.cut_drop (x::xs) (b:=1) (by simp)
theorem gm(x:V)(xs:List V):¬ (HT.sIx (x::xs).length 0 (some 1)=0/\HT.sIx (x::xs).length (x::xs).length none=(x::xs).length):=λ z=>by
 have:=z.1;rw [show (some (1:Int))=some ((1:Nat):Int) from rfl,HT.sIx_nat] at this;rw [bY] at this;omega
inductive rB (vs:List V) (H:Hp) (Q:VK) (_E:XK):Prop
 | i (a:Addr) (x:Str) (xs:List V) (_:vs=[.ref a]) (_:H a=some (.tup (.str x::xs))) (_:Q (.bl (JL.lookup x).isSome) H)
theorem zhG:aC ["asked"] ["asked"] (av pW):=by walk_at "sc"
theorem zeJ(T:Txt K mg t)(ix:DcK w K mg "JOINING" JL)(F:Fun K "is_joined" "is_joined" pW f fd):FnOk P w K mg base CX0 1 f fd ["asked"] rB:=by
 refine F.ok zhG (λ vs H Q E h=>?_) (λ cdv A outer s H vs Q E hr h=>?_)
 ·obtain ⟨a,x,xs,rfl,_⟩:=h;rfl
 ·obtain ⟨a,x,xs,rfl,ha,q⟩:=h;refine ⟨_,(ap (ay (zfY (ix.pin (aP (cj K) (pv 0) af (λ _ _=>rfl)))))),?_⟩;exact ⟨_,rfl,a,_,_,_,rfl,rfl,SqT.of ha,bP (by decide) rfl,x,rfl,q⟩
def CkS(P:Program)(w:World)(K:W.Frag)(mg:Str->Option Value)(base:Heap)(t:Ad)(H:Hp)(l:Addr):Prop:=
 FnV K H l/\∃ fd ps spl,FnOk P w K mg base (CXr P w) 3 l fd ps spl/\Binds K fd ps []/\∀ (H1:Hp) (a:Addr) (q:QT) (Q:VK) (E:XK),Same H H1->QAt H1 a q->q.plain=true->
  (okQ 1 q=true->∀ H2,Same H1 H2->Q .non H2)->(okQ 1 q=false->∀ H2,Same H1 H2->E (.ref t.dP) none H2)->spl [.ref a] H1 Q E
theorem g0(h:FnV K H l)(s:Same H H'):FnV K H' l:=h.elim .inl λ ⟨a,b,c,d,e⟩=>.inr ⟨a,b,c,d,s _ _ e⟩
theorem CkS.same(c:CkS P w K mg base t H l)(s:Same H H'):CkS P w K mg base t H' l:=
 let ⟨v,fd,ps,spl,F,b,h⟩:=c;⟨g0 v s,fd,ps,spl,F,b,λ H1 a q Q E s1=>h H1 a q Q E (s.trans s1)⟩
def rn(P:Program)(w:World)(K:W.Frag)(mg:Str->Option Value)(base:Heap)(t:Ad):Nat->Sp
 | 0=>λ _ _ _ _=>False
 | m+1=>λ vs H Q E=>∃ (a l:Addr) (d:Nat) (q:QT),vs=[.ref a,.int d,.ref l]/\QAt H a q/\7<=d+m/\d<=7/\CkS P w K mg base t H l/\(okQ d q=true->∀ H',Same H H'->Q .non H')/\(okQ d q=false->∀ H',Same H H'->E (.ref t.dP) none H')
theorem sc_check_within:aC ["asked", "depth", "check_simple", "part"] ["asked", "depth", "check_simple"] (av pP):=by walk_at "sc"
theorem zeA{m:Nat}(T:Txt K mg t)(ix:DcK w K mg "JOINING" JL)(iB:Cal P w K mg base CX0 1 "is_joined" ["asked"] rB)(jj:Cal P w K mg base (CXr P w) (3+m) "check_within" ["asked", "depth", "check_simple"] (rn P w K mg base t m))(F:Fun K "check_within" "check_within" pP f fd):
  FnOk P w K mg base (CXr P w) (3+m+1) f fd ["asked", "depth", "check_simple"] (rn P w K mg base t (m+1)):=by
 refine F.okX sc_check_within (λ vs H Q E h=>?_) (λ cdv A outer s H vs Q E hr h=>?_)
 ·obtain ⟨a,l,d,q,rfl,_⟩:=h;rfl
 ·obtain ⟨a,l,d,q,rfl,hq,hd,hd7,C,k1,k2⟩:=h;obtain ⟨xs,ha,hx,hj⟩:=hq.tup;refine ⟨_,(ah (aW (aF dU (pv 1) (bz T.zbe) (aB _)) (ap (fj fm T.kb rfl (by rfl) T.iU (aa aQ ad)))
   a8)
  (ah (aW (PW.pt (dO (eE (dE (aM (dG K) (by rfl) T.dI PyProof.Rows.Boot.«isinstance» (aa (pv 0) (aa (gH T.vJ PyProof.Rows.Boot.«tuple») ad))))) (dO (aF cb (aM (bQ K) (by rfl) T.bv PyProof.Rows.Boot.«len» (aa (pv 0) ad)) af (aB _)) (eN (eE (dE (aM (dG K) (by rfl) T.dI PyProof.Rows.Boot.«isinstance» (aa (aP (cj K) (pv 0) af (λ _ _=>rfl)) (aa (gH T.zd7 PyProof.Rows.Boot.«str») ad))))))))) (ap (fj fm T.kb rfl (by rfl) T.iU (aa aQ ad)))
   a8)
  (ap (aW (eE (dE (iB.pe hr ax (aa (pv 0) ad) (by omega)))) (ap (ci (oI P w K mg base 3 hr c5 (aa (pv 0) ad) (pv 2) (by omega))))
   (ap (aW (aF dW (aM (bQ K) (by rfl) T.bv PyProof.Rows.Boot.«len» (aa (pv 0) ad)) (ix.pix (aP (cj K) (pv 0) af (λ _ _=>rfl))) (aB _)) (ap (fj fm T.kb rfl (by rfl) T.iU (aa aQ ad)))
   (ap (eD PassesOwn.leaving rfl (lC (d0 (lN K) (pv 0) (cY af) fB)) (aR (i:=3) sc_check_within.nd rfl (Or.inl rfl))
   (ap (ci (jj.pe hr c5 (aa (pv 3) (aa (ak a7 (pv 1) af) (aa (pv 2) ad))) (by omega)))))))))))),?_⟩
  refine ⟨_,rfl,_,_,rfl,rfl,_,rfl,?_⟩;by_cases d6:6 < d
  ·rw [aV (by omega:(6:Int) < d)];exact aA ⟨by show 1<=sizeLine;decide,k2 (vM d6 q) _ (Same.refl _)⟩
  rw [aU (by omega:¬ (6:Int) < d)];refine au ?_;refine ⟨_,rfl,_,_,_,rfl,g8 (.tup ha) T.itt,_,rfl,au ⟨_,rfl,a,_,rfl,.inr (SqT.of ha),rfl,_,rfl,?_⟩⟩;rw [show decide (V.int (((V.str q.wd::xs).length:Nat):Int)=V.int 0)=false from aU λ z=>by have:=V.int.inj z;rw [bY] at this;omega];refine au ⟨_,rfl,a,_,_,_,rfl,rfl,SqT.of ha,bP (by decide) rfl,_,_,_,rfl,g8 (.str _) T.iss,_,rfl,au ?_⟩;refine ⟨_,rfl,a,_,_,rfl,ha,_,rfl,?_⟩;rw [hj];cases hp:q.plain with
  | true=>
   obtain ⟨v,fd',ps',spl,G,hb,hC⟩:=C;have e1:okQ d q=okQ 1 q:=zeb (by omega) hp;refine aA ⟨l,fd',ps',spl,rfl,v,G,hb,_,rfl,v,hC H a q _ _ (Same.refl _) hq hp (λ z H2 s2=>k1 (e1.trans z) H2 s2) λ z H2 s2=>k2 (e1.trans z) H2 s2⟩
  | false=>
   obtain ⟨n,hn,hc⟩:∃ n:Nat,JL.lookup q.wd=some (.int n)/\((n=xs.length+1/\q.jn=true)\/(n≠xs.length+1/\okQ d q=false)):=by
    rcases QT.jn_or hp with j | ⟨x,vs,rfl⟩
    ·obtain ⟨bs,hb,_,_,hl,_⟩:=hq.parts j;rw [ha] at hb;cases hb;exact ⟨_,hl,.inl ⟨by rw [ae],j⟩⟩
    ·obtain ⟨e,_,n1,_⟩:=id hq;rw [ha] at e;cases e;cases hl:JL.lookup x with
     | none=>rw [show (QT.bad x _).plain=(JL.lookup x).isNone from rfl,hl] at hp;cases hp
     | some v=>
      obtain ⟨n,rfl⟩:=zy hl;refine ⟨n,hl,.inr ⟨λ z=>n1 (by rw [hl,z]),rfl⟩⟩
   refine au ⟨_,rfl,a,_,rfl,.inr (SqT.of ha),_,rfl,a,_,_,_,rfl,rfl,SqT.of ha,bP (by decide) rfl,q.wd,_,rfl,hn,rfl,_,rfl,?_⟩;rcases hc with ⟨rfl,j⟩ | ⟨n1,z⟩
   ·rw [show (!decide (V.int (((V.str q.wd::xs).length:Nat):Int)=V.int ((xs.length+1:Nat):Int)))=false by simp];obtain ⟨bs,hb,hbl,hb2,_,hbq⟩:=hq.parts j;rw [ha] at hb;cases hb;have ep:=vO (d:=d) (by omega) j;refine au ⟨_,rfl,1,rfl,a,_,rfl,SqT.of ha,?_,λ pt hpt=>⟨pt,rfl,⟨_,SqT.of ag⟩,⟨?_⟩⟩⟩
    ·exact gm _ _
    have ec:cH (V.str q.wd::bs.map V.ref) (some 1) none=bs.map V.ref:=jg _ _;rw [ec];have s1:Same H (upd H pt (.tup (bs.map V.ref))):=Same.new hpt;have h1:(upd H pt (.tup (bs.map V.ref))) pt=some (.tup (bs.map V.ref)):=ag;generalize upd H pt (.tup (bs.map V.ref))=H1 at s1 h1;refine za1 (K:=K) (a:=pt) (xs:=bs.map V.ref) (λ i σ H'=>∃ v3,σ=[some (.ref a),some (.int d),some (.ref l),v3]/\Same H1 H'/\∀ (k:Nat) p,k < i->q.parts[k]?=some p->okQ (d+1) p=true) ⟨none,rfl,Same.refl _,λ k p h=>absurd h (Nat.not_lt_zero _)⟩ ?_ ?_ ?_
    ·rintro i σ H' _ ⟨_,_,s2,_⟩;exact SqT.of (s2 _ _ h1)
    ·rintro i x σ H' hx ⟨v3,rfl,s2,hk⟩;rw [aH] at hx;obtain ⟨b,hb,rfl⟩:=Option.map_eq_some_iff.mp hx;have hi:i < q.parts.length:=by rw [← hbl];exact (al_gs.mp hb).1
     have hpi:=aG hi;obtain ⟨m',rfl⟩:∃ m',m=m' + 1:=⟨m - 1,by omega⟩
     refine ⟨_,rfl,_,rfl,_,_,rfl,rfl,_,rfl,b,l,d+1,q.parts[i],rfl,(hbq i b _ hb hpi).kt (eO (s1.trans s2)),by omega,by omega,C.same (s1.trans s2),λ z H3 s3=>⟨_,rfl,s2.trans s3,λ k p hk' e=>?_⟩,λ z H3 s3=>k2 ?_ H3 ((s1.trans s2).trans s3)⟩
     ·rcases Nat.lt_succ_iff_lt_or_eq.mp hk' with h | rfl
      ·exact hk k p h e
      ·rw [hpi] at e;cases e;exact z
     ·rw [ep];exact List.all_eq_false.mpr ⟨_,List.getElem_mem hi,by rw [z];exact bC⟩
    ·rintro σ H' ⟨v3,rfl,s2,hk⟩;refine k1 ?_ H' (s1.trans s2);rw [ep,al_ae];intro p hp;obtain ⟨k,hk'⟩:=List.getElem?_of_mem hp;refine hk k p ?_ hk';have:=(al_gs.mp hk').1;rw [ae,hbl];exact this
   ·rw [show (!decide (V.int (((V.str q.wd::xs).length:Nat):Int)=V.int (n:Int)))=true by
     rw [aU λ y=>n1 (by have:=V.int.inj y;rw [bY] at this;omega)];rfl]
    exact aA ⟨by show 1<=sizeLine;decide,k2 z _ (Same.refl _)⟩
def Sm.things:Sm->List Int
 | .is n=>[n] | .below n=>[n] | .above n=>[n] | .among ns=>ns | _=>[]
inductive xb (P:Program) (w:World) (K:W.Frag) (mg:Str->Option Value) (base:Heap) (t:Ad) (vs:List V) (H:Hp) (Q:VK) (E:XK):Prop
 | i (a l:Addr) (q:QT) (_:vs=[.ref a,.ref l]) (_:QAt H a q) (_:CkS P w K mg base t H l) (_:(okQ 1 q=true->∀ H',Same H H'->Q .non H')) (_:(okQ 1 q=false->∀ H',Same H H'->E (.ref t.dP) none H'))
theorem zhw:aC ["asked", "check_simple"] ["asked", "check_simple"] (av pK):=by walk_at "sc"
theorem zev(T:Txt K mg t)(jj:Cal P w K mg base (CXr P w) 10 "check_within" ["asked", "depth", "check_simple"] (rn P w K mg base t 7))(F:Fun K "check_joined" "check_joined" pK f fd):
  FnOk P w K mg base (CXr P w) 11 f fd ["asked", "check_simple"] (xb P w K mg base t):=by
 refine F.okX zhw (λ vs H Q E h=>?_) (λ cdv A outer s H vs Q E hr h=>?_)
 ·obtain ⟨a,l,q,rfl,_⟩:=h;rfl
 ·obtain ⟨a,l,q,rfl,hq,C,k1,k2⟩:=h;refine ⟨_,(ap (ci (jj.pe hr c5 (aa (pv 0) (aa af (aa (pv 1) ad)))))),?_⟩;exact ⟨_,rfl,_,rfl,a,l,1,q,rfl,hq,by decide,by decide,C,k1,k2⟩
inductive xL (K:W.Frag) (vs:List V) (H:Hp) (Q:VK) (_E:XK):Prop
 | i (a:Addr) (s:Sm) (_:vs=[.ref a]) (_:SmAt H a s) (_:(∀ (l:Addr),s.word = "among" -> H l=some (.lst (s.things.map V.int))->Q (.ref l) H)) (_:∀ (p:Addr),s.word ≠ "among" -> H p=none->Q (.ref p) (upd H p (.tup (s.things.map V.int))))
theorem zhU:aC ["simple"] ["simple"] (av qN):=by walk_at "sc"
theorem zfy(T:Txt K mg t)(F:Fun K "things_named" "things_named" qN f fd):FnOk P w K mg base CX0 1 f fd ["simple"] (xL K):=by
 refine F.ok zhU (λ vs H Q E h=>?_) (λ cdv A outer s H vs Q E hr h=>?_)
 ·obtain ⟨a,s,rfl,_⟩:=h;rfl
 ·obtain ⟨a,q,rfl,hq,k1,k2⟩:=h;refine ⟨_,(ah (aW (aF cb (aP (cj K) (pv 0) af (λ _ _=>rfl)) aQ (aB _)) (ah (aW (eE (dE (aM (dG K) (by rfl) T.dI PyProof.Rows.Boot.«isinstance» (aa (aP (cj K) (pv 0) af (λ _ _=>rfl)) (aa (gH T.jK PyProof.Rows.Boot.«list») ad))))) lH
   a8)
  (ap (ay (aP (cj K) (pv 0) af (λ _ _=>rfl)))))
   a8)
  (ap (ay (d0 (lN K) (pv 0) (cY af) fB)))),?_⟩
  cases q with
  | among ns=>
   obtain ⟨l,ha,hl,_⟩:=hq;refine ⟨_,rfl,a,_,_,_,rfl,rfl,SqT.of ha,rfl,rfl,_,rfl,aA ?_⟩;refine ⟨_,rfl,a,_,_,_,rfl,rfl,SqT.of ha,rfl,_,_,_,rfl,g8 (.lst hl) T.ill,_,rfl,au ?_⟩;exact ⟨_,rfl,a,_,_,_,rfl,rfl,SqT.of ha,rfl,k1 l rfl hl⟩
  | all=>
   refine ⟨_,rfl,a,_,_,_,rfl,rfl,SqT.of hq,rfl,rfl,_,rfl,au ?_⟩;exact ⟨_,rfl,1,rfl,a,_,rfl,SqT.of hq,gm _ _,λ p hp=>k2 p (by decide) hp⟩
  | none=>
   refine ⟨_,rfl,a,_,_,_,rfl,rfl,SqT.of hq,rfl,rfl,_,rfl,au ?_⟩;exact ⟨_,rfl,1,rfl,a,_,rfl,SqT.of hq,gm _ _,λ p hp=>k2 p (by decide) hp⟩
  | is n=>
   refine ⟨_,rfl,a,_,_,_,rfl,rfl,SqT.of hq,rfl,rfl,_,rfl,au ?_⟩;exact ⟨_,rfl,1,rfl,a,_,rfl,SqT.of hq,gm _ _,λ p hp=>k2 p (by decide:("is" : Str) ≠ "among") hp⟩
  | below n=>
   refine ⟨_,rfl,a,_,_,_,rfl,rfl,SqT.of hq,rfl,rfl,_,rfl,au ?_⟩;exact ⟨_,rfl,1,rfl,a,_,rfl,SqT.of hq,gm _ _,λ p hp=>k2 p (by decide:("below" : Str) ≠ "among") hp⟩
  | above n=>
   refine ⟨_,rfl,a,_,_,_,rfl,rfl,SqT.of hq,rfl,rfl,_,rfl,au ?_⟩;exact ⟨_,rfl,1,rfl,a,_,rfl,SqT.of hq,gm _ _,λ p hp=>k2 p (by decide:("above" : Str) ≠ "among") hp⟩
def GdS(P:Program)(w:World)(K:W.Frag)(mg:Str->Option Value)(base:Heap)(H:Hp)(g:Addr):Prop:=
 FnV K H g/\∃ fd ps spg,FnOk P w K mg base CX0 1 g fd ps spg/\Binds K fd ps []/\∀ (n:Int) (H1:Hp) (Q:VK) (E:XK),Q (.bl true) H1->spg [.int n] H1 Q E
theorem GdS.same(c:GdS P w K mg base H g)(s:Same H H'):GdS P w K mg base H' g:=⟨g0 c.1 s,c.2⟩
theorem zD   : ∀ {s:Sm},SmAt H a s->∃ xs,H a=some (.tup (.str s.word::xs))/\SL.lookup s.word=some (.int (xs.length+1:Nat))/\s.things.length<=1000
 | .among _,⟨l,e,_,z⟩=>⟨_,e,rfl,z⟩
 | .all,e=>⟨_,e,rfl,Nat.zero_le _⟩
 | .none,e=>⟨_,e,rfl,Nat.zero_le _⟩
 | .is _,e=>⟨_,e,rfl,aO rfl⟩
 | .below _,e=>⟨_,e,rfl,aO rfl⟩
 | .above _,e=>⟨_,e,rfl,aO rfl⟩
theorem zC{v:V}(h:SL.lookup x=some v):∃ n:Nat,v = .int n:=by
 have:=PySem.mem_of_lookup h;simp only [SL,al_mc,List.not_mem_nil,or_false,Prod.mk.injEq] at this;rcases this with ⟨_,e⟩ | ⟨_,e⟩ | ⟨_,e⟩ | ⟨_,e⟩ | ⟨_,e⟩ | ⟨_,e⟩
 ·exact ⟨1,e⟩
 ·exact ⟨1,e⟩
 all_goals exact ⟨2,e⟩
inductive rh (P:Program) (w:World) (K:W.Frag) (mg:Str->Option Value) (base:Heap) (t:Ad) (vs:List V) (H:Hp) (Q:VK) (E:XK):Prop
 | i (a g:Addr) (q:QT) (_:vs=[.ref a,.ref g]) (_:QAt H a q) (_:q.plain=true) (_:GdS P w K mg base H g) (_:(okQ 1 q=true->∀ H',Same H H'->Q .non H')) (_:(okQ 1 q=false->∀ H',Same H H'->E (.ref t.dP) none H'))
theorem zds:(["thing", "is_good"]:List Str).Nodup:=by decide +kernel
theorem zhB:aC ["simple", "is_good"] ["simple", "is_good"] (av pO):=by walk_at "sc"
theorem zey(T:Txt K mg t)(kc:DcK w K mg "SIMPLE" SL)(kj:Cal P w K mg base CX0 1 "things_named" ["simple"] (xL K))(F:Fun K "check_simple_of" "check_simple_of" pO f fd):
  FnOk P w K mg base (CXr P w) 2 f fd ["simple", "is_good"] (rh P w K mg base t):=by
 refine F.okX zhB (λ vs H Q E h=>?_) (λ cdv A outer s H vs Q E hr h=>?_)
 ·obtain ⟨a,l,q,rfl,_⟩:=h;rfl
 ·obtain ⟨a,g,q,rfl,hq,hp,C,k1,k2⟩:=h;refine ⟨_,(ah (aW (PW.pt (dO (zgn (kc.pnin (aP (cj K) (pv 0) af (λ _ _=>rfl)))) (eN (aF dW (aM (bQ K) (by rfl) T.bv PyProof.Rows.Boot.«len» (aa (pv 0) ad)) (kc.pix (aP (cj K) (pv 0) af (λ _ _=>rfl))) (aB _))))) (ap (fj fm T.kb rfl (by rfl) T.iU (aa aQ ad)))
   a8)
  (ap (aW (eE (dE (aM (tG K rfl) (by rfl) T.ox PyProof.Rows.Boot.«all» (aa (cn (N:=["thing", "is_good"]) (fr:=[none,some 1]) ⟨rfl,rfl,rfl,rfl,rfl,rfl⟩ rfl (PI.alt (bN (kj.pe hr ax (aa (pv 0) ad))) (lC (kj.pe hr ax (aa (pv 0) ad))))
    (λ C fp s H=>⟨aR (i:=0) zds rfl (Or.inl rfl),bS,(oI P w K mg base 1 hr ax (aa (pv 0) ad) (pv 1) (by omega))⟩)) ad)))) (ap (fj fm T.kb rfl (by rfl) T.iU (aa aQ ad)))
   a8))),?_⟩
  cases q with
  | neg q=>cases hp
  | both q r=>cases hp
  | either q r=>cases hp
  | bad x vs=>
   obtain ⟨ha,hv,_,n2⟩:=hq;have n2:=n2 (by rw [← Option.isNone_iff_eq_none];exact hp);have k2:=k2 rfl _ (Same.refl _);refine ⟨_,rfl,a,_,_,_,rfl,rfl,SqT.of ha,bP (by decide) rfl,x,rfl,_,rfl,?_⟩;cases hl:SL.lookup x with
   | none=>exact aA (aA ⟨by show 1<=sizeLine;decide,k2⟩)
   | some v=>
    obtain ⟨n,rfl⟩:=zC hl;refine au ⟨_,rfl,a,_,rfl,.inr (SqT.of ha),_,rfl,a,_,_,_,rfl,rfl,SqT.of ha,bP (by decide) rfl,x,_,rfl,hl,rfl,_,rfl,?_⟩;rw [show (!decide (V.int (((V.str x::vs).length:Nat):Int)=V.int (n:Int)))=true by
     rw [aU λ y=>n2 (by rw [hl];exact congrArg some y.symm)];rfl]
    exact aA ⟨by show 1<=sizeLine;decide,k2⟩
  | sm s=>
   obtain ⟨xs,ha,hl,hz⟩:=zD (show SmAt H a s from hq);refine ⟨_,rfl,a,_,_,_,rfl,rfl,SqT.of ha,bP (by decide) rfl,s.word,rfl,_,rfl,?_⟩;rw [hl];refine au ⟨_,rfl,a,_,rfl,.inr (SqT.of ha),_,rfl,a,_,_,_,rfl,rfl,SqT.of ha,bP (by decide) rfl,s.word,_,rfl,hl,rfl,_,rfl,?_⟩;rw [show (!decide (V.int (((V.str s.word::xs).length:Nat):Int)=V.int ((xs.length+1:Nat):Int)))=false by simp];refine au ?_;have k1:=k1 rfl;have hq:SmAt H a s:=hq;obtain ⟨vg,fd',ps',spg,G,hb,hg⟩:=C;have he:(s.things.map V.int).length=s.things.length:=ae _;have fin:∀ (H1:Hp),Same H H1->∀ q:Addr,H1 q=none->∃ (p:Addr) (bs:List Bool),[V.ref q]=[.ref p]/\SqL K (upd H1 q (.lst (List.replicate s.things.length (.bl true)))) p (bs.map V.bl)/\bs.all id=true:=λ H1 s1 q hq=>by
    refine ⟨q,List.replicate s.things.length true,rfl,.of ?_,?_⟩
    ·rw [ag,List.map_replicate]
    ·rw [al_ae];intro b hb;exact List.eq_of_mem_replicate hb
   by_cases hw:s.word = "among"
   ·refine .inl ⟨_,rfl,a,s,rfl,hq,λ l _ hl=>⟨l,rfl,⟨_,SqL.of hl⟩,⟨cD (xs:=s.things.map V.int) (λ i acc H'=>Same H H'/\acc=List.replicate i (.bl true)) ⟨Same.refl _,rfl⟩ ?_ ?_ ?_ ?_⟩⟩,λ p z=>absurd hw z⟩
    ·rintro i acc H' hi ⟨s1,rfl⟩;exact ⟨SqL.of (s1 _ _ hl),by rw [d7];exact az _⟩
    ·rw [he];exact aX (aY hz)
    ·rintro i x acc H' hx hlt ⟨s1,rfl⟩;rw [he] at hlt;rw [aH,aG hlt] at hx;cases hx;refine ⟨Wk.set rfl,tT ⟨g,fd',ps',spg,rfl,g0 vg s1,G,hb,_,rfl,g0 vg s1,hg _ H' _ _ (cw (by rw [he];exact hlt) ⟨s1,?_⟩)⟩⟩;rw [List.replicate_succ']
    ·rintro acc H' ⟨s1,rfl⟩ q hq;rw [he];obtain ⟨p,bs,e1,e2,e3⟩:=fin H' s1 q hq;refine ⟨p,bs,e1,e2,?_⟩;rw [e3];exact ⟨_,rfl,au (k1 _ (aJ s1 hq))⟩
   ·refine .inr ⟨_,rfl,a,s,rfl,hq,λ l z=>absurd z hw,λ p0 _ hp0=>⟨p0,rfl,⟨_,SqT.of ag⟩,⟨?_⟩⟩⟩;have s0:Same H (upd H p0 (.tup (s.things.map V.int))):=Same.new hp0;have h0:(upd H p0 (.tup (s.things.map V.int))) p0=some (.tup (s.things.map V.int)):=ag;generalize upd H p0 (.tup (s.things.map V.int))=H0 at s0 h0;refine kM (xs:=s.things.map V.int) (λ i acc H'=>Same H0 H'/\acc=List.replicate i (.bl true)) ⟨Same.refl _,rfl⟩ ?_ ?_ ?_ ?_
    ·rintro i acc H' hi ⟨s1,rfl⟩;exact ⟨SqT.of (s1 _ _ h0),by rw [d7];exact az _⟩
    ·rw [he];exact aX (aY hz)
    ·rintro i x acc H' hx hlt ⟨s1,rfl⟩;rw [he] at hlt;rw [aH,aG hlt] at hx;cases hx;refine ⟨Wk.set rfl,tT ⟨g,fd',ps',spg,rfl,g0 vg (s0.trans s1),G,hb,_,rfl,g0 vg (s0.trans s1),hg _ H' _ _ (cw (by rw [he];exact hlt) ⟨s1,?_⟩)⟩⟩;rw [List.replicate_succ']
    ·rintro acc H' ⟨s1,rfl⟩ q hq;rw [he];obtain ⟨p,bs,e1,e2,e3⟩:=fin H' (s0.trans s1) q hq;refine ⟨p,bs,e1,e2,?_⟩;rw [e3];exact ⟨_,rfl,au (k1 _ (aJ (s0.trans s1) hq))⟩
def zch(s:Stmt):Expr:=match cS s with
 | [.Expr (.Call _ [_,l] _ _) _]=>l
 | _ :: .Assign _ (.Call _ [_,l] _ _) _::_=>l
 | _=>.Constant .none 0 ⟨0,0,0,0⟩
def uX(s:Stmt):Pos:=match zch s with
 | .Lambda _ _ _ p=>p
 | _=>⟨0,0,0,0⟩
def uY(x:Str):Str:=x ++ ".<locals>." ++ "<lambda>"
theorem wK(s:Same (upd H c o) H')(n:H c=none):Same H (del H' c):=λ b u e=>by
 have hb:b≠c:=aI e n;rw [dA hb];exact s b u (by rw [aj hb];exact e)
theorem qT(s:Same (del H c) H')(n:H c=some o):Same H (upd H' c o):=λ b u e=>by
 by_cases hb:b=c
 ·subst hb;rw [n] at e;cases e;exact ag
 ·rw [aj hb];exact s b u (by rw [dA hb];exact e)
theorem iN{o:Obj}(n:H c=some (FrO o c)):Kt H (del H c):=λ b u e=>by
 by_cases hb:b=c
 ·subst hb;rw [n] at e;cases e;exact .inr (.inr ⟨_,_,rfl⟩)
 ·exact .inl (by rw [dA hb];exact e)
theorem CdH.same(x:CdH H c q)(s:Same H H'):CdH H' c q:=x.mono λ o e=>s _ _ e
theorem jf(x:cQ H p pos q)(s:Same H H'):cQ H' p pos q:=
 let ⟨ps,e,t,h⟩:=x;⟨ps,s _ _ e,t,h.imp id λ ⟨c,e,h⟩=>⟨c,e,CdH.same h s⟩⟩
theorem qX{ps:Array Value}(s:fF p H H')(e:H p=some (.tbl ps)):Kt H H':=λ b o h=>by
 by_cases hb:b=p
 ·subst hb;rw [e] at h;cases h;exact .inr (.inl ⟨_,rfl⟩)
 ·exact .inl (s b o hb h)
def GdK(P:Program)(w:World)(K:W.Frag)(mg:Str->Option Value)(base:Heap)(g:Addr):Prop:=
 (∃ oc od fd sl,K.lookup g=some ⟨oc,od,.func fd,sl⟩)/\∃ fd ps spg,FnOk P w K mg base CX0 1 g fd ps spg/\Binds K fd ps []/\∀ (n:Int) (H1:Hp) (Q:VK) (E:XK),Q (.bl true) H1->spg [.int n] H1 Q E
theorem GdK.gds(h:GdK P w K mg base g)(H:Hp):GdS P w K mg base H g:=⟨.inl h.1,h.2⟩
abbrev lqC:Str:=uY "check_question_of"
abbrev lpC:Pos:=uX lJ
inductive xf (P:Program) (w:World) (K:W.Frag) (mg:Str->Option Value) (base:Heap) (t:Ad) (vs:List V) (H:Hp) (Q:VK) (E:XK):Prop
 | i (a g:Addr) (q:QT) (_:vs=[.ref a,.ref g]) (_:QAt H a q) (_:GdK P w K mg base g) (_:cQ H t.p_check_question_of lpC lqC) (_:(okQ 1 q=true->∀ H',fF t.p_check_question_of H H'->cQ H' t.p_check_question_of lpC lqC->Q .non H')) (_:(okQ 1 q=false->∀ H',fF t.p_check_question_of H H'->cQ H' t.p_check_question_of lpC lqC->E (.ref t.dP) none H'))
theorem zhz:aC ["question", "is_good"] ["question", "is_good"] (av lJ):=by walk_at "sc"
theorem zex(T:Txt K mg t)(B:fU base mg)(mr:Cal P w K mg base (CXr P w) 11 "check_joined" ["asked", "check_simple"] (xb P w K mg base t))(mw:Cal P w K mg base (CXr P w) 2 "check_simple_of" ["simple", "is_good"] (rh P w K mg base t))(F:FunC K "check_question_of" "check_question_of" lJ f fd t.gW t.p_check_question_of):
  FnOk P w K mg base (CXr P w) 12 f fd ["question", "is_good"] (xf P w K mg base t):=by
 refine F.ok zhz (λ vs H Q E h=>?_) (λ A outer s H vs Q E hr h=>?_)
 ·obtain ⟨a,l,q,rfl,_⟩:=h;rfl
 ·obtain ⟨a,g,q,rfl,hq,hg,hT,k1,k2⟩:=h;refine ⟨_,(ap (ci (mr.peZ (i:=1) (y := "is_good") hr c5 zi2 (aa (pv 0) (aa (vW rfl rfl F.hd B) ad)) rfl rfl rfl rfl))),?_⟩;refine ⟨_,rfl,hT,λ H1 l sb hl hT1 LH=>⟨_,rfl,λ oc u hc ed ru=>?_⟩⟩;obtain ⟨ps0,eT,_⟩:=id hT;have kH1:Kt H H1:=qX sb eT;obtain ⟨pm,c',ctv,eL,cd⟩:=LH;have s2:Same H1 (upd H1 (s.heap.objs.size+1) (FrO oc (s.heap.objs.size+1))):=Same.new hc;have h2c:(upd H1 (s.heap.objs.size+1) (FrO oc (s.heap.objs.size+1))) (s.heap.objs.size+1)=some (FrO oc (s.heap.objs.size+1)):=ag;have back:∀ H2,Same (upd H1 (s.heap.objs.size+1) (FrO oc (s.heap.objs.size+1))) H2->fF t.p_check_question_of H (del H2 (s.heap.objs.size+1))/\cQ (del H2 (s.heap.objs.size+1)) t.p_check_question_of lpC lqC:=λ H2 s3=>
   have s4:=wK s3 hc
   ⟨λ b o nb e=>s4 b o (sb b o nb e),jf hT1 s4⟩
  refine ⟨a,l,q,rfl,hq.kt λ b o e=>?_,?_,λ z H2 s3=>k1 z _ (back H2 s3).1 (back H2 s3).2,λ z H2 s3=>k2 z _ (back H2 s3).1 (back H2 s3).2⟩
  ·exact (kH1 b o e).imp (λ e=>s2 b o e) id
  have FL:=ut (CX:=CXr P w) (P:=P) (w:=w) (K:=K) (mg:=mg) (base:=base) eL "simple" 2 (λ v z=>rh P w K mg base t [v,z]) ?S (@zgY P w) (λ A outer s H v z Q E hr h=>?B) (λ us hl=>match us,hl with | [_],_=>rfl)
  case S=>exact ⟨rfl,rfl,rfl,by decide,rfl,by decide,.inl ⟨rfl,λ _ _=>rfl⟩⟩
  case B=>
   refine ⟨_,mw.pe hr zfU (aa (pv 0) (aa (pv 1) ad)),?_⟩;exact ⟨_,rfl,_,rfl,h⟩
  refine ⟨.inr ⟨_,_,_,_,s2 _ _ eL⟩,_,_,_,FL.1,FL.2,λ H3 a' q' Q' E' s3 hq' hp' j1 j2=>?_⟩;have h3c:=s3 _ _ h2c;refine ⟨.ref a',.ref g,oc,u,rfl,⟨s3 _ _ (s2 _ _ eL),CdH.same (CdH.same cd s2) s3⟩,h3c,ed,ru,a',g,q',rfl,hq'.kt (iN h3c),hp',hg.gds _,λ z H4 s4 _=>j1 z _ (qT s4 h3c),λ z H4 s4=>j2 z _ (qT s4 h3c)⟩
inductive xc (t:Ad) (vs:List V) (H:Hp) (Q:VK) (E:XK):Prop
 | i (a:Addr) (q:QT) (_:vs=[.ref a]) (_:QAt H a q) (_:cQ H t.p_check_question_of lpC lqC) (_:(okQ 1 q=true->∀ H',fF t.p_check_question_of H H'->cQ H' t.p_check_question_of lpC lqC->Q .non H')) (_:(okQ 1 q=false->∀ H',fF t.p_check_question_of H H'->cQ H' t.p_check_question_of lpC lqC->E (.ref t.dP) none H'))
theorem zhy:aC ["question"] ["question"] (av pM):=by walk_at "sc"
theorem zew(T:Txt K mg t)(DW:DD K mg "is_whole" lK ["thing"])(mt:Cal P w K mg base (CXr P w) 12 "check_question_of" ["question", "is_good"] (xf P w K mg base t))(F:Fun K "check_question" "check_question" pM f fd):
  FnOk P w K mg base (CXr P w) 13 f fd ["question"] (xc t):=by
 obtain ⟨g,zcG,fdg,G,bg⟩:=DW;have hg:GdK P w K mg base g:=by
  obtain ⟨oc,od,_,_,_,_,_,_,osl,_,lk,_⟩:=G.ex;exact ⟨⟨oc,od,fdg,osl,lk⟩,fdg,_,_,vP T G,bg,λ n H1 Q E q=>⟨n,rfl,q⟩⟩
 refine F.okX zhy (λ vs H Q E h=>?_) (λ cdv A outer s H vs Q E hr h=>?_)
 ·obtain ⟨a,q,rfl,_⟩:=h;rfl
 ·obtain ⟨a,q,rfl,hq,hT,k1,k2⟩:=h;refine ⟨_,(ap (ci (mt.pe hr c5 (aa (pv 0) (aa (dZ zcG) ad))))),?_⟩;exact ⟨_,rfl,a,g,q,rfl,hq,hg,hT,k1,k2⟩
def Sm.holds:Sm->OI->Bool
 | .all,_=>true
 | .none,o=>decide (ov o = .non)
 | .is _,Option.none=>false
 | .below _,Option.none=>false
 | .above _,Option.none=>false
 | .among _,Option.none=>false
 | .is n,some x=>decide (V.int x=V.int n)
 | .below n,some x=>decide (x < n)
 | .above n,some x=>decide (n < x)
 | .among ns,some x=>inV (.int x) (ns.map V.int)
def QT.holds:QT->OI->Bool
 | .sm s,o=>s.holds o
 | .neg q,o=>!q.holds o
 | .both q r,o=>q.holds o && r.holds o
 | .either q r,o=>q.holds o || r.holds o
 | .bad _ _,_=>false
inductive wU (vs:List V) (H:Hp) (Q:VK) (_E:XK):Prop
 | i (a:Addr) (s:Sm) (o:OI) (_:vs=[.ref a,ov o]) (_:SmAt H a s) (_:Q (.bl (s.holds o)) H)
theorem zhq:aC ["simple", "value"] ["simple", "value"] (av pB):=by walk_at "sc"
theorem zeg(T:Txt K mg t)(F:Fun K "answers" "answers" pB f fd):FnOk P w K mg base CX0 1 f fd ["simple", "value"] wU:=by
 refine F.ok zhq (λ vs H Q E h=>?_) (λ cdv A outer s H vs Q E hr h=>?_)
 ·obtain ⟨a,s,o,rfl,_⟩:=h;rfl
 ·obtain ⟨a,q,o,rfl,hq,k⟩:=h;have hu:=ge hr;refine ⟨_,(ah (aW (aF cb (aP (cj K) (pv 0) af (λ _ _=>rfl)) aQ (aB _)) (ap (ay dX))
   a8)
  (ah (aW (aF cb (aP (cj K) (pv 0) af (λ _ _=>rfl)) aQ (aB _)) (ap (ay (dY dL (pv 1) bx (aB _))))
   a8)
  (ah (aW (aF dL (pv 1) bx (aB _)) (ap (ay dX))
   a8)
  (ah (aW (aF cb (aP (cj K) (pv 0) af (λ _ _=>rfl)) aQ (aB _)) (ap (ay (dY cb (pv 1) (aP (cj K) (pv 0) af (λ _ _=>rfl)) (aB _))))
   a8)
  (ah (aW (aF cb (aP (cj K) (pv 0) af (λ _ _=>rfl)) aQ (aB _)) (ap (ay (dY ig (pv 1) (aP (cj K) (pv 0) af (λ _ _=>rfl)) (aB _))))
   a8)
  (ah (aW (aF cb (aP (cj K) (pv 0) af (λ _ _=>rfl)) aQ (aB _)) (ap (ay (dY dU (pv 1) (aP (cj K) (pv 0) af (λ _ _=>rfl)) (aB _))))
   a8)
  (ap (ay (dY (jN K) (pv 1) (aP (cj K) (pv 0) af (λ _ _=>rfl)) (by rfl)))))))))),?_⟩
  cases q with
  | all=>exact ⟨_,rfl,a,_,_,_,rfl,rfl,SqT.of hq,rfl,rfl,_,rfl,aA k⟩
  | none=>exact ⟨_,rfl,a,_,_,_,rfl,rfl,SqT.of hq,rfl,rfl,_,rfl,au ⟨_,rfl,a,_,_,_,rfl,rfl,SqT.of hq,rfl,rfl,_,rfl,aA ⟨_,rfl,rfl,k⟩⟩⟩
  | is n=>
   refine ⟨_,rfl,a,_,_,_,rfl,rfl,SqT.of hq,rfl,rfl,_,rfl,au ⟨_,rfl,a,_,_,_,rfl,rfl,SqT.of hq,rfl,rfl,_,rfl,au ⟨_,rfl,rfl,_,rfl,?_⟩⟩⟩;cases o with
   | none=>exact aA k
   | some x=>exact au ⟨_,rfl,a,_,_,_,rfl,rfl,SqT.of hq,rfl,rfl,_,rfl,aA ⟨_,rfl,_,rfl,a,_,_,_,rfl,rfl,SqT.of hq,rfl,rfl,k⟩⟩
  | below n=>
   refine ⟨_,rfl,a,_,_,_,rfl,rfl,SqT.of hq,rfl,rfl,_,rfl,au ⟨_,rfl,a,_,_,_,rfl,rfl,SqT.of hq,rfl,rfl,_,rfl,au ⟨_,rfl,rfl,_,rfl,?_⟩⟩⟩;cases o with
   | none=>exact aA k
   | some x=>exact au ⟨_,rfl,a,_,_,_,rfl,rfl,SqT.of hq,rfl,rfl,_,rfl,au ⟨_,rfl,a,_,_,_,rfl,rfl,SqT.of hq,rfl,rfl,_,rfl,aA ⟨_,rfl,_,rfl,a,_,_,_,rfl,rfl,SqT.of hq,rfl,_,_,rfl,rfl,k⟩⟩⟩
  | above n=>
   refine ⟨_,rfl,a,_,_,_,rfl,rfl,SqT.of hq,rfl,rfl,_,rfl,au ⟨_,rfl,a,_,_,_,rfl,rfl,SqT.of hq,rfl,rfl,_,rfl,au ⟨_,rfl,rfl,_,rfl,?_⟩⟩⟩;cases o with
   | none=>exact aA k
   | some x=>exact au ⟨_,rfl,a,_,_,_,rfl,rfl,SqT.of hq,rfl,rfl,_,rfl,au ⟨_,rfl,a,_,_,_,rfl,rfl,SqT.of hq,rfl,rfl,_,rfl,au ⟨_,rfl,a,_,_,_,rfl,rfl,SqT.of hq,rfl,rfl,_,rfl,aA ⟨_,rfl,_,rfl,a,_,_,_,rfl,rfl,SqT.of hq,rfl,_,_,rfl,rfl,k⟩⟩⟩⟩
  | among ns=>
   obtain ⟨l,ha,hl,hz⟩:=hq;refine ⟨_,rfl,a,_,_,_,rfl,rfl,SqT.of ha,rfl,rfl,_,rfl,au ⟨_,rfl,a,_,_,_,rfl,rfl,SqT.of ha,rfl,rfl,_,rfl,au ⟨_,rfl,rfl,_,rfl,?_⟩⟩⟩;cases o with
   | none=>exact aA k
   | some x=>
    refine au ⟨_,rfl,a,_,_,_,rfl,rfl,SqT.of ha,rfl,rfl,_,rfl,au ⟨_,rfl,a,_,_,_,rfl,rfl,SqT.of ha,rfl,rfl,_,rfl,au ⟨_,rfl,a,_,_,_,rfl,rfl,SqT.of ha,rfl,rfl,_,rfl,au ⟨_,rfl,_,rfl,a,_,_,_,rfl,rfl,SqT.of ha,rfl,?_⟩⟩⟩⟩;refine ⟨l,_,rfl,.inl (SqL.of hl),rfl,?_,k⟩;rw [List.all_map];exact al_ae.mpr λ _ _=>rfl
theorem zaz{f r:OI->Bool}(h0:H a=some (.lst ((each.map f).map V.bl)))(hz:each.length<=1000)(ht:∀ o H' (R:VK),R (.bl (r o)) H'->te [some (.bl (f o))] H' R)(k:∀ H' p,Same H H'->H' p=some (.lst ((each.map r).map V.bl))->Q (.ref p) H'):
  km [none] (Itl K a) (dS 0) lW te σ H Q:=by
 refine ⟨cD (xs:=(each.map f).map V.bl) (λ i acc H'=>Same H H'/\acc=((each.take i).map r).map V.bl) ⟨Same.refl _,rfl⟩ ?_ ?_ ?_ ?_⟩
 ·rintro i acc H' hi ⟨s4,rfl⟩;exact ⟨SqL.of (s4 _ _ h0),by simp;omega⟩
 ·simp;exact aX (aY hz)
 ·rintro i x acc H' hx hlt ⟨s4,rfl⟩;have hi:i < each.length:=by simpa using hlt
  simp [aG hi] at hx;subst hx;refine ⟨Wk.set rfl,tT (ht each[i] _ _ (cw hlt ⟨s4,?_⟩))⟩;rw [List.take_succ,aG hi,aE,aE];rfl
 ·rintro acc H' ⟨s4,rfl⟩ p hp;refine k _ p (aJ s4 hp) ?_;rw [ag];simp
theorem tR{b:Addr}{f g r:OI->Bool}(h0:H a=some (.lst ((each.map f).map V.bl)))(h1:H b=some (.lst ((each.map g).map V.bl)))(hz:each.length<=1000)(ht:∀ o H' (R:VK),R (.bl (r o)) H'->te [some (.bl (f o)),some (.bl (g o))] H' R)(k:∀ H' p,Same H H'->H' p=some (.lst ((each.map r).map V.bl))->Q (.ref p) H'):
  km [none,none] (Itz K a b) (nL K 2 (nJ (dS 0) (nJ (dS 1) uD))) lW te σ H Q:=by
 refine ⟨nu (xs:=(each.map f).map V.bl) (ys:=(each.map g).map V.bl) (λ i acc H'=>Same H H'/\acc=((each.take i).map r).map V.bl) ⟨Same.refl _,rfl⟩ each.length (by simp) ?_ (aX (aY hz)) ?_ ?_⟩
 ·rintro i acc H' hi ⟨s4,rfl⟩;exact ⟨SqL.of (s4 _ _ h0),SqL.of (s4 _ _ h1),by simp;omega⟩
 ·rintro i x y acc H' T' hx hy hi ⟨s4,rfl⟩ hT;simp [aG hi] at hx hy;subst hx hy;refine ⟨T',_,rfl,SqT.of ag,rfl,_,_,rfl,_,_,rfl,rfl,(Wk.set rfl).trans (Wk.set rfl),tT (ht each[i] _ _ (cw hi ⟨aJ s4 hT,?_⟩))⟩;rw [List.take_succ,aG hi,aE,aE];rfl
 ·rintro acc H' ⟨s4,rfl⟩ p hp;refine k _ p (aJ s4 hp) ?_;rw [ag];simp
def MkS(P:Program)(w:World)(K:W.Frag)(mg:Str->Option Value)(base:Heap)(H:Hp)(l:Addr)(each:List OI):Prop:=
 FnV K H l/\∃ fd ps spl,FnOk P w K mg base CX0 2 l fd ps spl/\Binds K fd ps []/\∀ (H1:Hp) (a:Addr) (s:Sm) (Q:VK) (E:XK),Same H H1->SmAt H1 a s->
  (∀ p H2,Same H1 H2->H2 p=some (.lst ((each.map s.holds).map V.bl))->Q (.ref p) H2)->spl [.ref a] H1 Q E
theorem MkS.same(c:MkS P w K mg base H l each)(s:Same H H'):MkS P w K mg base H' l each:=
 let ⟨v,fd,ps,spl,F,b,h⟩:=c;⟨g0 v s,fd,ps,spl,F,b,λ H1 a q Q E s1=>h H1 a q Q E (s.trans s1)⟩
def rF(P:Program)(w:World)(K:W.Frag)(mg:Str->Option Value)(base:Heap):Nat->Sp
 | 0=>λ _ _ _ _=>False
 | m+1=>λ vs H Q _=>∃ (a l:Addr) (d:Nat) (q:QT) (each:List OI),vs=[.ref a,.ref l]/\QAt H a q/\okQ d q=true/\6<=d+m/\each.length<=1000/\MkS P w K mg base H l each/\∀ p H',Same H H'->H' p=some (.lst ((each.map q.holds).map V.bl))->Q (.ref p) H'
theorem vN{d:Nat}:∀ {q:QT},okQ d q=true->d<=6
 | q,h=>Decidable.byContradiction λ n=>by rw [vM (by omega) q] at h;cases h
theorem zdL:(["part", "marks_of"]:List Str).Nodup:=by decide +kernel
theorem zdK:(["mark"]:List Str).Nodup:=by decide +kernel
theorem lp:(["one", "other"]:List Str).Nodup:=by decide +kernel
theorem sc_marked:aC ["asked", "marks_of", "parts"] ["asked", "marks_of"] (av qv):=by walk_at "sc"
theorem ze7{m:Nat}(T:Txt K mg t)(iB:Cal P w K mg base CX0 1 "is_joined" ["asked"] rB)(jk:Cal P w K mg base CX0 (2+m) "marked" ["asked", "marks_of"] (rF P w K mg base m))(F:Fun K "marked" "marked" qv f fd):
  FnOk P w K mg base CX0 (2+m+1) f fd ["asked", "marks_of"] (rF P w K mg base (m+1)):=by
 refine F.ok sc_marked (λ vs H Q E h=>?_) (λ cdv A outer s H vs Q E hr h=>?_)
 ·obtain ⟨a,l,d,q,each,rfl,_⟩:=h;rfl
 ·obtain ⟨a,l,d,q,each,rfl,hq,ho,hd,hz,C,k⟩:=h;obtain ⟨xs,ha,hx,hj⟩:=hq.tup;refine ⟨_,(ah (aW (eE (dE (iB.pe hr ax (aa (pv 0) ad) (by omega)))) (ap (ay (oI P w K mg base 2 hr ax (aa (pv 0) ad) (pv 1) (by omega))))
   a8)
  (ah (fk (i:=2) sc_marked.nd rfl (Or.inl rfl) (N:=["part", "marks_of"]) (fr:=[none,some 1]) ⟨rfl,rfl,rfl,rfl,rfl,rfl⟩ rfl (lC (d0 (lN K) (pv 0) (cY af) fB))
    (λ C fp s H=>⟨aR (i:=0) zdL rfl (Or.inl rfl),bS,(jk.pe hr ax (aa (pv 0) (aa (pv 1) ad)) (by omega))⟩))
  (ah (aW (aF cb (aP (cj K) (pv 0) af (λ _ _=>rfl)) aQ (aB _)) (ap (ay (cn (N:=["mark"]) (fr:=[none]) ⟨rfl,rfl,rfl,rfl,rfl,rfl⟩ rfl (bN (aP (bq K) (pv 2) af (λ _ _=>rfl)))
    (λ C fp s H=>⟨aR (i:=0) zdK rfl (Or.inl rfl),bS,(lA (pv 0))⟩))))
   a8)
  (ah (aW (aF cb (aP (cj K) (pv 0) af (λ _ _=>rfl)) aQ (aB _)) (ap (ay (cn (N:=["one", "other"]) (fr:=[none,none]) ⟨rfl,rfl,rfl,rfl,rfl,rfl⟩ rfl (lD K (by rfl) T.jM (aa (aP (bq K) (pv 2) af (λ _ _=>rfl)) (aa (aP (bq K) (pv 2) af (λ _ _=>rfl)) ad)))
    (λ C fp s H=>⟨fg K (n:=2) rfl (cK (aR (i:=0) lp rfl (Or.inl rfl)) (cK (aR (i:=1) lp rfl (Or.inl rfl)) fh)),bS,(i8 (pv 0) (gG (pv 1)))⟩))))
   a8)
  (ap (ay (cn (N:=["one", "other"]) (fr:=[none,none]) ⟨rfl,rfl,rfl,rfl,rfl,rfl⟩ rfl (lD K (by rfl) T.jM (aa (aP (bq K) (pv 2) af (λ _ _=>rfl)) (aa (aP (bq K) (pv 2) af (λ _ _=>rfl)) ad)))
    (λ C fp s H=>⟨fg K (n:=2) rfl (cK (aR (i:=0) lp rfl (Or.inl rfl)) (cK (aR (i:=1) lp rfl (Or.inl rfl)) fh)),bS,(vZ (pv 0) (gG (pv 1)))⟩)))))))),?_⟩
  refine ⟨_,rfl,a,_,_,rfl,ha,_,rfl,?_⟩;rw [hj];cases hp:q.plain with
  | true=>
   obtain ⟨s,rfl⟩:∃ s,q = .sm s:=by
    cases q with
    | sm s=>exact ⟨s,rfl⟩
    | bad _ _=>cases ho
    | _=>cases hp
   obtain ⟨v,fd',ps',spl,G,hb,hC⟩:=C;exact aA ⟨l,fd',ps',spl,rfl,v,G,hb,_,rfl,v,hC H a s _ _ (Same.refl _) hq k⟩
  | false=>
   have j:q.jn=true:=by
    rcases QT.jn_or hp with j | ⟨x,vs,rfl⟩
    ·exact j
    ·cases ho
   obtain ⟨bs,hb,hbl,hb2,_,hbq⟩:=hq.parts j;rw [ha] at hb;cases hb;have hd6:=vN ho;rw [vO hd6 j] at ho;refine au ⟨_,rfl,1,rfl,a,_,rfl,SqT.of ha,gm _ _,λ pt hpt=>⟨pt,rfl,⟨_,SqT.of ag⟩,?_⟩⟩;have ec:cH (V.str q.wd::bs.map V.ref) (some 1) none=bs.map V.ref:=jg _ _;rw [ec];have s1:Same H (upd H pt (.tup (bs.map V.ref))):=Same.new hpt;have h1:(upd H pt (.tup (bs.map V.ref))) pt=some (.tup (bs.map V.ref)):=ag;generalize upd H pt (.tup (bs.map V.ref))=H1 at s1 h1;refine ⟨kM (xs:=bs.map V.ref) (λ i acc H'=>∃ ps:List Addr,acc=ps.map V.ref/\ps.length=i/\Same H1 H'/\∀ (k:Nat) p r,ps[k]?=some p->q.parts[k]?=some r->H' p=some (.lst ((each.map r.holds).map V.bl))) ⟨[],rfl,rfl,Same.refl _,nofun⟩ ?_ ?_ ?_ ?_⟩
   ·rintro i acc H' hi ⟨ps,rfl,rfl,s2,_⟩;exact ⟨SqT.of (s2 _ _ h1),by rw [ae];exact az _⟩
   ·rw [ae];exact aX (aY (by omega))
   ·rintro i x acc H' hx hlt ⟨ps,rfl,hi',s2,hk⟩;rw [aH] at hx;obtain ⟨b,hb,rfl⟩:=Option.map_eq_some_iff.mp hx;have hi:i < q.parts.length:=by rw [← hbl];exact (al_gs.mp hb).1
    have hpi:=aG hi;have ho:=al_ae.mp ho _ (List.getElem_mem hi);have:=vN ho;obtain ⟨m',rfl⟩:∃ m',m=m' + 1:=⟨m - 1,by omega⟩
    refine ⟨Wk.set rfl,tT ⟨_,rfl,_,rfl,b,l,d+1,q.parts[i],each,rfl,(hbq i b _ hb hpi).kt (eO (s1.trans s2)),ho,by omega,hz,C.same (s1.trans s2),λ p H3 s3 h3=>cw hlt ⟨ps++[p],by rw [aE];rfl,by rw [bn,hi'];rfl,s2.trans s3,λ k p' r e1 e2=>?_⟩⟩⟩;rcases Nat.lt_or_ge k ps.length with hk' | hk'
    ·rw [List.getElem?_append_left hk'] at e1;exact s3 _ _ (hk k p' r e1 e2)
    ·rw [List.getElem?_append_right hk'] at e1;have:k=ps.length:=by have:=(al_gs.mp e1).1;simp at this;omega
     subst this;simp at e1;subst e1;rw [hi',hpi] at e2;cases e2;exact h3
   ·rintro acc H' ⟨ps,rfl,hl,s2,hk⟩ pl hpl;rw [ae] at hl;have s3:Same H (upd H' pl (.lst (ps.map V.ref))):=aJ (s1.trans s2) hpl;have k3:∀ (k:Nat) p r,ps[k]?=some p->q.parts[k]?=some r->(upd H' pl (.lst (ps.map V.ref))) p=some (.lst ((each.map r.holds).map V.bl)):=λ k p r e1 e2=>Same.new hpl _ _ (hk k p r e1 e2);have hpl:(upd H' pl (.lst (ps.map V.ref))) pl=some (.lst (ps.map V.ref)):=ag;have ha3:=s3 _ _ ha;generalize upd H' pl (.lst (ps.map V.ref))=H3 at s3 k3 hpl ha3;cases q with
    | sm s=>cases j
    | bad x vs=>cases j
    | neg q=>
     obtain ⟨p0,rfl⟩:=List.length_eq_one_iff.mp (hl.trans hbl);have ha3:H3 a=some (.tup (.str "not" :: bs.map V.ref)):=ha3;exact ⟨_,rfl,a,_,_,_,rfl,rfl,SqT.of ha3,bP (by decide) rfl,rfl,_,rfl,aA ⟨_,rfl,pl,_,_,_,rfl,rfl,SqL.of hpl,rfl,p0,rfl,⟨_,SqL.of (k3 0 p0 q rfl rfl)⟩,zaz (k3 0 p0 q rfl rfl) hz (λ o H' R h=>⟨_,rfl,_,rfl,h⟩) λ H' p s4 h=>k p H' (s3.trans s4) h⟩⟩
    | both q r=>
     obtain ⟨p0,p1,rfl⟩:∃ x y,ps=[x,y]:=match ps,hl.trans hbl with | [x,y],_=>⟨x,y,rfl⟩
     have h0:=k3 0 p0 q rfl rfl;have h1:=k3 1 p1 r rfl rfl;have ha3:H3 a=some (.tup (.str "both" :: bs.map V.ref)):=ha3;refine ⟨_,rfl,a,_,_,_,rfl,rfl,SqT.of ha3,bP (by decide) rfl,rfl,_,rfl,au ⟨_,rfl,a,_,_,_,rfl,rfl,SqT.of ha3,bP (by decide) rfl,rfl,_,rfl,aA ⟨_,rfl,pl,_,_,_,rfl,rfl,SqL.of hpl,rfl,_,rfl,pl,_,_,_,rfl,rfl,SqL.of hpl,rfl,p0,p1,_,_,rfl,SqL.of h0,SqL.of h1,tR h0 h1 hz (λ o H' R h=>⟨_,rfl,_,rfl,?_⟩) λ H' p s4 h=>k p H' (s3.trans s4) h⟩⟩⟩;rw [show (QT.both q r).holds o=(q.holds o && r.holds o) from rfl] at h;cases e:q.holds o <;> rw [e] at h
     ·exact h
     ·exact ⟨_,rfl,h⟩
    | either q r=>
     obtain ⟨p0,p1,rfl⟩:∃ x y,ps=[x,y]:=match ps,hl.trans hbl with | [x,y],_=>⟨x,y,rfl⟩
     have h0:=k3 0 p0 q rfl rfl;have h1:=k3 1 p1 r rfl rfl;have ha3:H3 a=some (.tup (.str "either" :: bs.map V.ref)):=ha3;refine ⟨_,rfl,a,_,_,_,rfl,rfl,SqT.of ha3,bP (by decide) rfl,rfl,_,rfl,au ⟨_,rfl,a,_,_,_,rfl,rfl,SqT.of ha3,bP (by decide) rfl,rfl,_,rfl,au ⟨_,rfl,pl,_,_,_,rfl,rfl,SqL.of hpl,rfl,_,rfl,pl,_,_,_,rfl,rfl,SqL.of hpl,rfl,p0,p1,_,_,rfl,SqL.of h0,SqL.of h1,tR h0 h1 hz (λ o H' R h=>⟨_,rfl,_,rfl,?_⟩) λ H' p s4 h=>k p H' (s3.trans s4) h⟩⟩⟩;rw [show (QT.either q r).holds o=(q.holds o || r.holds o) from rfl] at h;cases e:q.holds o <;> rw [e] at h
     ·exact ⟨_,rfl,h⟩
     ·exact h
open Classical in
theorem yk{f:Key->V}(k:Key):∀ (ps acc:List (Key × V)),(∀ p∈ps,p.2=f p.1)->bJ (ps.foldl (λ a p=>bO a p.1 p.2) acc) k=if k∈ps.map Prod.fst then some (f k) else bJ acc k
 | [],acc,_=>by rw [if_neg (by simp)];rfl
 | p::ps,acc,h=>by
  rw [List.foldl_cons,yk k ps _ λ p hp=>h p (bV _ hp),zji];by_cases e:k∈ps.map Prod.fst
  ·rw [if_pos e,if_pos (by rw [bE];exact bV _ e)]
  ·rw [if_neg e];by_cases e2:k=p.1
   ·rw [if_pos e2,if_pos (by rw [e2,bE];exact cG ..),h p (cG ..),e2]
   ·rw [if_neg e2,if_neg (by rw [bE,al_mc];exact λ z=>z.elim e2 e)]
open Classical in
theorem ym{f:Key->V}{ps:List (Key × V)}(h:∀ p∈ps,p.2=f p.1)(k:Key):bJ (cP ps) k=if k∈ps.map Prod.fst then some (f k) else none:=yk k ps [] h
theorem zjj{kvs:List (Key × V)}{k:Key}:(bJ kvs k).isSome=true↔k∈kvs.map Prod.fst:=by
 rw [← jh,List.any_eq_true,List.mem_map];exact ⟨λ ⟨x,h1,h2⟩=>⟨x,h1,of_decide_eq_true h2⟩,λ ⟨x,h1,h2⟩=>⟨x,h1,aV h2⟩⟩
theorem ovK(o:OI):ov o=kV (.inl o):=by cases o <;> rfl
theorem zaO(xs:List OI):∃ each:List OI,(cP (xs.map λ o=>((.inl o:Key),V.bl true))).map (λ kv=>kV kv.1)=each.map ov/\(∀ o∈xs,o∈each)/\each.length<=xs.length:=by
 have hv:=ym (f:=λ _=>.bl true) (ps:=xs.map λ o=>((.inl o:Key),V.bl true)) λ p hp=>by
  obtain ⟨o,_,rfl⟩:=List.mem_map.mp hp;rfl
 have hm:∀ k:Key,k∈(cP (xs.map λ o=>((.inl o:Key),V.bl true))).map Prod.fst↔∃ o∈xs,Sum.inl o=k:=λ k=>by
  rw [← zjj,hv k];rw [show (xs.map λ o=>((.inl o:Key),V.bl true)).map Prod.fst=xs.map Sum.inl by rw [List.map_map];rfl];by_cases e:k∈xs.map Sum.inl
  ·rw [if_pos e];exact ⟨λ _=>List.mem_map.mp e,λ _=>rfl⟩
  ·rw [if_neg e];exact ⟨nofun,λ h=>absurd (List.mem_map.mpr h) e⟩
 have hl:=jS (xs.map λ o=>((.inl o:Key),V.bl true));rw [ae] at hl;generalize cP (xs.map λ o=>((.inl o:Key),V.bl true))=kvs at hm hl;refine ⟨kvs.map λ kv=>kv.1.elim id λ _=>none,?_,λ o ho=>?_,by rw [ae];exact hl⟩
 ·rw [List.map_map];refine List.map_congr_left λ kv hk=>?_;obtain ⟨o,_,e⟩:=(hm kv.1).mp (List.mem_map_of_mem hk);show kV kv.1=ov (kv.1.elim id λ _=>none);rw [← e];exact (ovK o).symm
 ·obtain ⟨kv,h1,h2⟩:=List.mem_map.mp ((hm (.inl o)).mpr ⟨o,ho,rfl⟩);exact List.mem_map.mpr ⟨kv,h1,by rw [h2];rfl⟩
theorem zjk{f:OI->V}{o:OI}(h:o∈each):bJ (cP ((each.map (Sum.inl:OI->Key)).zip (each.map f))) (.inl o)=some (f o):=by
 rw [List.zip_map',ym (f:=λ k:Key=>k.elim f λ _=>.non) (λ p hp=>by obtain ⟨o,_,rfl⟩:=List.mem_map.mp hp;rfl),if_pos]
 ·rfl
 ·rw [List.map_map];exact List.mem_map.mpr ⟨o,h,rfl⟩
abbrev lqV:Str:=uY "marked_values"
abbrev lpV:Pos:=uX lL
inductive xC (t:Ad) (vs:List V) (H:Hp) (Q:VK) (_E:XK):Prop
 | i (a p:Addr) (q:QT) (xs:List OI) (_:vs=[.ref a,.ref p]) (_:QAt H a q) (_:okQ 1 q=true) (_:H p=some (.lst (xs.map ov))) (_:xs.length<=1000) (_:cQ H t.p_marked_values lpV lqV) (_:∀ r H',fF t.p_marked_values H H'->cQ H' t.p_marked_values lpV lqV->H' r=some (.lst ((xs.map q.holds).map V.bl))->Q (.ref r) H')
theorem zdM:(["value"]:List Str).Nodup:=by decide +kernel
theorem zdN:(["value", "found"]:List Str).Nodup:=by decide +kernel
theorem sc_marked_values:aC ["question", "values", "each", "marks", "found"] ["question", "values"] (av lL):=by walk_at "sc"
theorem zdF:(["value", "simple"]:List Str).Nodup:=by decide +kernel
theorem ze8(T:Txt K mg t)(B:fU base mg)(jk:Cal P w K mg base CX0 8 "marked" ["asked", "marks_of"] (rF P w K mg base 6))(ml:Cal P w K mg base CX0 1 "answers" ["simple", "value"] wU)(F:FunC K "marked_values" "marked_values" lL f fd t.gX t.p_marked_values):
  FnOk P w K mg base CX0 9 f fd ["question", "values"] (xC t):=by
 refine F.ok sc_marked_values (λ vs H Q E h=>?_) (λ A outer s H vs Q E hr h=>?_)
 ·obtain ⟨a,l,q,xs,rfl,_⟩:=h;rfl
 ·obtain ⟨a,p,q,xs,rfl,hq,hok,hp,hz,hT,k⟩:=h;have hu:=ge hr;refine ⟨_,(ah (aD (i:=2) sc_marked_values.nd rfl (Or.inr rfl) (ij (tH rfl) (by rfl) T.jK PyProof.Rows.Boot.«list» (aa (ij (zan rfl) (by rfl) T.vD PyProof.Rows.Boot.«dict» (aa (cn (N:=["value"]) (fr:=[none]) ⟨rfl,rfl,rfl,rfl,rfl,rfl⟩ rfl (bN (pv 1))
    (λ C fp s H=>⟨aR (i:=0) zdM rfl (Or.inl rfl),bS,(dM (aa (pv 0) (aa dX ad)))⟩)) ad)) ad)))
  (ah (aD (i:=3) sc_marked_values.nd rfl (Or.inl rfl) (jk.peZ (i:=2) (y := "each") hr ax zi1 (aa (pv 0) (aa (vW rfl rfl F.hd B) ad)) rfl rfl rfl rfl))
  (ah (aD (i:=4) sc_marked_values.nd rfl (Or.inr rfl) (zf0 K rfl (by rfl) T.vD (by rfl) T.jM (aa (pv 2) (aa (pv 3) ad))))
  (ap (ay (cn (N:=["value", "found"]) (fr:=[none,some 4]) ⟨rfl,rfl,rfl,rfl,rfl,rfl⟩ rfl (bN (pv 1))
    (λ C fp s H=>⟨aR (i:=0) zdN rfl (Or.inl rfl),bS,(oJ hu (pv 1) (pv 0) (λ _ _=>rfl))⟩))))))),?_⟩
  refine ⟨_,rfl,p,rfl,⟨_,SqL.of hp⟩,⟨cD (xs:=xs.map ov) (λ i acc H'=>∃ as:List Addr,acc=as.map V.ref/\as.length=i/\Same H H'/\∀ (j:Nat) b o,as[j]?=some b->xs[j]?=some o->H' b=some (.tup [ov o,.bl true])) ⟨[],rfl,rfl,Same.refl _,nofun⟩ ?_ ?_ ?_ ?_⟩⟩
  ·rintro i acc H' hi ⟨as,rfl,rfl,s1,_⟩;exact ⟨SqL.of (s1 _ _ hp),by rw [ae];exact az _⟩
  ·rw [ae];exact aX (aY hz)
  ·rintro i x acc H' hx hlt ⟨as,rfl,hi',s1,hk⟩;rw [ae] at hlt;rw [aH,aG hlt] at hx;cases hx;refine ⟨Wk.set rfl,tT ⟨_,rfl,by show 2<=sizeLine;decide,λ b hb=>cw (by rw [ae];exact hlt) ⟨as++[b],by rw [aE];rfl,by rw [bn,hi'];rfl,aJ s1 hb,λ j b' o e1 e2=>?_⟩⟩⟩;rcases Nat.lt_or_ge j as.length with hj | hj
   ·rw [List.getElem?_append_left hj] at e1;exact Same.new hb _ _ (hk j b' o e1 e2)
   ·rw [List.getElem?_append_right hj] at e1;have:j=as.length:=by have:=(al_gs.mp e1).1;simp at this;omega
    subst this;simp at e1;subst e1;rw [hi',aG hlt] at e2;cases e2;exact ag
  ·rintro acc H' ⟨as,rfl,hl,s1,hk⟩ p1 hp1;rw [ae] at hl;have s2:Same H (upd H' p1 (.lst (as.map V.ref))):=aJ s1 hp1;have hk2:∀ (j:Nat) b o,as[j]?=some b->xs[j]?=some o->(upd H' p1 (.lst (as.map V.ref))) b=some (.tup [ov o,.bl true]):=λ j b o e1 e2=>Same.new hp1 _ _ (hk j b o e1 e2);have hp1:(upd H' p1 (.lst (as.map V.ref))) p1=some (.lst (as.map V.ref)):=ag;generalize upd H' p1 (.lst (as.map V.ref))=H2 at s2 hk2 hp1;refine ⟨p1,as,xs.map λ o=>(.inl o,.bl true),rfl,hp1,by rw [ae,hl],λ i b pr e1 e2=>?_,λ d hd=>⟨d,_,rfl,ag,λ l hl3=>?_⟩⟩
   ·rw [aH] at e2;obtain ⟨o,e3,rfl⟩:=Option.map_eq_some_iff.mp e2;rw [hk2 i b o e1 e3,ovK]
   obtain ⟨each,ee,hin,hlen⟩:=zaO xs;rw [ee];have s4:Same H (upd (upd H2 d (.dK (cP (xs.map λ o=>(.inl o,.bl true))))) l (.lst (each.map ov))):=aJ (aJ s2 hd) hl3;have h4:(upd (upd H2 d (.dK (cP (xs.map λ o=>(.inl o,.bl true))))) l (.lst (each.map ov))) l=some (.lst (each.map ov)):=ag;generalize upd (upd H2 d (.dK (cP (xs.map λ o=>(.inl o,.bl true))))) l (.lst (each.map ov))=H4 at s4 h4;have hT4:=jf hT s4;refine ⟨_,rfl,hT4,λ H5 lm sb hl hT5 LH=>⟨_,rfl,λ oc u hc ed ru=>?_⟩⟩;obtain ⟨ps0,eT,_⟩:=id hT4;have k5:Kt H4 H5:=qX sb eT;obtain ⟨pm,c',ctv,eL,cd⟩:=LH;have h5:H5 l=some (.lst (each.map ov)):=k5.lst h4;generalize s.heap.objs.size+1+1=cc at hc eL ⊢;have s6:Same H5 (upd H5 cc (FrO oc cc)):=Same.new hc;have h6c:(upd H5 cc (FrO oc cc)) cc=some (FrO oc cc):=ag;have k6:Kt H4 (upd H5 cc (FrO oc cc)):=λ b o e=>(k5 b o e).imp (λ e=>s6 b o e) id;have FL:=ut (CX:=CX0) (P:=P) (w:=w) (K:=K) (mg:=mg) (base:=base) eL "simple" 1
    (λ v z H Q E=>∃ (a l:Addr) (s:Sm) (each:List OI),v = .ref a/\z = .ref l/\SmAt H a s/\H l=some (.lst (each.map ov))/\each.length<=1000/\∀ p H2,Same H H2->H2 p=some (.lst ((each.map s.holds).map V.bl))->Q (.ref p) H2)
    ?S zgX (λ A outer s H v z Q E hr h=>?B) (λ us hl=>match us,hl with | [_],_=>rfl)
   case S=>exact ⟨rfl,rfl,rfl,by decide,rfl,by decide,.inr ⟨rfl,λ _ _=>rfl⟩⟩
   case B=>
    refine ⟨_,cn (N:=["value", "simple"]) (fr:=[none,some 0]) ⟨rfl,rfl,rfl,rfl,rfl,rfl⟩ rfl (bN (pv 1)) (λ C fp s H=>⟨aR (i:=0) zdF rfl (Or.inl rfl),bS,ml.pe hr ax (aa (pv 1) (aa (pv 0) ad))⟩),?_⟩;obtain ⟨a,l,q,each,rfl,rfl,ha,hl,hz,k⟩:=h;refine ⟨_,rfl,l,rfl,⟨_,SqL.of hl⟩,⟨cD (K:=K) (xs:=each.map ov) (λ i acc H'=>Same H H'/\acc=((each.take i).map q.holds).map V.bl) ⟨Same.refl _,rfl⟩ ?_ ?_ ?_ ?_⟩⟩
    ·rintro i acc H' hi ⟨s4,rfl⟩;exact ⟨SqL.of (s4 _ _ hl),by simp;omega⟩
    ·rw [ae];exact aX (aY hz)
    ·rintro i x acc H' hx hlt ⟨s4,rfl⟩;have hi:i < each.length:=by rw [ae] at hlt;exact hlt
     rw [aH,aG hi] at hx;cases hx;refine ⟨Wk.set rfl,tT ⟨_,rfl,_,rfl,a,q,each[i],rfl,ha.kt (eO s4),cw hlt ⟨s4,?_⟩⟩⟩;rw [List.take_succ,aG hi,aE,aE];rfl
    ·rintro acc H' ⟨s4,rfl⟩ p hp;refine k p _ (aJ s4 hp) ?_;rw [ag,ae,aZ]
   refine ⟨a,lm,1,q,each,rfl,(hq.kt (eO s4)).kt k6,hok,by decide,by omega,⟨.inr ⟨_,_,_,_,s6 _ _ eL⟩,_,_,_,FL.1,FL.2,λ H7 a' q' Q' E' s7 hq' j=>?_⟩,λ r H7 s7 h7=>?_⟩
   ·have h7c:=s7 _ _ h6c;refine ⟨.ref a',.ref l,oc,u,rfl,⟨s7 _ _ (s6 _ _ eL),CdH.same (CdH.same cd s6) s7⟩,h7c,ed,ru,a',l,q',each,rfl,rfl,hq'.kt (iN h7c),(iN h7c).lst (s7 _ _ (s6 _ _ h5)),by omega,λ p8 H8 s8 h8 n8=>j p8 _ (qT s8 h7c) ?_⟩;rw [aj λ z=>?_]
    ·exact h8
    rw [z,n8] at h8;cases h8
   have h7l:H7 l=some (.lst (each.map ov)):=s7 _ _ (s6 _ _ h5);have h7c:=s7 _ _ h6c;have s8:=wK s7 hc;have hT8:=jf hT5 s8;have h8r:(del H7 cc) r=some (.lst ((each.map q.holds).map V.bl)):=(iN h7c).lst h7;have h8l:(del H7 cc) l=some (.lst (each.map ov)):=(iN h7c).lst h7l;have h8p:(del H7 cc) p=some (.lst (xs.map ov)):=(iN h7c).lst (s7 _ _ (s6 _ _ (k5.lst (s4 _ _ hp))));have sb8:fF t.p_marked_values H (del H7 cc):=λ b o nb e=>s8 b o (sb b o nb (s4 b o e));show cU _ _ _ _ _;generalize del H7 cc=H8 at s8 hT8 h8r h8l h8p sb8;refine ⟨_,rfl,_,rfl,l,r,each.map Sum.inl,(each.map q.holds).map V.bl,rfl,?_,SqL.of h8r,by simp,λ d hd=>⟨_,rfl,p,rfl,⟨_,SqL.of (Same.new hd _ _ h8p)⟩,?_⟩⟩
   ·rw [List.map_map];exact SqL.of (h8l.trans (by rw [List.map_congr_left λ o _=>ovK o];rfl))
   have s9:Same H8 (upd H8 d (.dK (cP ((each.map Sum.inl).zip ((each.map q.holds).map V.bl))))):=Same.new hd;have h9:(upd H8 d (.dK (cP ((each.map Sum.inl).zip ((each.map q.holds).map V.bl))))) d=some (.dK (cP ((each.map Sum.inl).zip ((each.map q.holds).map V.bl)))):=ag;generalize upd H8 d (.dK (cP ((each.map Sum.inl).zip ((each.map q.holds).map V.bl))))=H9 at s9 h9;rw [List.map_map] at h9;refine ⟨cD (K:=K) (xs:=xs.map ov) (λ i acc H'=>Same H9 H'/\acc=((xs.take i).map q.holds).map V.bl) ⟨Same.refl _,rfl⟩ ?_ ?_ ?_ ?_⟩
   ·rintro i acc H' hi ⟨s4,rfl⟩;exact ⟨SqL.of (s4 _ _ (s9 _ _ h8p)),by simp;omega⟩
   ·rw [ae];exact aX (aY hz)
   ·rintro i x acc H' hx hlt ⟨s4,rfl⟩;have hi:i < xs.length:=by rw [ae] at hlt;exact hlt
    rw [aH,aG hi] at hx;cases hx;refine ⟨Wk.set rfl,tT ⟨_,rfl,_,rfl,d,.bl (q.holds xs[i]),rfl,?_,cw hlt ⟨s4,?_⟩⟩⟩
    ·have:=DGet.k (k:=.inl xs[i]) (s4 _ _ h9);rw [zjk (f:=V.bl ∘ q.holds) (hin _ (List.getElem_mem hi)),← ovK] at this;exact this
    rw [List.take_succ,aG hi,aE,aE];rfl
   ·rintro acc H' ⟨s4,rfl⟩ r' hr';have s5:=aJ (o:=.lst (((xs.take (xs.map ov).length).map q.holds).map V.bl)) (s9.trans s4) hr';refine k r' _ (λ b o nb e=>s5 b o (sb8 b o nb e)) (jf hT8 s5) ?_;rw [ag,ae,aZ]
def bD(f:OI->Bool):Nat->List OI->List (Nat × OI)
 | _,[]=>[]
 | b,x::r=>if f x=true then (b,x)::bD f (b+1) r else bD f (b+1) r
theorem nY(f:OI->Bool):∀ (b:Nat) (xs ys:List OI),bD f b (xs++ys)=bD f b xs++bD f (b+xs.length) ys
 | b,[],ys=>rfl
 | b,x::r,ys=>by
  rw [List.cons_append,bD,bD,nY f (b+1) r ys,bY,show b+1+r.length=b+(r.length+1) by omega];cases f x <;> rfl
theorem gx(f:OI->Bool):∀ (b:Nat) (xs:List OI),(bD f b xs).length<=xs.length
 | _,[]=>az _
 | b,x::r=>by
  have:=gx f (b+1) r;rw [bD,bY];cases f x
  ·exact Nat.le_succ_of_le this
  ·exact Nat.succ_le_succ this
theorem uK(f:OI->Bool)(b:Nat)(xs:List OI)(x:OI):bD f b (xs++[x])=bD f b xs++if f x=true then [(b+xs.length,x)] else []:=by
 rw [nY];rfl
def AnsAt(H:Hp):List Addr->List (Nat × OI)->Prop
 | [],[]=>True
 | a::as,p::ps=>H a=some (.tup [.int p.1,ov p.2])/\AnsAt H as ps
 | _,_=>False
theorem AnsAt.len{H:Hp}:∀ {as:List Addr} {ps:List (Nat × OI)},AnsAt H as ps->as.length=ps.length
 | [],[],_=>rfl
 | _::as,_::ps,h=>congrArg (· + 1) (AnsAt.len h.2)
theorem AnsAt.kt{H H':Hp}(k:∀ b xs,H b=some (.tup xs)->H' b=some (.tup xs)):∀ {as:List Addr} {ps:List (Nat × OI)},AnsAt H as ps->AnsAt H' as ps
 | [],[],_=>trivial
 | _::as,_::ps,h=>⟨k _ _ h.1,AnsAt.kt k h.2⟩
theorem AnsAt.app{H:Hp}{bs:List Addr}{qs:List (Nat × OI)}(g:AnsAt H bs qs):∀ {as:List Addr} {ps:List (Nat × OI)},AnsAt H as ps->AnsAt H (as++bs) (ps++qs)
 | [],[],_=>g
 | _::as,_::ps,h=>⟨h.1,AnsAt.app g h.2⟩
theorem AnsAt.get{H:Hp}:∀ {as:List Addr} {ps:List (Nat × OI)} {i:Nat} {a:Addr},AnsAt H as ps->as[i]?=some a->∃ p,ps[i]?=some p/\H a=some (.tup [.int p.1,ov p.2])
 | _::as,p::ps,0,_,h,e=>by cases e;exact ⟨p,rfl,h.1⟩
 | _::as,_::ps,i+1,_,h,e=>AnsAt.get (i:=i) h.2 e
theorem rX{p':Addr}{ps':Array Value}(x:cQ H p pos q)(s:fF p' H H')(e:H p'=some (.tbl ps'))(n:p≠p'):cQ H' p pos q:=by
 obtain ⟨ps,e1,t1,h⟩:=x;refine ⟨ps,s _ _ n e1,t1,h.imp id λ ⟨c,e2,h⟩=>⟨c,e2,?_⟩⟩;obtain ⟨oc,vs,t,e3,r⟩:=h;exact ⟨oc,vs,t,s _ _ (λ z=>by rw [z,e] at e3;cases e3) e3,r⟩
theorem lX{xs:List V}(x:cQ H p pos q)(e:H l=some (.lst xs)):cQ (upd H l o) p pos q:=by
 obtain ⟨ps,e1,t1,h⟩:=x;refine ⟨ps,by rw [aj λ z=>by rw [z,e] at e1;cases e1];exact e1,t1,h.imp id λ ⟨c,e2,h⟩=>⟨c,e2,?_⟩⟩;obtain ⟨oc,vs,t,e3,r⟩:=h;exact ⟨oc,vs,t,by rw [aj λ z=>by rw [z,e] at e3;cases e3];exact e3,r⟩
def Tbs(t:Ad)(H:Hp):Prop:=cQ H t.p_check_question_of lpC lqC/\cQ H t.p_marked_values lpV lqV
def Sb2(t:Ad)(H H':Hp):Prop:=∀ b o,b≠t.p_check_question_of->b≠t.p_marked_values->H b=some o->H' b=some o
theorem Tbs.same(h:Tbs t H)(s:Same H H'):Tbs t H':=⟨jf h.1 s,jf h.2 s⟩
theorem Sb2.same(h:Sb2 t H H')(s:Same H' H2):Sb2 t H H2:=λ b o n1 n2 e=>s b o (h b o n1 n2 e)
theorem Sb2.trans(h:Sb2 t H H')(s:Sb2 t H' H2):Sb2 t H H2:=λ b o n1 n2 e=>s b o n1 n2 (h b o n1 n2 e)
theorem Sb2.kt(h:Sb2 t H H')(T:Tbs t H):Kt H H':=λ b o e=>by
 obtain ⟨⟨p1,e1,_⟩,p2,e2,_⟩:=T;by_cases n1:b=t.p_check_question_of
 ·subst n1;rw [e1] at e;cases e;exact .inr (.inl ⟨_,rfl⟩)
 by_cases n2:b=t.p_marked_values
 ·subst n2;rw [e2] at e;cases e;exact .inr (.inl ⟨_,rfl⟩)
 exact .inl (h b o n1 n2 e)
theorem Kt.ins(k:Kt H H'){fs:List (Str × V)}(e:H a=some (.ins C dx fs)):H' a=some (.ins C dx fs):=(k a _ e).elim id λ z=>by rcases z with ⟨_,z⟩ | ⟨_,_,z⟩ <;> cases z
inductive lO (t:Ad) (vs:List V) (H:Hp) (Q:VK) (E:XK):Prop
 | i (c a:Addr) (q:QT) (xs:List OI) (_:vs=[.ref c,.ref a]) (_:ColAt t.bi H c xs) (_:okC xs=true) (_:QAt H a q) (_:Tbs t H) (_:(okQ 1 q=true->∀ l as H',Sb2 t H H'->Tbs t H'->H' l=some (.lst (as.map V.ref))->AnsAt H' as (bD q.holds 0 xs)->Q (.ref l) H')) (_:(okQ 1 q=false->∀ H',Sb2 t H H'->Tbs t H'->E (.ref t.dP) none H'))
theorem vw:(["place", "mark", "begin", "block"]:List Str).Nodup:=by decide +kernel
theorem sc_Column_answering:aC ["self", "question", "found", "begin", "kind", "block", "marks"] ["self", "question"] (av oW):=by walk_at "sc"
theorem zeh(T:Txt K mg t)(ne:t.p_check_question_of≠t.p_marked_values)(ms:Cal P w K mg base (CXr P w) 13 "check_question" ["question"] (xc t))(fV:Cal P w K mg base CX0 9 "unpacked" ["bits"] lU)(mD:Cal P w K mg base CX0 9 "marked_values" ["question", "values"] (xC t))(F:Fun K "answering" "Column.answering" oW f fd):FnOk P w K mg base (CXr P w) 14 f fd ["self", "question"] (lO t):=by
 refine F.okX sc_Column_answering (λ vs H Q E h=>?_) (λ cdv A outer s H vs Q E hr h=>?_)
 ·obtain ⟨c,a,q,xs,rfl,_⟩:=h;rfl
 ·obtain ⟨c,a,q,xs,rfl,hC,ok,hq,hT,k1,k2⟩:=h;have hl:=gD ok;have hcl:=kK xs;have hu:=ge hr;refine ⟨_,(ah (ci (ms.pe hr c5 (aa (pv 1) ad)))
  (ah (aD (i:=2) sc_Column_answering.nd rfl (Or.inl rfl) (bR ad))
  (ah (aD (i:=3) sc_Column_answering.nd rfl (Or.inr rfl) af)
  (ah (PS.nox (eD PassesOwn.never rfl (bN (fV.pe hr ax (aa (eK K (pv 0) rfl) ad))) (fg K (n:=2) rfl (cK (aR (i:=4) sc_Column_answering.nd rfl (Or.inl rfl)) (cK (aR (i:=5) sc_Column_answering.nd rfl (Or.inr rfl)) fh)))
   (ah (aD (i:=6) sc_Column_answering.nd rfl (Or.inl rfl) (mD.pe hr ax (aa (pv 1) (aa (pv 5) ad))))
  (ah (ci (cu K PySem.F.plainAttrs_list PySem.F.slot_list_extend PySem.F.type_list_extend oq (pv 2) (aa (cn (N:=["place", "mark", "begin", "block"]) (fr:=[none,none,some 3,some 5]) ⟨rfl,rfl,rfl,rfl,rfl,rfl⟩ rfl (zf7 K (by rfl) T.zdW (aa (pv 6) ad))
    (λ C fp s H=>⟨fg K (n:=2) rfl (cK (aR (i:=0) vw rfl (Or.inl rfl)) (cK (aR (i:=1) vw rfl (Or.inl rfl)) fh)),(fz (dE (pv 1))),(dM (aa (ak a7 (pv 2) (pv 0)) (aa (aP (bq K) (pv 3) (pv 0) (λ _ _=>rfl)) ad)))⟩)) ad)))
  (ap (wc (i:=3) sc_Column_answering.nd rfl (Or.inr rfl) (aM (bQ K) (by rfl) T.bv PyProof.Rows.Boot.«len» (aa (pv 5) ad)) uO))))))
  (ap (ay (pv 2))))))),?_⟩
  refine ⟨_,rfl,a,q,rfl,hq,hT.1,λ z H1 sb hT1=>?_,λ z H1 sb hT1=>k2 z H1 (λ b o n1 _ e=>sb b o n1 e) ⟨hT1,?_⟩⟩
  ·obtain ⟨⟨ps0,eT,_⟩,_⟩:=id hT;have hT1:Tbs t H1:=⟨hT1,rX hT.2 sb eT ne.symm⟩
   have kH1:Kt H H1:=qX sb eT;have sb:Sb2 t H H1:=λ b o n1 _ e=>sb b o n1 e;obtain ⟨dx,hC⟩:=hC;have hC:=kH1.ins hC;have hq:=hq.kt kH1;clear kH1 eT hT;refine ⟨aO rfl,λ l hln=>?_⟩;have s1:Same H1 (upd H1 l (.lst [])):=Same.new hln;have h1:(upd H1 l (.lst [])) l=some (.lst []):=ag;show dS _ _ _ (upd H1 l (.lst [])) _;generalize upd H1 l (.lst [])=H2 at s1 h1;have hT2:=hT1.same s1;have hC:=s1 _ _ hC;refine ⟨_,rfl,c,_,dx,_,_,rfl,hC,T.cC,T.jo,rfl,ei xs,?_,kL ok,by rw [iM];exact r8 ok,λ lt H3 s3 hlt F3=>?_⟩
   ·rw [iM];rfl
   obtain ⟨as,a1,a2,a3,a4⟩:=F3;have hfl:=tQ xs;have hok:=kL ok;generalize ei xs=bl at hcl hfl hok a2 a3;have hT3:=hT2.same s3;have h3:=s3 _ _ h1;have nl1:∀ a∈as,a.1≠l/\a.2≠l:=λ a ha=>by
    obtain ⟨n1,n2⟩:=a4 a ha;exact ⟨λ z=>(by rw [z,h1] at n1;cases n1),λ z=>(by rw [z,h1] at n2;cases n2)⟩
   have nlt:lt≠l:=λ z=>by rw [z,h1] at hlt;cases hlt
   have nlp:l≠t.p_marked_values:=λ z=>by obtain ⟨_,_,e,_⟩:=hT3;rw [← z,h3] at e;cases e
   have nlq:l≠t.p_check_question_of:=λ z=>by obtain ⟨⟨_,e,_⟩,_⟩:=hT3;rw [← z,h3] at e;cases e
   refine ⟨lt,rfl,⟨_,SqL.of a1⟩,⟨gw (K:=K) (a:=lt) (xs:=as.map λ a=>V.ref a.1) (λ k σ H'=>∃ (v4 v5 v6:Option V) (as':List Addr),σ=[some (.ref c),some (.ref a),some (.ref l),some (.int (((bl.take k).map (·.2)).flatten.length:Nat)),v4,v5,v6]/\(∀ b o,b≠l->b≠t.p_marked_values->H3 b=some o->H' b=some o)/\Tbs t H'/\H' l=some (.lst (as'.map V.ref))/\AnsAt H' as' (bD q.holds 0 ((bl.take k).map (·.2)).flatten))
    ⟨none,none,none,[],rfl,λ b o _ _ e=>e,hT3,h3,trivial⟩ ?_ ?_ ?_⟩⟩
   ·rintro k σ H' hk ⟨_,_,_,_,_,h,_⟩;exact SqL.of (h _ _ nlt (λ z=>by obtain ⟨_,_,e,_⟩:=hT3;rw [← z,a1] at e;cases e) a1)
   ·rintro k y σ H4 hy ⟨v4,v5,v6,as',rfl,k4,hT4,g4,ans⟩;have hka:k < as.length:=by
     have:=(al_gs.mp hy).1
     rwa [ae] at this
    rw [aH,aG hka] at hy;cases hy;have ec:bl[k]?=some (bl[k]'(by omega)):=aG (by omega);obtain ⟨z1,z2⟩:=a3 k as[k] _ (aG hka) ec;obtain ⟨n1,n2⟩:=nl1 _ (List.getElem_mem hka);obtain ⟨_,_,e3,_⟩:=id hT3;have z1:=k4 _ _ n1 (λ z=>by rw [z,e3] at z1;cases z1) z1;have z2:=k4 _ _ n2 (λ z=>by rw [z,e3] at z2;cases z2) z2;have hok:=(ff (hok _ (List.getElem_mem (by omega:k < bl.length))).1).2;have tk:bl.take (k+1)=bl.take k++[bl[k]'(by omega)]:=by rw [cL,ec];rfl
    have hfl4:(((bl.take (k+1)).map (·.2)).flatten).length<=xs.length:=by
     conv=>rhs;rw [← hfl,← List.take_append_drop (k+1) bl,aE,List.flatten_append,bn]
     exact Nat.le_add_right _ _
    have tk2:((bl.take (k+1)).map (·.2)).flatten=((bl.take k).map (·.2)).flatten++(bl[k]'(by omega)).2:=by rw [tk,aE,List.flatten_append];simp
    rw [tk2,bn] at hfl4;rw [tk2];generalize ((bl.take k).map (·.2)).flatten=fl at ans hfl4 ⊢;generalize bl[k].2=blk at z2 hok hfl4 ⊢;have hq4:QAt H4 a q:=hq.kt λ b o e=>by
     by_cases n:b=t.p_marked_values
     ·subst n;have:=s3 _ _ (s1 _ _ e);rw [e3] at this;cases this;exact .inr (.inl ⟨_,rfl⟩)
     ·exact .inl (k4 b o (aI e hln) n (s3 _ _ (s1 _ _ e)))
    refine ⟨as[k].1,_,rfl,SqT.of z1,rfl,_,_,rfl,_,_,rfl,rfl,?_⟩;refine ⟨_,rfl,_,rfl,a,as[k].2,q,blk,rfl,hq4,z,z2,by omega,hT4.2,λ r H5 sb5 hT5 h5=>?_⟩;have z5:H5 as[k].2=some (.lst (blk.map ov)):=sb5 _ _ (λ z=>by obtain ⟨_,_,e,_⟩:=hT4;rw [← z,z2] at e;cases e) z2;have g5:H5 l=some (.lst (as'.map V.ref)):=sb5 _ _ nlp g4;have hT5:Tbs t H5:=by
     obtain ⟨_,_,e,_⟩:=id hT4;exact ⟨rX hT4.1 sb5 e ne,hT5⟩
    have ans5:AnsAt H5 as' (bD q.holds 0 fl):=ans.kt λ b ys e=>sb5 b _ (λ z=>by obtain ⟨_,_,e4,_⟩:=id hT4;rw [← z,e] at e4;cases e4) e;have k5:∀ b o,b≠l->b≠t.p_marked_values->H3 b=some o->H5 b=some o:=λ b o n1 n2 e=>sb5 b o n2 (k4 b o n1 n2 e);clear sb5 ans g4 hT4 k4 z2 hq4;have hnf:=gx q.holds 0 fl;have hnl:=ans5.len;refine ⟨_,rfl,.inl ⟨rfl,_,SqL.of g5⟩,_,rfl,r,_,rfl,SqL.of h5,zaC (n:=blk.length) (λ i acc H'=>∃ bs:List Addr,acc=bs.map V.ref/\Same H5 H'/\AnsAt H' bs (bD q.holds fl.length (blk.take i))) ⟨[],rfl,Same.refl _,trivial⟩ ?_ (aX (aY (by omega))) ?_ ?_⟩
    ·rintro i acc H6 hi ⟨bs,rfl,s6,ab⟩;have:=gx q.holds fl.length (blk.take i);rw [bc] at this;have l2:=ab.len;refine ⟨by rw [ae];omega,λ hi=>⟨_,_,SqL.of (s6 _ _ h5),by rw [aH,aH,aG hi];rfl⟩,λ hi=>⟨_,SqL.of (s6 _ _ h5),by rw [ae,ae];exact hi⟩⟩
    ·rintro i x acc H6 H7 hi ⟨bs,rfl,s6,ab⟩ ⟨T',hT',rfl,hy⟩;obtain ⟨y,ey,rfl⟩:=hy _ (SqL.of (s6 _ _ h5));rw [aH,aH,aG hi] at ey;cases ey;refine ⟨T',_,rfl,SqT.of ag,rfl,_,_,rfl,_,_,rfl,rfl,(Wk.set rfl).trans (Wk.set rfl),_,rfl,?_⟩;refine ⟨_,rfl,?_⟩;have tki:blk.take (i+1)=blk.take i++[blk[i]]:=by rw [cL,aG hi];rfl
     have ht:=uK q.holds fl.length (blk.take i) blk[i];rw [← tki,bc,Nat.min_eq_left (aX hi)] at ht;have s7:=aJ (o:=.tup [.int i,.bl (q.holds blk[i])]) s6 hT';have ab7:=ab.kt λ b ys e=>Same.new (o:=.tup [.int i,.bl (q.holds blk[i])]) hT' b _ e;generalize upd H6 T' (.tup [.int i,.bl (q.holds blk[i])])=H7 at s7 ab7 ⊢;cases e:q.holds blk[i] with
     | false=>
      refine au (cw hi ⟨bs,rfl,s7,?_⟩);rw [ht,e];simpa using ab7
     | true=>
      refine aA ⟨_,rfl,_,rfl,_,_,rfl,rfl,_,rfl,_,rfl,as[k].2,_,_,_,rfl,rfl,SqL.of (s7 _ _ z5),ef (by rw [aH,aG hi];rfl),by show 2<=sizeLine;decide,λ b hb=>cw hi ⟨bs++[b],by rw [aE];rfl,aJ s7 hb,?_⟩⟩;rw [ht,e];refine AnsAt.app ?_ (ab7.kt λ b' ys e=>Same.new hb b' _ e);exact ⟨ag,trivial⟩
    ·rintro acc H6 ⟨bs,rfl,s6,ab⟩ p hp;rw [aZ] at ab;have hbl:=gx q.holds fl.length blk;have hbs:=ab.len;have s7:=aJ (o:=.lst (bs.map V.ref)) s6 hp;have ab7:=ab.kt λ b ys e=>Same.new (o:=.lst (bs.map V.ref)) hp b _ e;have h7:(upd H6 p (.lst (bs.map V.ref))) p=some (.lst (bs.map V.ref)):=ag;generalize upd H6 p (.lst (bs.map V.ref))=H7 at s7 ab7 h7 ⊢;have g7:=s7 _ _ g5;have n2:as[k].2≠l:=n2;refine ⟨l,p,_,_,rfl,rfl,g7,h7,?_,_,rfl,_,rfl,as[k].2,blk.map ov,rfl,.inl (SqL.of ?_),_,_,rfl,rfl,some (.str (kindsS.getD bl[k].1 "")),some (.ref as[k].2),some (.ref r),as' ++ bs,?_,λ b o n1 n2 e=>?_,⟨lX (hT5.same s7).1 g7,lX (hT5.same s7).2 g7⟩,?_,?_⟩
     ·rw [ae,ae];exact aX (aY (by omega))
     ·rw [aj n2];exact s7 _ _ z5
     ·rw [ae,bn];rfl
     ·rw [aj n1];exact s7 _ _ (k5 b o n1 n2 e)
     ·rw [ag,aE]
     ·rw [nY,Nat.zero_add];have kt:∀ b ys,H7 b=some (.tup ys)->upd H7 l (.lst (as'.map V.ref++bs.map V.ref)) b=some (.tup ys):=λ b ys e=>by
       rw [aj λ z=>by rw [z,g7] at e;cases e];exact e
      exact AnsAt.app (ab7.kt kt) ((ans5.kt λ b ys e=>s7 b _ e).kt kt)
   ·rintro σ H4 ⟨v4,v5,v6,as',rfl,k4,hT4,g4,ans⟩;rw [ae,a2,aZ,hfl] at ans;refine ⟨_,rfl,k1 z l as' H4 (λ b o n1 n2 e=>?_) hT4 g4 ans⟩;have e:=sb b o n1 n2 e;exact k4 b o (aI e hln) n2 (s3 _ _ (s1 _ _ e))
  ·obtain ⟨⟨ps0,eT,_⟩,_⟩:=id hT;exact rX hT.2 sb eT ne.symm
theorem Sb2.free(sb:Sb2 t H H1)(T:Tbs t H1)(h:H1 l=none):H l=none:=by
 cases e:H l with
 | none=>rfl
 | some o=>
  obtain ⟨⟨p1,e1,_⟩,p2,e2,_⟩:=T;have:=sb l o (λ z=>by rw [z,e1] at h;cases h) (λ z=>by rw [z,e2] at h;cases h) e;rw [h] at this;cases this
def numsOf(ps:List (Nat × OI)):List Int:=ps.filterMap (·.2)
theorem vK(ps:List (Nat × OI)):(numsOf ps).length<=ps.length:=List.length_filterMap_le ..
inductive spA (t:Ad) (R:Hp->List (Nat × OI)->V->Hp->Prop) (vs:List V) (H:Hp) (Q:VK) (E:XK):Prop
 | i (c a:Addr) (q:QT) (xs:List OI) (_:vs=[.ref c,.ref a]) (_:ColAt t.bi H c xs) (_:okC xs=true) (_:QAt H a q) (_:Tbs t H) (_:(okQ 1 q=true->∀ v H',Sb2 t H H'->Tbs t H'->R H (bD q.holds 0 xs) v H'->Q v H')) (_:(okQ 1 q=false->∀ H',Sb2 t H H'->Tbs t H'->E (.ref t.dP) none H'))
inductive oP (_:Hp) (ps:List (Nat × OI)) (v:V) (H:Hp):Prop
 | i (l:_) (_:v = .ref l) (_:H l=some (.lst ((numsOf ps).map V.int)))
inductive wx (H0:Hp) (ps:List (Nat × OI)) (v:V) (H:Hp):Prop
 | i (l:_) (_:v = .ref l) (_:H l=some (.lst ((ps.map λ p=>(p.1:Int)).map V.int))) (_:H0 l=none)
def wt(_:Hp)(ps:List (Nat × OI))(v:V)(H:Hp):Prop:=v = .int ps.length
def wA(_:Hp)(ps:List (Nat × OI))(v:V)(H:Hp):Prop:=v = .int (numsOf ps).sum
theorem vy:(["row", "value"]:List Str).Nodup:=by decide +kernel
theorem zhg:aC ["self", "question"] ["self", "question"] (av o4):=by walk_at "sc"
theorem zfa(T:Txt K mg t)(CA:bF P w K mg base (CXr P w) 14 t.bi "answering" ["self", "question"] (lO t))(F:Fun K "numbers_answering" "Column.numbers_answering" o4 f fd):
  FnOk P w K mg base (CXr P w) 15 f fd ["self", "question"] (spA t oP):=by
 obtain ⟨uk,um,jm,jH,jt⟩:=CA;refine F.okX zhg (λ vs H Q E h=>?_) (λ cdv A outer s H vs Q E hr h=>?_)
 ·obtain ⟨c,a,q,xs,rfl,_⟩:=h;rfl
 ·obtain ⟨c,a,q,xs,rfl,⟨dx,hC⟩,ok,hq,hT,k1,k2⟩:=h;have hl:=gD ok;have hu:=ge hr;refine ⟨_,(ap (ay (cn (N:=["row", "value"]) (fr:=[none,none]) ⟨rfl,rfl,rfl,rfl,rfl,rfl⟩ rfl (bN (cp (pv 0) T.cC jH jm (hr.mono (by decide)) jt .nil c5 (aa (pv 1) ad)))
    (λ C fp s H=>⟨fg K (n:=2) rfl (cK (aR (i:=0) vy rfl (Or.inl rfl)) (cK (aR (i:=1) vy rfl (Or.inl rfl)) fh)),(fz (aF gF (pv 1) bx (aB _))),(pv 1)⟩)))),?_⟩
  refine ⟨_,rfl,c,dx,_,rfl,hC,rfl,_,rfl,c,a,q,xs,rfl,⟨dx,hC⟩,ok,hq,hT,λ z l as H1 sb hT1 h1 ans=>?_,k2⟩;have hps:=gx q.holds 0 xs;have k1:=k1 z;generalize bD q.holds 0 xs=ps at ans k1 hps;have hal:=ans.len;refine ⟨l,rfl,⟨_,SqL.of h1⟩,⟨cD (K:=K) (xs:=as.map V.ref) (λ i acc H'=>Same H1 H'/\acc=(numsOf (ps.take i)).map V.int) ⟨Same.refl _,rfl⟩ ?_ ?_ ?_ ?_⟩⟩
  ·rintro i acc H' hi ⟨s4,rfl⟩;have:=vK (ps.take i);rw [bc] at this;exact ⟨SqL.of (s4 _ _ h1),by rw [ae];omega⟩
  ·rw [ae];exact aX (aY (by omega))
  ·rintro i x acc H' hx hlt ⟨s4,rfl⟩;have hi:i < as.length:=by rw [ae] at hlt;exact hlt
   rw [aH,aG hi] at hx;cases hx;obtain ⟨p,ep,ha⟩:=ans.get (aG hi);have tk:numsOf (ps.take (i+1))=numsOf (ps.take i)++numsOf [p]:=by rw [cL,ep];exact List.filterMap_append
   refine ⟨as[i],_,rfl,SqT.of (s4 _ _ ha),rfl,_,_,rfl,_,_,rfl,rfl,(Wk.set rfl).trans (Wk.set rfl),_,rfl,?_⟩;obtain ⟨n,o⟩:=p;refine ⟨rfl,_,rfl,?_⟩;cases o with
   | none=>exact au (cw hlt ⟨s4,by rw [tk];exact congrArg _ (List.append_nil _).symm⟩)
   | some x=>exact aA ⟨_,rfl,cw hlt ⟨s4,by rw [tk,aE];rfl⟩⟩
  ·rintro acc H' ⟨s4,rfl⟩ p hp;refine k1 _ _ (sb.same (aJ s4 hp)) (hT1.same (aJ s4 hp)) ⟨p,rfl,?_⟩;rw [ag,ae,hal,aZ]
theorem vz:(["row", "value"]:List Str).Nodup:=by decide +kernel
theorem zhh:aC ["self", "question"] ["self", "question"] (av o5):=by walk_at "sc"
theorem zfo(T:Txt K mg t)(CA:bF P w K mg base (CXr P w) 14 t.bi "answering" ["self", "question"] (lO t))(F:Fun K "rows" "Column.rows" o5 f fd):
  FnOk P w K mg base (CXr P w) 15 f fd ["self", "question"] (spA t wx):=by
 obtain ⟨uk,um,jm,jH,jt⟩:=CA;refine F.okX zhh (λ vs H Q E h=>?_) (λ cdv A outer s H vs Q E hr h=>?_)
 ·obtain ⟨c,a,q,xs,rfl,_⟩:=h;rfl
 ·obtain ⟨c,a,q,xs,rfl,⟨dx,hC⟩,ok,hq,hT,k1,k2⟩:=h;have hl:=gD ok;have hu:=ge hr;refine ⟨_,(ap (ay (cn (N:=["row", "value"]) (fr:=[none,none]) ⟨rfl,rfl,rfl,rfl,rfl,rfl⟩ rfl (bN (cp (pv 0) T.cC jH jm (hr.mono (by decide)) jt .nil c5 (aa (pv 1) ad)))
    (λ C fp s H=>⟨fg K (n:=2) rfl (cK (aR (i:=0) vz rfl (Or.inl rfl)) (cK (aR (i:=1) vz rfl (Or.inl rfl)) fh)),bS,(pv 0)⟩)))),?_⟩
  refine ⟨_,rfl,c,dx,_,rfl,hC,rfl,_,rfl,c,a,q,xs,rfl,⟨dx,hC⟩,ok,hq,hT,λ z l as H1 sb hT1 h1 ans=>?_,k2⟩;have hps:=gx q.holds 0 xs;have k1:=k1 z;generalize bD q.holds 0 xs=ps at ans k1 hps;have hal:=ans.len;refine ⟨l,rfl,⟨_,SqL.of h1⟩,⟨cD (K:=K) (xs:=as.map V.ref) (λ i acc H'=>Same H1 H'/\acc=((ps.take i).map λ p=>(p.1:Int)).map V.int) ⟨Same.refl _,rfl⟩ ?_ ?_ ?_ ?_⟩⟩
  ·rintro i acc H' hi ⟨s4,rfl⟩;exact ⟨SqL.of (s4 _ _ h1),by rw [ae,ae,bc];exact Nat.min_le_left ..⟩
  ·rw [ae];exact aX (aY (by omega))
  ·rintro i x acc H' hx hlt ⟨s4,rfl⟩;have hi:i < as.length:=by rw [ae] at hlt;exact hlt
   rw [aH,aG hi] at hx;cases hx;obtain ⟨p,ep,ha⟩:=ans.get (aG hi);refine ⟨as[i],_,rfl,SqT.of (s4 _ _ ha),rfl,_,_,rfl,_,_,rfl,rfl,(Wk.set rfl).trans (Wk.set rfl),tT ⟨_,rfl,cw hlt ⟨s4,?_⟩⟩⟩;rw [cL,ep,aE,aE];rfl
  ·rintro acc H' ⟨s4,rfl⟩ p hp;refine k1 _ _ (sb.same (aJ s4 hp)) (hT1.same (aJ s4 hp)) ⟨p,rfl,?_,sb.free hT1 (s4.free hp)⟩;rw [ag,ae,hal,aZ]
theorem zhd:aC ["self", "question"] ["self", "question"] (av oZ):=by walk_at "sc"
theorem ze6(T:Txt K mg t)(CA:bF P w K mg base (CXr P w) 14 t.bi "answering" ["self", "question"] (lO t))(F:Fun K "how_many" "Column.how_many" oZ f fd):
  FnOk P w K mg base (CXr P w) 15 f fd ["self", "question"] (spA t wt):=by
 obtain ⟨uk,um,jm,jH,jt⟩:=CA;refine F.okX zhd (λ vs H Q E h=>?_) (λ cdv A outer s H vs Q E hr h=>?_)
 ·obtain ⟨c,a,q,xs,rfl,_⟩:=h;rfl
 ·obtain ⟨c,a,q,xs,rfl,⟨dx,hC⟩,ok,hq,hT,k1,k2⟩:=h;refine ⟨_,(ap (ay (aM (bQ K) (by rfl) T.bv PyProof.Rows.Boot.«len» (aa (cp (pv 0) T.cC jH jm (hr.mono (by decide)) jt .nil c5 (aa (pv 1) ad)) ad)))),?_⟩;refine ⟨_,rfl,c,dx,_,rfl,hC,rfl,_,rfl,c,a,q,xs,rfl,⟨dx,hC⟩,ok,hq,hT,λ z l as H1 sb hT1 h1 ans=>?_,k2⟩;refine ⟨l,_,rfl,.inl (SqL.of h1),k1 z _ _ sb hT1 ?_⟩;show V.int _=_;rw [ae,ans.len]
theorem zhk:aC ["self", "question"] ["self", "question"] (av o8):=by walk_at "sc"
theorem zfA(T:Txt K mg t)(CN:bF P w K mg base (CXr P w) 15 t.bi "numbers_answering" ["self", "question"] (spA t oP))(F:Fun K "total" "Column.total" o8 f fd):
  FnOk P w K mg base (CXr P w) 16 f fd ["self", "question"] (spA t wA):=by
 obtain ⟨zaT,zaV,mO,oi,mZ⟩:=CN;refine F.okX zhk (λ vs H Q E h=>?_) (λ cdv A outer s H vs Q E hr h=>?_)
 ·obtain ⟨c,a,q,xs,rfl,_⟩:=h;rfl
 ·obtain ⟨c,a,q,xs,rfl,⟨dx,hC⟩,ok,hq,hT,k1,k2⟩:=h;refine ⟨_,(ap (ay (aM (tK K rfl) (by rfl) T.vI PyProof.Rows.Boot.«sum» (aa (cp (pv 0) T.cC oi mO (hr.mono (by decide)) mZ .nil c5 (aa (pv 1) ad)) ad)))),?_⟩;refine ⟨_,rfl,c,dx,_,rfl,hC,rfl,_,rfl,c,a,q,xs,rfl,⟨dx,hC⟩,ok,hq,hT,λ z v H1 sb hT1 ⟨l,e,h1⟩=>?_,k2⟩;subst e;exact ⟨l,_,rfl,SqL.of h1,k1 z _ _ sb hT1 rfl⟩
def wp(_:Hp)(ps:List (Nat × OI))(v:V)(H:Hp):Prop:=(numsOf ps=[]/\v = .non)\/∃ (l:Addr) (m M:Int),v = .ref l/\H l=some (.tup [.int m,.int M])/\m∈numsOf ps/\(∀ a∈numsOf ps,m<=a)/\M∈numsOf ps/\∀ a∈numsOf ps,a<=M
theorem u5:∀ (ns:List Int),ns≠[]->(∃ m∈ns,∀ a∈ns,m<=a)/\∃ m∈ns,∀ a∈ns,a<=m
 | [],h=>absurd rfl h
 | [n],_=>⟨⟨n,.head _,λ a ha=>by rw [al_mi.mp ha];exact Int.le_refl _⟩,n,.head _,λ a ha=>by rw [al_mi.mp ha];exact Int.le_refl _⟩
 | n::k::r,_=>by
  obtain ⟨⟨m,hm,h1⟩,M,hM,h2⟩:=u5 (k::r) (List.cons_ne_nil _ _);refine ⟨?_,?_⟩
  ·by_cases h:n<=m
   ·exact ⟨n,.head _,λ a ha=>(al_mc.mp ha).elim (λ e=>by rw [e];exact Int.le_refl _) λ ha=>Int.le_trans h (h1 a ha)⟩
   ·exact ⟨m,.tail _ hm,λ a ha=>(al_mc.mp ha).elim (λ e=>by omega) λ ha=>h1 a ha⟩
  ·by_cases h:M<=n
   ·exact ⟨n,.head _,λ a ha=>(al_mc.mp ha).elim (λ e=>by rw [e];exact Int.le_refl _) λ ha=>Int.le_trans (h2 a ha) h⟩
   ·exact ⟨M,.tail _ hM,λ a ha=>(al_mc.mp ha).elim (λ e=>by omega) λ ha=>h2 a ha⟩
theorem sc_Column_ends:aC ["self", "question", "found"] ["self", "question"] (av oY):=by walk_at "sc"
theorem zeB(T:Txt K mg t)(CN:bF P w K mg base (CXr P w) 15 t.bi "numbers_answering" ["self", "question"] (spA t oP))(F:Fun K "ends" "Column.ends" oY f fd):
  FnOk P w K mg base (CXr P w) 16 f fd ["self", "question"] (spA t wp):=by
 obtain ⟨zaT,zaV,mO,oi,mZ⟩:=CN;refine F.okX sc_Column_ends (λ vs H Q E h=>?_) (λ cdv A outer s H vs Q E hr h=>?_)
 ·obtain ⟨c,a,q,xs,rfl,_⟩:=h;rfl
 ·obtain ⟨c,a,q,xs,rfl,⟨dx,hC⟩,ok,hq,hT,k1,k2⟩:=h;refine ⟨_,(ah (aD (i:=2) sc_Column_ends.nd rfl (Or.inl rfl) (cp (pv 0) T.cC oi mO (hr.mono (by decide)) mZ .nil c5 (aa (pv 1) ad)))
  (ap (ay (c6 (i9 K (pv 2)) (dM (aa (aM (jv K rfl) (by rfl) T.gC PyProof.Rows.Boot.«min» (aa (pv 2) ad)) (aa (aM (ju K rfl) (by rfl) T.gB PyProof.Rows.Boot.«max» (aa (pv 2) ad)) ad))) bx)))),?_⟩
  refine ⟨_,rfl,c,dx,_,rfl,hC,rfl,_,rfl,c,a,q,xs,rfl,⟨dx,hC⟩,ok,hq,hT,λ z v H1 sb hT1 ⟨l,e,h1⟩=>?_,k2⟩;subst e;have k1:=k1 z;generalize bD q.holds 0 xs=ps at h1 k1;refine ⟨_,rfl,l,_,rfl,SqL.of h1,?_⟩;by_cases en:numsOf ps=[]
  ·rw [en];exact au (k1 _ _ sb hT1 (.inl ⟨en,rfl⟩))
  ·rw [show (!((numsOf ps).map V.int).isEmpty)=true by cases h:numsOf ps with | nil=>exact absurd h en | cons _ _=>rfl];obtain ⟨⟨m,hm,l1⟩,M,hM,l2⟩:=u5 _ en;exact aA ⟨_,rfl,l,_,m,rfl,SqL.of h1,hm,l1,_,rfl,l,_,M,rfl,SqL.of h1,hM,l2,by show 2<=sizeLine;decide,λ p hp=>k1 _ _ (sb.same (Same.new hp)) (hT1.same (Same.new hp)) (.inr ⟨p,m,M,rfl,ag,hm,l1,hM,l2⟩)⟩
theorem eI{P:Hp->Prop}(s:Same H H')(hp:H' p=none)(k:∀ H2,Same H H2->H2 p=some o->P H2):P (upd H' p o):=k _ (aJ s hp) ag
def dH:Nat->QT->Prop
 | 0,_=>False
 | _+1,.sm _=>True
 | d+1,.neg q=>dH d q
 | d+1,.both q r=>dH d q/\dH d r
 | d+1,.either q r=>dH d q/\dH d r
 | _+1,.bad _ _=>False
def rE(K:W.Frag):Nat->Sp
 | 0=>λ _ _ _ _=>False
 | m+1=>λ vs H Q _=>∃ (s v:Addr) (ns:List Int) (k:Int) (xs:List OI) (d:Nat),vs=[.ref s,.int k,.ref v,.int d]/\SqL K H s (ns.map V.int)/\H v=some (.lst (xs.map ov))/\xs.length<=100/\1<=d/\d<=m+1/\
  ∀ a q H',Same H H'->QAt H' a q->dH d q->Q (.ref a) H'
theorem zdC:(["_law_j", "_law_script", "_law_values_here", "_law_deep", "_law_k"]:List Str).Nodup:=by decide +kernel
theorem zdD:(["_law_value_here"]:List Str).Nodup:=by decide +kernel
theorem sc_l_question:aC ["_law_script", "_law_k", "_law_values_here", "_law_deep", "_law_number", "_law_word", "_law_parts", "_law_some", "_law_near"] ["_law_script", "_law_k", "_law_values_here", "_law_deep"] (av qg):=by walk_at "sc"
theorem ze4{m:Nat}(T:Txt K mg t)(C__law_mix:Cal P w K mg base CX0 3 "_law_mix" ["_law_script", "_law_k"] (j4 K))(C__law_question:Cal P w K mg base CX0 (3+m) "_law_question" ["_law_script", "_law_k", "_law_values_here", "_law_deep"] (rE K m))(F:Fun K "_law_question" "_law_question" qg f fd):
  FnOk P w K mg base CX0 (3+m+1) f fd ["_law_script", "_law_k", "_law_values_here", "_law_deep"] (rE K (m+1)):=by
 refine F.ok sc_l_question (λ vs H Q E h=>?_) (λ cdv A outer s H vs Q E hr h=>?_)
 ·obtain ⟨s,v,ns,k,xs,d,rfl,_⟩:=h;rfl
 ·obtain ⟨sc,v,ns,k,xs,d,rfl,hS,hv,hx,hd1,hd2,q⟩:=h;refine ⟨_,(ah (aD (i:=4) sc_l_question.nd rfl (Or.inl rfl) (C__law_mix.pe hr ax (aa (pv 0) (aa (pv 1) ad)) (by omega)))
  (ah (aW (PW.pt (ik (aF dU (pv 3) af (aB _)) (jT (aF dU (ak cE (pv 4) af) af (aB _))))) (ah (aD (i:=5) sc_l_question.nd rfl (Or.inl rfl) (aP (bq K) (bR (aa aQ (aa aQ (aa aQ ad)))) (ak cE (ak dJ (pv 4) af) af) (λ _ _=>rfl)))
  (ah (fk (i:=6) sc_l_question.nd rfl (Or.inl rfl) (N:=["_law_j", "_law_script", "_law_values_here", "_law_deep", "_law_k"]) (fr:=[none,some 0,some 2,some 3,some 1]) ⟨rfl,rfl,rfl,rfl,rfl,rfl⟩ rfl (fi (by rfl) T.dB (aa (ak a7 af (ij zao (by rfl) T.lq PyProof.Rows.Boot.«int» (aa (dY dW (pv 5) aQ (aB _)) ad))) ad))
    (λ C fp s H=>⟨aR (i:=0) zdC rfl (Or.inl rfl),bS,(C__law_question.pe hr ax (aa (pv 1) (aa (ak a7 (ak a7 (ak cX af (pv 4)) af) (pv 0)) (aa (pv 2) (aa (ak bK (pv 3) af) ad)))) (by omega))⟩))
  (ap (ay (ak (zfI K) (dM (aa (pv 5) ad)) (ij (zaw K) (by rfl) T.vJ PyProof.Rows.Boot.«tuple» (aa (pv 6) ad)))))))
   a8)
  (ah (aD (i:=7) sc_l_question.nd rfl (Or.inl rfl) (ak fP (cn (N:=["_law_value_here"]) (fr:=[none]) ⟨rfl,rfl,rfl,rfl,rfl,rfl⟩ rfl (bN (pv 2))
    (λ C fp s H=>⟨aR (i:=0) zdD rfl (Or.inl rfl),(fz (aF gF (pv 0) bx (aB _))),(pv 0)⟩)) (bR (aa af ad))))
  (ah (aD (i:=8) sc_l_question.nd rfl (Or.inl rfl) (ak bK (ak a7 (aP (bq K) (pv 7) (ak cE (ak dJ (pv 4) af) (aM (bQ K) (by rfl) T.bv PyProof.Rows.Boot.«len» (aa (pv 7) ad))) (λ _ _=>rfl)) (ak cE (ak dJ (pv 4) af) af)) af))
  (ah (aD (i:=5) sc_l_question.nd rfl (Or.inl rfl) (aP (bq K) (bR (aa aQ (aa aQ (aa aQ (aa aQ (aa aQ (aa aQ ad))))))) (ak cE (ak dJ (pv 4) af) af) (λ _ _=>rfl)))
  (ah (aW (aF (jN K) (pv 5) (dM (aa aQ (aa aQ ad))) (by rfl)) (ap (ay (dM (aa (pv 5) ad))))
   a8)
  (ah (aW (aF cb (pv 5) aQ (aB _)) (ap (ay (dM (aa (pv 5) (aa (d0 (gk K) (bR (aa (pv 8) (aa (aP (bq K) (pv 7) (ak cE (ak dJ (pv 4) af) (aM (bQ K) (by rfl) T.bv PyProof.Rows.Boot.«len» (aa (pv 7) ad))) (λ _ _=>rfl)) ad))) fB (cY (ak cE (ak dJ (pv 4) af) af))) ad)))))
   a8)
  (ap (ay (dM (aa (pv 5) (aa (pv 8) ad)))))))))))),?_⟩
  refine ba λ N0 hN0=>⟨_,rfl,_,rfl,sc,ns,k,rfl,hS,hN0 _ _ ?_⟩
  clear hN0 N0;generalize mix ns k=n;have hS0:=hS;have mod3:∀ i:Int,0<=i % 3/\i % 3 < 3:=λ i=>⟨Int.emod_nonneg _ (by decide),Int.emod_lt_of_pos _ (by decide)⟩
  refine ba λ N hN=>?_;have hN:=hN [some (.ref sc),some (.int k),some (.ref v),some (.int d),some (.int n),none,none,none,none] H ?S
  case S=>
   clear hN N C__law_question;refine ⟨_,rfl,v,rfl,⟨_,SqL.of hv⟩,⟨cD (K:=K) (xs:=xs.map ov) (λ i acc H'=>Same H H'/\acc=((xs.take i).filterMap id).map V.int) ⟨Same.refl _,rfl⟩ ?_ ?_ ?_ ?_⟩⟩
   ·rintro i acc H' hi ⟨s4,rfl⟩;have:=List.length_filterMap_le (id:OI->OI) (xs.take i);rw [bc] at this;exact ⟨SqL.of (s4 _ _ hv),by rw [ae];exact Nat.le_trans this (Nat.min_le_left ..)⟩
   ·rw [ae];exact aX (aY (by omega))
   ·rintro i x acc H' hx hlt ⟨s4,rfl⟩;have hi:i < xs.length:=by rw [ae] at hlt;exact hlt
    rw [aH,aG hi] at hx;cases hx;have tk:(xs.take (i+1)).filterMap id=(xs.take i).filterMap id++[xs[i]].filterMap id:=by rw [cL,aG hi];exact List.filterMap_append
    refine ⟨Wk.set rfl,_,rfl,rfl,_,rfl,?_⟩;cases e:xs[i] with
    | none=>exact au (cw hlt ⟨s4,by rw [tk,e];exact congrArg _ (List.append_nil _).symm⟩)
    | some x=>exact aA ⟨_,rfl,cw hlt ⟨s4,by rw [tk,e,aE];rfl⟩⟩
   ·rintro acc H' ⟨s4,rfl⟩ p hp;rw [ae,aZ];have hns:=List.length_filterMap_le (id:OI->OI) xs;generalize xs.filterMap id=nz at hns;refine ⟨aO rfl,λ l2 hl2=>⟨p,l2,_,_,rfl,rfl,by rw [aj (aI ag hl2)];exact ag,ag,?_,λ l3 hl3=>?_⟩⟩
    ·rw [ae];exact aX (aY (by simp;omega))
    have s3:=aJ (o:=.lst (nz.map V.int++[.int 0])) (aJ (o:=.lst [.int 0]) (aJ (o:=.lst (nz.map V.int)) s4 hp) hl2) hl3;have h3:(upd (upd (upd H' p (.lst (nz.map V.int))) l2 (.lst [.int 0])) l3 (.lst (nz.map V.int++[.int 0]))) l3=some (.lst ((nz++[0]).map V.int)):=by rw [ag,aE];rfl
    generalize upd (upd (upd H' p (.lst (nz.map V.int))) l2 (.lst [.int 0])) l3 (.lst (nz.map V.int++[.int 0]))=H3 at s3 h3;have hz:0 < (nz++[0]).length:=by simp
    have hzl:(nz++[0]).length<=200:=by simp;omega
    generalize nz++[0]=sm at h3 hz hzl;have at_sm:∀ i:Int,∃ y,atI (sm.map V.int) (i % ((sm.map V.int).length:Nat))=some (.int y):=λ i=>by
     rw [ae];have h1:=Int.emod_nonneg i (b:=(sm.length:Int)) (by omega);have h2:=Int.emod_lt_of_pos i (b:=(sm.length:Int)) (by omega);exact ⟨_,bP h1 (by rw [aH,aG (by omega:(i % (sm.length:Int)).toNat < sm.length)];rfl)⟩
    obtain ⟨y1,e1⟩:=at_sm (n / 16);obtain ⟨y2,e2⟩:=at_sm (n / 512);refine ba λ N0 hN0=>hN0 _ _ ?_;clear hN0 N0;refine ba λ N0 hN0=>?_;have cd:∀ {a b:Int},0 < b->b < 1073741824->md a b:=λ h1 h2=>⟨h1,h2⟩
    refine ⟨_,rfl,_,rfl,_,_,rfl,rfl,cd (by decide) (by decide),_,rfl,l3,_,rfl,.inl (SqL.of h3),_,_,rfl,rfl,?_,l3,_,_,_,rfl,rfl,SqL.of h3,e1,_,rfl,_,_,rfl,rfl,cd (by decide) (by decide),_,_,rfl,rfl,(by show (0:Int) < 3;decide),_,_,rfl,rfl,_,_,rfl,rfl,hN0 _ _ ?_⟩
    ·show (0:Int) < _;rw [ae];omega
    clear hN0 N0;show cU _ _ _ [some (.ref sc),some (.int k),some (.ref v),some (.int d),some (.int n),none,none,some (.ref l3),some (.int (y1+n / 1024 % 3 - 1))] H3;generalize y1+n / 1024 % 3 - 1=near;refine ba λ N0 hN0=>⟨aO rfl,λ l4 hl4=>?_⟩
    refine eI (P:=λ X=>tOp _ _ _ _ X _) (Same.refl _) hl4 λ H4 s5 h4=>?_;have s4:=s3.trans s5;have h3:=s5 _ _ h3;obtain ⟨j,hj,ej⟩:∃ j:Nat,j < 6/\n / 4096 % 6=j:=by
     have h1:=Int.emod_nonneg (n / 4096) (b:=6) (by decide);have h2:=Int.emod_lt_of_pos (n / 4096) (b:=6) (by decide);exact ⟨(n / 4096 % 6).toNat,by omega,by omega⟩
    refine ⟨_,rfl,_,_,rfl,rfl,cd (by decide) (by decide),_,_,rfl,rfl,(by show (0:Int) < 6;decide),l4,_,_,.str (["all", "none", "is", "below", "above", "among"][j]'hj),rfl,rfl,SqL.of h4,?_,hN0 _ _ ?_⟩
    ·rw [ej];refine ef ?_
     match j,hj with
     | 0,_=>rfl
     | 1,_=>rfl
     | 2,_=>rfl
     | 3,_=>rfl
     | 4,_=>rfl
     | 5,_=>rfl
    clear hN0 N0;refine ba λ N1 hN1=>⟨_,rfl,aO rfl,λ l5 hl5=>⟨l5,_,rfl,.inr (SqT.of ag),rfl,rfl,_,rfl,?_⟩⟩
    have s6:=s4.trans (Same.new (o:=.tup [.str "all", .str "none"]) hl5);have h6:=Same.new (o:=.tup [.str "all", .str "none"]) hl5 _ _ h3;generalize upd H4 l5 (.tup [.str "all", .str "none"])=H6 at s6 h6;have hN1:=hN1 [some (.ref sc),some (.int k),some (.ref v),some (.int d),some (.int n),some (.str (["all", "none", "is", "below", "above", "among"][j]'hj)),none,some (.ref l3),some (.int near)] H6;obtain ⟨d,rfl⟩:∃ d',d=d' + 1:=⟨d - 1,by omega⟩
    match j,hj with
    | 0,_=>exact aA ⟨_,rfl,aO rfl,λ p hp=>q p (.sm .all) _ (aJ s6 hp) ag trivial⟩
    | 1,_=>exact aA ⟨_,rfl,aO rfl,λ p hp=>q p (.sm .none) _ (aJ s6 hp) ag trivial⟩
    | 2,_=>exact au (hN1 (ba λ N2 hN2=>⟨_,rfl,rfl,_,rfl,au (hN2 _ _ ⟨_,rfl,_,rfl,aO rfl,λ p hp=>q p (.sm (.is near)) _ (aJ s6 hp) ag trivial⟩)⟩))
    | 3,_=>exact au (hN1 (ba λ N2 hN2=>⟨_,rfl,rfl,_,rfl,au (hN2 _ _ ⟨_,rfl,_,rfl,aO rfl,λ p hp=>q p (.sm (.below near)) _ (aJ s6 hp) ag trivial⟩)⟩))
    | 4,_=>exact au (hN1 (ba λ N2 hN2=>⟨_,rfl,rfl,_,rfl,au (hN2 _ _ ⟨_,rfl,_,rfl,aO rfl,λ p hp=>q p (.sm (.above near)) _ (aJ s6 hp) ag trivial⟩)⟩))
    | 5,_=>
     refine au (hN1 (ba λ N2 hN2=>⟨_,rfl,rfl,_,rfl,aA ?_⟩));refine ⟨_,rfl,_,rfl,_,rfl,_,rfl,_,_,rfl,rfl,cd (by decide) (by decide),_,rfl,l3,_,rfl,.inl (SqL.of h6),_,_,rfl,rfl,?_,l3,_,_,_,rfl,rfl,SqL.of h6,e2,aO rfl,λ l7 hl7=>?_⟩
     ·show (0:Int) < _;rw [ae];omega
     have s7:=aJ (o:=.lst [.int near,.int y2]) s6 hl7;refine ⟨_,rfl,_,_,rfl,rfl,cd (by decide) (by decide),_,_,rfl,rfl,(by show (0:Int) < 3;decide),_,rfl,?_⟩;refine ⟨l7,_,rfl,SqL.of ag,λ l8 hl8=>⟨aO rfl,λ p hp=>?_⟩⟩;refine q p (.sm (.among (([near,y2].drop (HT.sIx 2 0 none)).take (HT.sIx 2 2 (some (n / 65536 % 3)) - HT.sIx 2 0 none)))) _ (aJ (aJ s7 hl8) hp) ⟨l8,ag,?_,?_⟩ trivial
     ·rw [aj (aI ag hp),ag];unfold cH;rw [List.map_take,List.map_drop];rfl
     ·rw [bc,List.length_drop];exact Nat.le_trans (Nat.min_le_right ..) (Nat.le_trans (Nat.sub_le ..) (by show 2<=1000;decide))
  show j9 _ _ _ _ _ _;refine ⟨_,rfl,_,_,rfl,rfl,_,rfl,?_⟩;by_cases hd:1 < d
  ·rw [aV (by omega:(1:Int) < d)];refine aA ⟨_,rfl,_,_,rfl,rfl,(by show (0:Int) < 3;decide),_,_,rfl,rfl,_,rfl,?_⟩;by_cases hn3:0 < n % 3
   ·rw [aV hn3];refine aA ?_;refine ba λ N0 hN0=>⟨aO rfl,λ l4 hl4=>?_⟩
    refine eI (P:=λ X=>tOp _ _ _ _ X _) (Same.refl _) hl4 λ H4 s4 h4=>?_;obtain ⟨j,hj,ej⟩:∃ j:Nat,j < 3/\n / 3 % 3=j:=by
     have h1:=mod3 (n / 3);exact ⟨(n / 3 % 3).toNat,by omega,by omega⟩
    refine ⟨_,rfl,_,_,rfl,rfl,⟨by decide,by decide⟩,_,_,rfl,rfl,(by show (0:Int) < 3;decide),l4,_,_,.str (["not", "both", "either"][j]'hj),rfl,rfl,SqL.of h4,?_,hN0 _ _ ?_⟩
    ·rw [ej];refine ef ?_
     match j,hj with
     | 0,_=>rfl
     | 1,_=>rfl
     | 2,_=>rfl
    clear hN0 N0;obtain ⟨d,rfl⟩:∃ d',d=d' + 1:=⟨d - 1,by omega⟩
    obtain ⟨m,rfl⟩:∃ m',m=m' + 1:=⟨m - 1,by omega⟩
    obtain ⟨c,hc,ec⟩:∃ c:Nat,(c=if j=0 then 1 else 2)/\(1+if (!decide (V.str (["not", "both", "either"][j]'hj)=V.str "not"))=true then 1 else 0:Int)=c:=⟨_,rfl,by
     match j,hj with
     | 0,_=>rfl
     | 1,_=>rfl
     | 2,_=>rfl⟩
    have hc2:c<=2:=by rw [hc];split <;> decide
    refine ba λ N0 hN0=>⟨_,rfl,rfl,.inr ⟨_,rfl,_,_,rfl,rfl,?_⟩⟩
    rw [ec];refine ⟨_,rfl,by omega,by omega,?_⟩;rw [Int.toNat_natCast];refine ⟨fJ (n:=c) (λ i acc H'=>∃ as:List Addr,acc=as.map V.ref/\as.length=i/\Same H4 H'/\∀ a∈as,∃ q,QAt H' a q/\dH d q) ⟨[],rfl,rfl,Same.refl _,nofun⟩ ?_ (aX (aY (by omega))) ?_ ?_⟩
    ·rintro i acc H' hi ⟨as,rfl,hl,_⟩;rw [ae,hl];exact az _
    ·rintro i acc H' hi ⟨as,rfl,hl,s5,ha⟩;refine ⟨Wk.set rfl,tT ⟨_,rfl,_,rfl,_,_,rfl,rfl,.inl ⟨by decide,by decide⟩,_,_,rfl,rfl,_,rfl,_,_,rfl,rfl,_,rfl,_,rfl,_,_,rfl,rfl,?_⟩⟩;refine ⟨sc,v,ns,2 * k+1+(0+(i:Int)),xs,d,?_,s5.seq (s4.seq hS),s5 _ _ (s4 _ _ hv),hx,by omega,by omega,λ a q' H6 s6 hq' hf=>cw hi ⟨as++[a],by rw [aE];rfl,by rw [bn,hl];rfl,s5.trans s6,λ b hb=>?_⟩⟩
     ·show [V.ref sc,V.int (2 * k+1+(0+(i:Int))),V.ref v,V.int (((d+1:Nat):Int) - 1)]=_;rw [show (((d+1:Nat):Int) - 1)=(d:Int) by omega]
     ·rcases al_mp.mp hb with h | h
      ·obtain ⟨q0,h1,h2⟩:=ha b h;exact ⟨q0,h1.kt (eO s6),h2⟩
      ·rw [al_mi.mp h];exact ⟨q',hq',hf⟩
    ·rintro acc H5 ⟨as,rfl,hl,s5,ha⟩ p hp;refine eI (P:=N0 _) (Same.refl _) hp λ H6 s6 h6=>?_;have ha6:∀ a∈as,∃ q,QAt H6 a q/\dH d q:=λ a h=>let ⟨q,h1,h2⟩:=ha a h;⟨q,h1.kt (eO s6),h2⟩;have s6:=(s4.trans s5).trans s6;refine hN0 _ _ ⟨_,rfl,aO rfl,λ pt hpt=>⟨_,rfl,p,_,rfl,.inl ⟨SqL.of (Same.new hpt _ _ h6),λ pl hpl=>?_⟩⟩⟩;refine ⟨pt,pl,_,_,rfl,rfl,SqT.of (Same.new hpl _ _ ag),SqT.of ag,List.cons_ne_nil _ _,?_,λ z=>?_,λ _ pr hpr=>?_⟩
     ·show 1+(as.map V.ref).length<=_;rw [ae,hl];exact aX (aY (by omega))
     ·exfalso;have:=congrArg List.length z;rw [ae,hl] at this;rw [hc] at this
      split at this <;> cases this
     refine eI (P:=Q _) (aJ (Same.new hpt) hpl) hpr λ H7 s7 h7=>?_;have ha7:∀ a∈as,∃ q,QAt H7 a q/\dH d q:=λ a h=>let ⟨q,h1,h2⟩:=ha6 a h;⟨q,h1.kt (eO s7),h2⟩;have s7:=s6.trans s7
     match j,hj,as,hl,hc with
     | 0,_,[a],_,_=>
      obtain ⟨q0,h1,h2⟩:=ha7 a (.head _);exact q pr (.neg q0) H7 s7 ⟨a,h7,h1⟩ h2
     | 1,_,[a,b],_,_=>
      obtain ⟨q0,h1,h2⟩:=ha7 a (.head _);obtain ⟨q1,h3,h4⟩:=ha7 b (.tail _ (.head _));exact q pr (.both q0 q1) H7 s7 ⟨a,b,h7,h1,h3⟩ ⟨h2,h4⟩
     | 2,_,[a,b],_,_=>
      obtain ⟨q0,h1,h2⟩:=ha7 a (.head _);obtain ⟨q1,h3,h4⟩:=ha7 b (.tail _ (.head _));exact q pr (.either q0 q1) H7 s7 ⟨a,b,h7,h1,h3⟩ ⟨h2,h4⟩
   ·rw [aU hn3];exact au hN
  ·rw [aU (by omega:¬ (1:Int) < d)];exact au hN
inductive xI (t:Ad) (vs:List V) (H:Hp) (Q:VK) (_E:XK):Prop
 | i (c:Addr) (xs:List OI) (_:vs=[.ref c]) (_:ColAt t.bi H c xs) (_:okC xs=true) (_:∀ H',Same H H'->Q (.int xs.length) H')
theorem zhi:aC ["self"] ["self"] (av o6):=by walk_at "sc"
theorem zfr(T:Txt K mg t)(CT:bF P w K mg base CX0 11 t.bi "told" ["self"] (lT t))(F:Fun K "size" "Column.size" o6 f fd):FnOk P w K mg base CX0 12 f fd ["self"] (xI t):=by
 obtain ⟨ul,uo,gO,hU,gR⟩:=CT;refine F.ok zhi (λ vs H Q E h=>?_) (λ cdv A outer s H vs Q E hr h=>?_)
 ·obtain ⟨c,xs,rfl,_⟩:=h;rfl
 ·obtain ⟨c,xs,rfl,⟨dx,hC⟩,ok,k⟩:=h;refine ⟨_,(ap (ay (aM (bQ K) (by rfl) T.bv PyProof.Rows.Boot.«len» (aa (di (pv 0) T.cC hU gO (hr.mono (by decide)) gR .nil ax) ad)))),?_⟩;refine ⟨_,rfl,c,dx,_,rfl,hC,rfl,c,xs,rfl,⟨dx,hC⟩,ok,λ l H1 s1 hn h1=>⟨l,_,rfl,.inl (SqL.of h1),?_⟩⟩;have:=k H1 s1;rw [ae];exact this
inductive xN (t:Ad) (vs:List V) (H:Hp) (Q:VK) (E:XK):Prop
 | i (c:Addr) (r:Int) (xs:List OI) (_:vs=[.ref c,.int r]) (_:ColAt t.bi H c xs) (_:okC xs=true) (_:(∀ o,0<=r->xs[r.toNat]?=some o->∀ H',Same H H'->Q (ov o) H')) (_:(¬ (0<=r/\r < xs.length)->∀ H',Same H H'->E (.ref t.cN) none H'))
theorem sc_Column_value:aC ["self", "row", "values"] ["self", "row"] (av o9):=by walk_at "sc"
theorem zfD(T:Txt K mg t)(CT:bF P w K mg base CX0 11 t.bi "told" ["self"] (lT t))(mv:Cal P w K mg base (CXr P w) 1 "check_row" ["row", "size"] (xa t))(F:Fun K "value" "Column.value" o9 f fd):
  FnOk P w K mg base (CXr P w) 12 f fd ["self", "row"] (xN t):=by
 obtain ⟨ul,uo,gO,hU,gR⟩:=CT;refine F.okX sc_Column_value (λ vs H Q E h=>?_) (λ cdv A outer s H vs Q E hr h=>?_)
 ·obtain ⟨c,r,xs,rfl,_⟩:=h;rfl
 ·obtain ⟨c,r,xs,rfl,⟨dx,hC⟩,ok,k1,k2⟩:=h;refine ⟨_,(ah (aD (i:=2) sc_Column_value.nd rfl (Or.inl rfl) (di (pv 0) T.cC hU gO (hr.mono (by decide)) gR .nil ax))
  (ah (ci (mv.pe hr c5 (aa (pv 1) (aa (aM (bQ K) (by rfl) T.bv PyProof.Rows.Boot.«len» (aa (pv 2) ad)) ad))))
  (ap (ay (aP (bq K) (pv 2) (pv 1) (λ _ _=>rfl)))))),?_⟩
  refine ⟨_,rfl,c,dx,_,rfl,hC,rfl,c,xs,rfl,⟨dx,hC⟩,ok,λ l H1 s1 hn h1=>?_⟩;refine ⟨_,rfl,_,rfl,l,_,rfl,.inl (SqL.of h1),r,_,rfl,λ hc=>?_,λ hc=>k2 (λ z=>hc (by rw [ae];exact z)) H1 s1⟩;rw [ae] at hc;have hl:r.toNat < xs.length:=by omega
  have e:=aG hl;exact ⟨_,rfl,_,rfl,l,_,_,_,rfl,rfl,SqL.of h1,bP hc.1 (by rw [aH,e];rfl),k1 _ hc.1 e H1 s1⟩
def rD:Nat->Sp
 | 0=>λ _ _ _ _=>False
 | m+1=>λ vs H Q _=>∃ (a:Addr) (o:OI) (q:QT),vs=[.ref a,ov o]/\QAt H a q/\dH (m+1) q/\∀ H',Same H H'->Q (.bl (q.holds o)) H'
theorem n9{x n:Int}{wd:Str}(ha:H2 a=some (.tup [.str wd,.int n]))(b:Bool)(hb:bJ (hV [] [((.inr "is" : Key),V.bl (decide (V.int x=V.int n))),(.inr "below", .bl (decide (x < n))),(.inr "above", .bl (decide (n < x)))]) (.inr wd)=some (.bl b))(k:∀ H',Same H2 H'->Q (.bl b) H'):
  xV (rQ [(tC (V.str "is"),tOp rEq (cf 1) (tOp (jU K) (cf 0) (tC (V.int 1)))),(tC (V.str "below"),tOp (rI0 λ i j=>V.bl (decide (i < j))) (cf 1) (tOp (jU K) (cf 0) (tC (V.int 1)))),(tC (V.str "above"),tOp (rI0 λ i j=>V.bl (decide (j < i))) (cf 1) (tOp (jU K) (cf 0) (tC (V.int 1))))]) (cf 2)
   [some (.ref a),some (.int x),some (.str wd),none] H2 Q:=by
 intro p hp;have ha3:(upd H2 p (.dK [])) a=some (.tup [.str wd,.int n]):=by rw [aj (aI ha hp)];exact ha
 have h3:(upd H2 p (.dK [])) p=some (.dK []):=ag;have s3:∀ kvs,Same H2 (upd (upd H2 p (.dK [])) p (.dK kvs)):=λ kvs b o e=>by rw [aj (aI e hp),aj (aI e hp)];exact e
 generalize upd H2 p (.dK [])=H3 at ha3 h3 s3;refine ⟨_,rfl,_,rfl,a,_,_,_,rfl,rfl,SqT.of ha3,bP (by decide) rfl,rfl,?_⟩;refine ⟨_,rfl,_,rfl,a,_,_,_,rfl,rfl,SqT.of ha3,bP (by decide) rfl,_,_,rfl,rfl,?_⟩;refine ⟨_,rfl,_,rfl,a,_,_,_,rfl,rfl,SqT.of ha3,bP (by decide) rfl,_,_,rfl,rfl,?_⟩;refine ⟨h3,[(.inr "is", .bl (decide (V.int x=V.int n))),(.inr "below", .bl (decide (x < n))),(.inr "above", .bl (decide (n < x)))],rfl,aO rfl,_,rfl,p,_,rfl,?_,k _ (s3 _)⟩;have:=DGet.k (H:=upd H3 p (.dK (hV [] [((.inr "is" : Key),V.bl (decide (V.int x=V.int n))),(.inr "below", .bl (decide (x < n))),(.inr "above", .bl (decide (n < x)))]))) (k:=.inr wd) ag;rw [hb] at this;exact this
theorem zdB:(["_law_part", "_law_value_here"]:List Str).Nodup:=by decide +kernel
theorem sc_l_holds:aC ["_law_question_here", "_law_value_here", "_law_word", "_law_some"] ["_law_question_here", "_law_value_here"] (av qc):=by walk_at "sc"
theorem ze1{m:Nat}(T:Txt K mg t)(C__law_holds:Cal P w K mg base CX0 (1+m) "_law_holds" ["_law_question_here", "_law_value_here"] (rD m))(F:Fun K "_law_holds" "_law_holds" qc f fd):
  FnOk P w K mg base CX0 (1+m+1) f fd ["_law_question_here", "_law_value_here"] (rD (m+1)):=by
 refine F.ok sc_l_holds (λ vs H Q E h=>?_) (λ cdv A outer s H vs Q E hr h=>?_)
 ·obtain ⟨a,o,q,rfl,_⟩:=h;rfl
 ·obtain ⟨a,o,q,rfl,hq,hf,k⟩:=h;have hu:=ge hr;obtain ⟨xs,ha,hx,_⟩:=hq.tup;refine ⟨_,(ah (aD (i:=2) sc_l_holds.nd rfl (Or.inl rfl) (aP (cj K) (pv 0) af (λ _ _=>rfl)))
  (ah (aW (aF cb (pv 2) aQ (aB _)) (ap (ay (lA (C__law_holds.pe hr ax (aa (aP (cj K) (pv 0) af (λ _ _=>rfl)) (aa (pv 1) ad)) (by omega)))))
   a8)
  (ah (aW (aF (jN K) (pv 2) (dM (aa aQ (aa aQ ad))) (by rfl)) (ah (fk (i:=3) sc_l_holds.nd rfl (Or.inl rfl) (N:=["_law_part", "_law_value_here"]) (fr:=[none,some 1]) ⟨rfl,rfl,rfl,rfl,rfl,rfl⟩ rfl (lC (d0 (lN K) (pv 0) (cY af) fB))
    (λ C fp s H=>⟨aR (i:=0) zdB rfl (Or.inl rfl),bS,(C__law_holds.pe hr ax (aa (pv 0) (aa (pv 1) ad)) (by omega))⟩))
  (ap (ay (c6 (aF cb (pv 2) aQ (aB _)) (aM (tG K rfl) (by rfl) T.ox PyProof.Rows.Boot.«all» (aa (pv 3) ad)) (aM (zam K rfl) (by rfl) T.zdm PyProof.Rows.Boot.«any» (aa (pv 3) ad))))))
   a8)
  (ah (aW (aF cb (pv 2) aQ (aB _)) (ap (ay dX))
   a8)
  (ah (aW (PW.pt (dO (aF cb (pv 2) aQ (aB _)) (eN (aF dL (pv 1) bx (aB _))))) (ap (ay (i8 (dY cb (pv 2) aQ (aB _)) (gG (dY dL (pv 1) bx (aB _))))))
   a8)
  (ah (aW (aF cb (pv 2) aQ (aB _)) (ap (ay (dY (jN K) (pv 1) (aP (cj K) (pv 0) af (λ _ _=>rfl)) (by rfl))))
   a8)
  (ap (ay (oJ hu (zf2 (oM aQ (dY cb (pv 1) (aP (cj K) (pv 0) af (λ _ _=>rfl)) (aB _)) (oM aQ (dY ig (pv 1) (aP (cj K) (pv 0) af (λ _ _=>rfl)) (aB _)) (oM aQ (dY dU (pv 1) (aP (cj K) (pv 0) af (λ _ _=>rfl)) (aB _)) zgd))) (aO rfl)) (pv 2) (λ _ _=>rfl)))))))))),?_⟩
  refine ba λ N0 hN0=>⟨_,rfl,a,_,_,_,rfl,rfl,SqT.of ha,bP (by decide) rfl,hN0 _ _ ?_⟩
  clear hN0 N0;show cU _ _ _ [some (.ref a),some (ov o),some (.str q.wd),none] H;refine ba λ N1 hN1=>⟨_,rfl,rfl,_,rfl,?_⟩
  cases q with
  | neg q1=>
   obtain ⟨b,ha,hq1⟩:=hq;obtain ⟨m,rfl⟩:∃ m',m=m' + 1:=by
    cases m with
    | zero=>exact (show False from hf).elim
    | succ m=>exact ⟨m,rfl⟩
   exact aA ⟨_,rfl,a,_,_,_,rfl,rfl,SqT.of ha,bP (by decide) rfl,_,rfl,b,o,q1,rfl,hq1,hf,λ H1 s1=>⟨_,rfl,k H1 s1⟩⟩
  | both q1 q2=>
   obtain ⟨b,c,ha,hq1,hq2⟩:=hq;obtain ⟨m,rfl⟩:∃ m',m=m' + 1:=by
    cases m with
    | zero=>exact (show False from hf.1).elim
    | succ m=>exact ⟨m,rfl⟩
   refine au (hN1 _ _ (ba λ N2 hN2=>⟨_,rfl,aO rfl,λ pt hpt=>⟨pt,_,rfl,.inr (SqT.of ag),rfl,rfl,_,rfl,aA ?_⟩⟩));have s2:=Same.new (o:=.tup [.str "both", .str "either"]) hpt;show cU _ _ _ _ (upd H pt (.tup [.str "both", .str "either"]));generalize upd H pt (.tup [.str "both", .str "either"])=H2 at s2 ⊢;have ha2:=s2 _ _ ha;refine ba λ N3 hN3=>⟨_,rfl,1,rfl,a,_,rfl,SqT.of ha2,gm _ _,λ pl hpl=>⟨pl,rfl,⟨_,SqT.of ag⟩,?_⟩⟩
   rw [jg];have s3:=aJ (o:=.tup [.ref b,.ref c]) s2 hpl;have h3:(upd H2 pl (.tup [.ref b,.ref c])) pl=some (.tup [.ref b,.ref c]):=ag;generalize upd H2 pl (.tup [.ref b,.ref c])=H3 at s3 h3;refine ⟨kM (K:=K) (xs:=[.ref b,.ref c]) (λ i acc H'=>Same H3 H'/\acc=(([q1,q2].take i).map (·.holds o)).map V.bl) ⟨Same.refl _,rfl⟩ ?_ (aO rfl) ?_ ?_⟩
   ·rintro i acc H' hi ⟨s4,rfl⟩;exact ⟨SqT.of (s4 _ _ h3),by rw [ae,ae,bc];exact Nat.min_le_left ..⟩
   ·rintro i x acc H' hx hlt ⟨s4,rfl⟩;obtain ⟨bb,qq,rfl,hqq,hfq,htk⟩:∃ bb qq,x = .ref bb/\QAt H bb qq/\dH (m+1) qq/\[q1,q2].take (i+1)=[q1,q2].take i++[qq]:=by
     match i,hlt,hx with
     | 0,_,hx=>cases hx;exact ⟨b,q1,rfl,hq1,hf.1,rfl⟩
     | 1,_,hx=>cases hx;exact ⟨c,q2,rfl,hq2,hf.2,rfl⟩
    refine ⟨Wk.set rfl,tT ⟨_,rfl,_,rfl,bb,o,qq,rfl,hqq.kt (eO (s3.trans s4)),hfq,λ H5 s5=>cw hlt ⟨s4.trans s5,?_⟩⟩⟩;rw [htk,aE,aE];rfl
   ·rintro acc H' ⟨s4,rfl⟩ r hr';refine hN3 _ _ ⟨_,rfl,rfl,_,rfl,aA ⟨_,rfl,r,[q1.holds o,q2.holds o],rfl,SqL.of ag,?_⟩⟩;have:=k _ (aJ (o:=.lst [.bl (q1.holds o),.bl (q2.holds o)]) (s3.trans s4) hr');rw [show ([q1.holds o,q2.holds o]).all id=(QT.both q1 q2).holds o by show (_ && (_ && true))=_;rw [Bool.and_true];rfl];exact this
  | either q1 q2=>
   obtain ⟨b,c,ha,hq1,hq2⟩:=hq;obtain ⟨m,rfl⟩:∃ m',m=m' + 1:=by
    cases m with
    | zero=>exact (show False from hf.1).elim
    | succ m=>exact ⟨m,rfl⟩
   refine au (hN1 _ _ (ba λ N2 hN2=>⟨_,rfl,aO rfl,λ pt hpt=>⟨pt,_,rfl,.inr (SqT.of ag),rfl,rfl,_,rfl,aA ?_⟩⟩));have s2:=Same.new (o:=.tup [.str "both", .str "either"]) hpt;show cU _ _ _ _ (upd H pt (.tup [.str "both", .str "either"]));generalize upd H pt (.tup [.str "both", .str "either"])=H2 at s2 ⊢;have ha2:=s2 _ _ ha;refine ba λ N3 hN3=>⟨_,rfl,1,rfl,a,_,rfl,SqT.of ha2,gm _ _,λ pl hpl=>⟨pl,rfl,⟨_,SqT.of ag⟩,?_⟩⟩
   rw [jg];have s3:=aJ (o:=.tup [.ref b,.ref c]) s2 hpl;have h3:(upd H2 pl (.tup [.ref b,.ref c])) pl=some (.tup [.ref b,.ref c]):=ag;generalize upd H2 pl (.tup [.ref b,.ref c])=H3 at s3 h3;refine ⟨kM (K:=K) (xs:=[.ref b,.ref c]) (λ i acc H'=>Same H3 H'/\acc=(([q1,q2].take i).map (·.holds o)).map V.bl) ⟨Same.refl _,rfl⟩ ?_ (aO rfl) ?_ ?_⟩
   ·rintro i acc H' hi ⟨s4,rfl⟩;exact ⟨SqT.of (s4 _ _ h3),by rw [ae,ae,bc];exact Nat.min_le_left ..⟩
   ·rintro i x acc H' hx hlt ⟨s4,rfl⟩;obtain ⟨bb,qq,rfl,hqq,hfq,htk⟩:∃ bb qq,x = .ref bb/\QAt H bb qq/\dH (m+1) qq/\[q1,q2].take (i+1)=[q1,q2].take i++[qq]:=by
     match i,hlt,hx with
     | 0,_,hx=>cases hx;exact ⟨b,q1,rfl,hq1,hf.1,rfl⟩
     | 1,_,hx=>cases hx;exact ⟨c,q2,rfl,hq2,hf.2,rfl⟩
    refine ⟨Wk.set rfl,tT ⟨_,rfl,_,rfl,bb,o,qq,rfl,hqq.kt (eO (s3.trans s4)),hfq,λ H5 s5=>cw hlt ⟨s4.trans s5,?_⟩⟩⟩;rw [htk,aE,aE];rfl
   ·rintro acc H' ⟨s4,rfl⟩ r hr';refine hN3 _ _ ⟨_,rfl,rfl,_,rfl,au ⟨_,rfl,r,[q1.holds o,q2.holds o],rfl,SqL.of ag,?_⟩⟩;have:=k _ (aJ (o:=.lst [.bl (q1.holds o),.bl (q2.holds o)]) (s3.trans s4) hr');rw [show ([q1.holds o,q2.holds o]).any id=(QT.either q1 q2).holds o by show (_ || (_ || false))=_;rw [Bool.or_false];rfl];exact this
  | bad x vs=>exact (show False from hf).elim
  | sm s=>
   rw [show decide (V.str (QT.sm s).wd=V.str "not")=false by cases s <;> rfl];refine au (hN1 _ _ (ba λ N2 hN2=>⟨_,rfl,aO rfl,λ pt hpt=>⟨pt,_,rfl,.inr (SqT.of ag),rfl,rfl,_,rfl,?_⟩⟩));show if inV (.str (QT.sm s).wd) [.str "both", .str "either"]=true then _ else _
   rw [show inV (.str (QT.sm s).wd) [.str "both", .str "either"]=false by cases s <;> rfl];refine au (hN2 _ _ ?_);have s2:=Same.new (o:=.tup [.str "both", .str "either"]) hpt;show cU _ _ _ _ (upd H pt (.tup [.str "both", .str "either"]));generalize upd H pt (.tup [.str "both", .str "either"])=H2 at s2 ⊢;have hq2:SmAt H2 a s:=SmAt.kt (eO s2) hq;refine ba λ N3 hN3=>⟨_,rfl,rfl,_,rfl,?_⟩
   cases s with
   | all=>exact aA (k _ s2)
   | none=>exact au (hN3 _ _ (ba λ N4 hN4=>⟨_,rfl,rfl,_,rfl,aA (aA ⟨_,rfl,rfl,_,rfl,⟨_,rfl,rfl,k _ s2⟩⟩)⟩))
   | among ns=>
    obtain ⟨l,ha,hl,hz⟩:=hq2;refine au (hN3 _ _ (ba λ N4 hN4=>⟨_,rfl,rfl,_,rfl,au ⟨_,rfl,rfl,_,rfl,?_⟩⟩));cases o with
    | none=>exact aA ⟨_,rfl,rfl,_,rfl,k _ s2⟩
    | some x=>
     refine au (hN4 _ _ (ba λ N5 hN5=>⟨_,rfl,rfl,_,rfl,aA ⟨_,rfl,_,rfl,a,_,_,_,rfl,rfl,SqT.of ha,bP (by decide) rfl,l,_,rfl,.inl (SqL.of hl),rfl,?_,k _ s2⟩⟩));rw [List.all_map];exact al_ae.mpr λ _ _=>rfl
   | is n=>
    refine au (hN3 _ _ (ba λ N4 hN4=>⟨_,rfl,rfl,_,rfl,au ⟨_,rfl,rfl,_,rfl,?_⟩⟩));cases o with
    | none=>exact aA ⟨_,rfl,rfl,_,rfl,k _ s2⟩
    | some x=>exact au (hN4 _ _ (ba λ N5 hN5=>⟨_,rfl,rfl,_,rfl,au (hN5 _ _ (n9 hq2 _ rfl λ H' s'=>k H' (s2.trans s')))⟩))
   | below n=>
    refine au (hN3 _ _ (ba λ N4 hN4=>⟨_,rfl,rfl,_,rfl,au ⟨_,rfl,rfl,_,rfl,?_⟩⟩));cases o with
    | none=>exact aA ⟨_,rfl,rfl,_,rfl,k _ s2⟩
    | some x=>exact au (hN4 _ _ (ba λ N5 hN5=>⟨_,rfl,rfl,_,rfl,au (hN5 _ _ (n9 hq2 _ rfl λ H' s'=>k H' (s2.trans s')))⟩))
   | above n=>
    refine au (hN3 _ _ (ba λ N4 hN4=>⟨_,rfl,rfl,_,rfl,au ⟨_,rfl,rfl,_,rfl,?_⟩⟩));cases o with
    | none=>exact aA ⟨_,rfl,rfl,_,rfl,k _ s2⟩
    | some x=>exact au (hN4 _ _ (ba λ N5 hN5=>⟨_,rfl,rfl,_,rfl,au (hN5 _ _ (n9 hq2 _ rfl λ H' s'=>k H' (s2.trans s')))⟩))
def xp(t:Ad):Sp:=λ vs H Q _=>(vs=[.non]/\Q (.str "ok") H)\/∃ (a C:Addr) (z:Str),vs=[.ref a]/\H a=some (ft a (.ref C))/\((C=t.cN/\z = "norow"))/\∀ H',Same H H'->Q (.str z) H'
theorem zbT{c:Nat}{A B:Prop}(h:c=1)(hB:B):if (!decide (V.int (c:Int)=V.int 1))=true then A else B:=by
 subst h;exact hB
theorem sc_l_refusal:aC ["_law_kept", "_law_kinds_here"] ["_law_kept"] (av qh):=by walk_at "sc"
theorem zeR(T:Txt K mg t)(F:Fun K "_law_refusal" "_law_refusal" qh f fd):FnOk P w K mg base CX0 1 f fd ["_law_kept"] (xp t):=by
 refine F.ok sc_l_refusal (λ vs H Q E h=>?_) (λ cdv A outer s H vs Q E hr h=>?_)
 ·rcases h with ⟨rfl,_⟩ | ⟨a,C,z,rfl,_⟩ <;> rfl
 ·refine ⟨_,(ah (aW (aF dL (pv 0) bx (aB _)) (ap (ay aQ))
   a8)
  (ah (aD (i:=1) sc_l_refusal.nd rfl (Or.inl rfl) (bR (aa (aM (dG K) (by rfl) T.dI PyProof.Rows.Boot.«isinstance» (aa (pv 0) (aa (dZ T.nH) ad))) (aa (aM (dG K) (by rfl) T.dI PyProof.Rows.Boot.«isinstance» (aa (pv 0) (aa (dZ T.iU) ad))) (aa (aM (dG K) (by rfl) T.dI PyProof.Rows.Boot.«isinstance» (aa (pv 0) (aa (dZ T.za2) ad))) ad)))))
  (ah (aD (i:=1) sc_l_refusal.nd rfl (Or.inl rfl) (ak fP (pv 1) (bR (aa (aM (dG K) (by rfl) T.dI PyProof.Rows.Boot.«isinstance» (aa (pv 0) (aa (dZ T.za3) ad))) (aa (aM (dG K) (by rfl) T.dI PyProof.Rows.Boot.«isinstance» (aa (pv 0) (aa (dZ T.nI) ad))) (aa (aM (dG K) (by rfl) T.dI PyProof.Rows.Boot.«isinstance» (aa (pv 0) (aa (dZ T.za5) ad))) ad))))))
  (ah (aD (i:=1) sc_l_refusal.nd rfl (Or.inl rfl) (ak fP (pv 1) (bR (aa (aM (dG K) (by rfl) T.dI PyProof.Rows.Boot.«isinstance» (aa (pv 0) (aa (dZ T.nK) ad))) (aa (aM (dG K) (by rfl) T.dI PyProof.Rows.Boot.«isinstance» (aa (pv 0) (aa (dZ T.uE) ad))) ad)))))
  (ah (aW (PW.pt (dO (aF dW (cu K PySem.F.plainAttrs_list PySem.F.slot_list_count PySem.F.type_list_count zc8 (pv 1) (aa dX ad)) af (aB _)) (eN (eE (dE (aM (dG K) (by rfl) T.dI PyProof.Rows.Boot.«isinstance» (aa (pv 0) (aa (gH T.zdg PyProof.Rows.Boot.«ValueError») ad)))))))) (ap (ay aQ))
   a8)
  (ap (ay (aP (bq K) (bR (aa aQ (aa aQ (aa aQ (aa aQ (aa aQ (aa aQ (aa aQ (aa aQ ad))))))))) (cu K PySem.F.plainAttrs_list PySem.F.slot_list_index PySem.F.type_list_index ou (pv 1) (aa dX ad)) (λ _ _=>rfl))))))))),?_⟩
  rcases h with ⟨rfl,q⟩ | ⟨a,C,z,rfl,hA,hC,q1⟩
  ·exact ⟨_,rfl,rfl,_,rfl,aA q⟩
  refine ⟨_,rfl,rfl,_,rfl,au ?_⟩;obtain ⟨b0,b1,b2,b3,b4,b5,b6,b7,j,k0,k1,k2,k3,k4,k5,k6,k7,kC,kv,hc,hj,hm,hw⟩:∃ (b0 b1 b2 b3 b4 b5 b6 b7:Bool) (j:Nat),W.kitOne K (.ref C) (.ref t.gb)=some b0/\W.kitOne K (.ref C) (.ref t.dP)=some b1/\W.kitOne K (.ref C) (.ref t.iO)=some b2/\W.kitOne K (.ref C) (.ref t.iP)=some b3/\W.kitOne K (.ref C) (.ref t.dQ)=some b4/\W.kitOne K (.ref C) (.ref t.iQ)=some b5/\W.kitOne K (.ref C) (.ref t.fu)=some b6/\W.kitOne K (.ref C) (.ref t.cN)=some b7/\gN K C/\W.kitOne K (.ref C) (.type "ValueError")=some true/\([.bl b0,.bl b1,.bl b2,.bl b3,.bl b4,.bl b5,.bl b6,.bl b7]:List V).countP (λ z=>eqV z (.bl true))=1/\([.bl b0,.bl b1,.bl b2,.bl b3,.bl b4,.bl b5,.bl b6,.bl b7]:List V)[j]?=some (.bl true)/\(∀ m z,m < j->([.bl b0,.bl b1,.bl b2,.bl b3,.bl b4,.bl b5,.bl b6,.bl b7]:List V)[m]?=some z->eqV z (.bl true)=false)/\([.str "bits", .str "question", .str "row", .str "table", .str "value", .str "column", .str "packing", .str "norow"]:List V)[j]?=some (.str z):=by
   obtain ⟨rfl,rfl⟩:=hC
   ·exact ⟨_,_,_,_,_,_,_,_,7,T.zbr,T.zbs,T.zbt,T.zbu,T.zbv,T.zbw,T.zbx,T.zby,T.zbW,T.zjh,rfl,rfl,λ m z hm hz=>match m,hm with | 0,_=>by cases hz;rfl | 1,_=>by cases hz;rfl | 2,_=>by cases hz;rfl | 3,_=>by cases hz;rfl | 4,_=>by cases hz;rfl | 5,_=>by cases hz;rfl | 6,_=>by cases hz;rfl,rfl⟩
  have g:∀ {H' D b},H' a=some (ft a (.ref C))->W.kitOne K (.ref C) (.ref D)=some b->iG K H' (.ref a) (.ref D) b:=λ h e=>zbP h kC e;refine ⟨_,rfl,_,_,_,rfl,g hA k0,_,rfl,_,_,_,rfl,g hA k1,_,rfl,_,_,_,rfl,g hA k2,aO rfl,λ l1 hl1=>?_⟩;have s1:=Same.new (o:=.lst [.bl b0,.bl b1,.bl b2]) hl1;have h1:=s1 _ _ hA;refine ⟨_,rfl,_,rfl,_,_,_,rfl,g h1 k3,_,rfl,_,_,_,rfl,g h1 k4,_,rfl,_,_,_,rfl,g h1 k5,aO rfl,λ l2 hl2=>?_⟩;have n12:l1≠l2:=aI ag hl2;refine ⟨l1,l2,_,_,rfl,rfl,by rw [aj n12];exact ag,ag,aO rfl,λ l3 hl3=>?_⟩;have s3:Same H (upd (upd (upd H l1 (.lst [.bl b0,.bl b1,.bl b2])) l2 (.lst [.bl b3,.bl b4,.bl b5])) l3 (.lst [.bl b0,.bl b1,.bl b2,.bl b3,.bl b4,.bl b5])):=aJ (aJ s1 hl2) hl3;have h3:=s3 _ _ hA;refine ⟨_,rfl,_,rfl,_,_,_,rfl,g h3 k6,_,rfl,_,_,_,rfl,g h3 k7,aO rfl,λ l4 hl4=>?_⟩;have n34:l3≠l4:=aI ag hl4;refine ⟨l3,l4,_,_,rfl,rfl,by rw [aj n34];exact ag,ag,aO rfl,λ l5 hl5=>?_⟩;have s5:=aJ (o:=.lst [.bl b0,.bl b1,.bl b2,.bl b3,.bl b4,.bl b5,.bl b6,.bl b7]) (aJ (o:=.lst [.bl b6,.bl b7]) s3 hl4) hl5;have h5:=s5 _ _ hA;refine ⟨_,rfl,.inl ⟨rfl,_,SqL.of ag⟩,l5,_,_,rfl,rfl,ag,rfl,rfl,rfl,_,rfl,?_⟩;refine zbT hc ⟨_,rfl,_,_,_,rfl,zbQ h5 kC kv,_,rfl,au ⟨aO rfl,λ l6 hl6=>?_⟩⟩;have n56:l5≠l6:=aI ag hl6;exact ⟨_,rfl,.inl ⟨rfl,_,SqL.of (by rw [aj n56];exact ag)⟩,l5,_,_,j,rfl,rfl,by rw [aj n56];exact ag,rfl,rfl,⟨.bl true,hj,rfl⟩,hm,l6,_,_,_,rfl,rfl,SqL.of ag,ef hw,q1 _ (aJ s5 hl6)⟩
inductive xB (t:Ad) (vs:List V) (H:Hp) (Q:VK) (_E:XK):Prop
 | i (c:Addr) (r:Int) (xs:List OI) (_:vs=[.ref c,.int r]) (_:ColAt t.bi H c xs) (_:okC xs=true) (_:(∀ o,0<=r->xs[r.toNat]?=some o->∀ H',Same H H'->Q (ov o) H')) (_:(¬ (0<=r/\r < xs.length)->∀ H',Same H H'->Q (.str "norow") H'))
theorem sc_l_value_at:aC ["_law_column", "_law_row", "_law_kept", "_law_found", "e"] ["_law_column", "_law_row"] (av qo):=by walk_at "sc"
theorem ze5(T:Txt K mg t)(CV:bF P w K mg base (CXr P w) 12 t.bi "value" ["self", "row"] (xN t))(C__law_refusal:Cal P w K mg base CX0 1 "_law_refusal" ["_law_kept"] (xp t))(F:Fun K "_law_value_at" "_law_value_at" qo f fd):
  FnOk P w K mg base CX0 13 f fd ["_law_column", "_law_row"] (xB t):=by
 obtain ⟨zjM,zj1,zx,zcL,z9⟩:=CV;refine F.ok sc_l_value_at (λ vs H Q E h=>?_) (λ cdv A outer s H vs Q E hr h=>?_)
 ·obtain ⟨c,r,xs,rfl,_⟩:=h;rfl
 ·obtain ⟨c,r,xs,rfl,⟨dx,hC⟩,ok,k1,k2⟩:=h;refine ⟨_,(ah (aD (i:=2) sc_l_value_at.nd rfl (Or.inl rfl) bx)
  (ah (aD (i:=3) sc_l_value_at.nd rfl (Or.inl rfl) bx)
  (ah (zgl rfl rfl rfl sc_l_value_at.nd (i:=4) rfl rfl (by rfl) T.za8
   (λ pn xe E hE=>(ap (aD (i:=3) sc_l_value_at.nd rfl (Or.inl rfl) (cp (pv 0) T.cC zcL zx (hr.mono (by decide)) z9 .nil hE (aa (pv 1) ad))))) (λ a=>(ap (aD (i:=2) sc_l_value_at.nd rfl (Or.inl rfl) (pv 4)))))
  (ap (ay (c6 (aF dL (pv 2) bx (aB _)) (pv 3) (C__law_refusal.pe hr ax (aa (pv 2) ad)))))))),?_⟩
  refine ba λ N0 hN0=>hN0 _ _ ?_;clear hN0 N0;refine ba λ N0 hN0=>hN0 _ _ ?_;clear hN0 N0;refine ba λ N hN=>?_;refine ⟨_,rfl,c,dx,_,rfl,hC,rfl,_,rfl,c,r,xs,rfl,⟨dx,hC⟩,ok,λ o h0 e H' s1=>hN _ _ ⟨_,rfl,rfl,_,rfl,aA ⟨_,rfl,k1 o h0 e H' s1⟩⟩,λ z H' s1=>⟨T.zco,λ b hb=>⟨_,rfl,hN _ _ ⟨_,rfl,rfl,_,rfl,au ⟨_,rfl,.inr ⟨b,t.cN, "norow", rfl,ag,⟨rfl,rfl⟩,λ H'' s2=>k2 z H'' (s1.trans ((Same.new hb).trans s2))⟩⟩⟩⟩⟩⟩
def eZ(xs:List OI)(es:List Nat):List Blk:=(cW xs 0 es).map λ b=>(bM b,b)
inductive xz (vs:List V) (H:Hp) (Q:VK) (_E:XK):Prop
 | i (p e:Addr) (xs:List OI) (es:List Nat) (_:vs=[.ref p,.ref e]) (_:H p=some (.lst (xs.map ov))) (_:H e=some (.lst (cr es))) (_:xs.length<=64) (_:es.length<=64) (_:Ris xs.length 0 es) (_:∀ (l:Addr) (H':Hp),Same H H'->ko H' l (eZ xs es)->Q (.ref l) H')
theorem sc_l_kinds:aC ["_law_values_here", "_law_ends", "_law_found", "_law_begin", "_law_end"] ["_law_values_here", "_law_ends"] (av qd):=by walk_at "sc"
theorem ze2(T:Txt K mg t)(C__law_best:Cal P w K mg base CX0 4 "_law_best" ["_law_values_here"] (xl K))(F:Fun K "_law_kinds" "_law_kinds" qd f fd):FnOk P w K mg base CX0 5 f fd ["_law_values_here", "_law_ends"] xz:=by
 refine F.ok sc_l_kinds (λ vs H Q E h=>?_) (λ cdv A outer s H vs Q E hr h=>?_)
 ·obtain ⟨p,e,xs,es,rfl,_⟩:=h;rfl
 ·obtain ⟨p,e,xs,es,rfl,hp,he,hx,hes,ris,q⟩:=h;refine ⟨_,(ah (aD (i:=2) sc_l_kinds.nd rfl (Or.inl rfl) (bR ad))
  (ah (aD (i:=3) sc_l_kinds.nd rfl (Or.inl rfl) af)
  (ah (eD PassesOwn.never rfl (bN (pv 1)) (aR (i:=4) sc_l_kinds.nd rfl (Or.inl rfl))
   (ah (ci (cu K PySem.F.plainAttrs_list PySem.F.slot_list_append PySem.F.type_list_append fe (pv 2) (aa (dM (aa (aP (cj K) (C__law_best.pe hr ax (aa (d0 (gk K) (pv 0) (cY (pv 3)) (cY (pv 4))) ad)) af (λ _ _=>rfl)) (aa (ak bK (pv 4) (pv 3)) ad))) ad)))
  (ap (aD (i:=3) sc_l_kinds.nd rfl (Or.inl rfl) (pv 4)))))
  (ap (ay (pv 2)))))),?_⟩
  refine ⟨aO rfl,λ l hl=>?_⟩;have s1:Same H (upd H l (.lst [])):=Same.new hl;have h1:(upd H l (.lst [])) l=some (.lst (([]:List Addr).map V.ref)):=ag;have np:p≠l:=aI hp hl;have ne:e≠l:=aI he hl;show dS _ _ _ (upd H l (.lst [])) _;generalize upd H l (.lst [])=H1 at s1 h1;have hp1:=s1 _ _ hp;have he1:=s1 _ _ he;refine ⟨_,rfl,e,rfl,⟨_,SqL.of he1⟩,⟨gw (K:=K) (a:=e) (xs:=cr es) (λ i σ H'=>∃ (v4:Option V) (ks:List Addr),σ=[some (.ref p),some (.ref e),some (.ref l),some (.int (((0::es).getD i 0:Nat):Int)),v4]/\(∀ b o,b≠l->H1 b=some o->H' b=some o)/\H' l=some (.lst (ks.map V.ref))/\ks.length=i/\
    ∀ (j:Nat) (a:Addr) (b:Blk),ks[j]?=some a->(eZ xs es)[j]?=some b->H' a=some (.tup [.str (kindsS.getD b.1 ""),.int b.2.length]))
   ⟨none,[],rfl,λ b o _ e=>e,h1,rfl,λ j a b e=>by cases e⟩ ?_ ?_ ?_⟩⟩
  ·rintro i σ H' hi ⟨_,_,_,k2,_⟩;exact SqL.of (k2 _ _ ne he1)
  ·rintro i y σ H2 hy ⟨v4,ks,rfl,k2,g2,hk,hks⟩;have hi:i < es.length:=by
    have:=(al_gs.mp hy).1
    rwa [i5] at this
   obtain ⟨r1,r2⟩:=ris.at i hi;have ey:y = .int ((es.getD i 0:Nat):Int):=by
    rw [aH,aH,aG hi] at hy;cases hy;simp only [List.getD,aG hi,Option.getD_some]
   have hg:(eZ xs es)[i]?=_:=(aH ..).trans (congrArg (Option.map _) (iL xs 0 es i hi));have e1:(0::es).getD (i+1) 0=es.getD i 0:=rfl;rw [e1];generalize (0::es).getD i 0=b at r1 hg;generalize es.getD i 0=c at r1 r2 ey hg;subst ey;refine ⟨_,rfl,.inl ⟨rfl,_,SqL.of g2⟩,_,rfl,_,rfl,_,rfl,_,rfl,_,rfl,p,_,rfl,SqL.of (k2 _ _ np hp1),λ l2 hl2=>?_⟩;rw [tW xs (by omega) r2];have hbl:((xs.drop b).take (c - b)).length=c - b:=by rw [bc,List.length_drop];omega
   generalize (xs.drop b).take (c - b)=blk at hg hbl;have s3:=Same.new (o:=.lst (blk.map ov)) hl2;refine ⟨l2,blk,rfl,SqL.of ag,by omega,by omega,λ tl H4 M s4 _ h4=>⟨tl,_,_,_,rfl,rfl,SqT.of h4,bP (by decide) rfl,_,rfl,_,rfl,_,_,rfl,rfl,aO rfl,λ tp htp=>?_⟩⟩;have t4:=s3.trans s4;have t5:=aJ (o:=.tup [.str (kindsS.getD (bM blk) ""),.int ((c:Int) - (b:Int))]) t4 htp;have g5:=t5 _ _ g2;have h5:(upd H4 tp (.tup [.str (kindsS.getD (bM blk) ""),.int ((c:Int) - (b:Int))])) tp=some (.tup [.str (kindsS.getD (bM blk) ""),.int ((c:Int) - (b:Int))]):=ag;generalize upd H4 tp (.tup [.str (kindsS.getD (bM blk) ""),.int ((c:Int) - (b:Int))])=H5 at t5 g5 h5 ⊢;have ntl:tp≠l:=λ z=>by rw [z,g5] at h5;cases h5
   refine ⟨l,_,_,rfl,rfl,g5,?_,_,rfl,some (.int (c:Int)),ks++[tp],rfl,λ b' o nb e=>?_,?_,?_,λ j a z e1 e2=>?_⟩
   ·rw [ae];exact aY (by omega)
   ·rw [aj nb];exact t5 _ _ (k2 b' o nb e)
   ·rw [ag,aE];rfl
   ·rw [bn,hk];rfl
   ·by_cases hj:j < ks.length
    ·rw [List.getElem?_append_left hj] at e1;have:=t5 _ _ (hks j a z e1 e2);rw [aj (λ y=>by rw [y,g5] at this;cases this)];exact this
    ·rw [List.getElem?_append_right (by omega)] at e1;have hji:j - ks.length=0:=by
      have:=(al_gs.mp e1).1;simp at this;omega
     rw [hji] at e1;cases e1;rw [show j=i by omega,hg] at e2;cases e2;rw [aj ntl,h5];show some (HO.tup [V.str _,V.int ((c:Int) - (b:Int))])=some (HO.tup [V.str _,V.int (blk.length:Int)]);rw [hbl,Int.ofNat_sub (by omega)]
  ·rintro σ H2 ⟨v4,ks,rfl,k2,g2,hk,hks⟩;rw [i5] at hk;refine ⟨_,rfl,q l H2 (λ b o e=>k2 b o (aI e hl) (s1 _ _ e)) ⟨ks,g2,?_,hks⟩⟩;rw [hk];unfold eZ;rw [ae,gr]
theorem zh9{xs:List V}(sb:Sb2 t H H')(hT:Tbs t H)(h:SqL K H a xs):SqL K H' a xs:=by
 obtain ⟨⟨p1,e1,_⟩,p2,e2,_⟩:=hT;rcases h with (h | ⟨o,h⟩) | h
 ·exact .inl (.inl (sb a _ (λ z=>by rw [z,e1] at h;cases h) (λ z=>by rw [z,e2] at h;cases h) h))
 ·exact .inl (.inr ⟨o,sb a _ (λ z=>by rw [z,e1] at h;cases h) (λ z=>by rw [z,e2] at h;cases h) h⟩)
 ·exact .inr h
structure WQ (t:Ad) (H H':Hp) (v c:Addr) (xs:List OI):Prop where
 sb:Sb2 t H H'
 tb:Tbs t H'
 hv:H' v=some (.lst (xs.map ov))
 hc:ColAt t.bi H' c xs
theorem WQ.same{t:Ad}{H H1 H2:Hp}{v c:Addr}{xs:List OI}(w:WQ t H H1 v c xs)(s:Same H1 H2):WQ t H H2 v c xs:=⟨w.sb.same s,w.tb.same s,s _ _ w.hv,w.hc.same s⟩
theorem WQ.sb2{v:Addr}(w:WQ t H H1 v c xs)(s:Sb2 t H1 H2)(T:Tbs t H2):WQ t H H2 v c xs:=
 ⟨w.sb.trans s,T,(s.kt w.tb).lst w.hv,let ⟨dx,h⟩:=w.hc;⟨dx,(s.kt w.tb).ins h⟩⟩
theorem WQ.put{v:Addr}(w:WQ t H H1 v c xs)(hl:H1 l=some (.lst zs))(hn:H l=none)(nv:v≠l):WQ t H (upd H1 l o) v c xs:=
 ⟨λ b u n1 n2 e=>by rw [aj (aI e hn)];exact w.sb b u n1 n2 e,⟨lX w.tb.1 hl,lX w.tb.2 hl⟩,by rw [aj nv];exact w.hv,let ⟨dx,h⟩:=w.hc;⟨dx,by rw [aj λ z=>by rw [z,hl] at h;cases h];exact h⟩⟩
theorem x8(x:cQ H p pos q)(k:∀ b o,b≠l->H b=some o->H' b=some o)(e:H l=some (.lst zs)):cQ H' p pos q:=by
 obtain ⟨ps,e1,t1,h⟩:=x;refine ⟨ps,k _ _ (λ z=>by rw [z,e] at e1;cases e1) e1,t1,h.imp id λ ⟨c,e2,h⟩=>⟨c,e2,?_⟩⟩;obtain ⟨oc,vs,t,e3,r⟩:=h;exact ⟨oc,vs,t,k _ _ (λ z=>by rw [z,e] at e3;cases e3) e3,r⟩
theorem WQ.keep{v:Addr}(w:WQ t H H1 v c xs)(k:∀ b o,b≠l->H1 b=some o->H2 b=some o)(hl:H1 l=some (.lst zs))(hn:H l=none)(nv:v≠l):WQ t H H2 v c xs:=
 ⟨λ b u n1 n2 e=>k _ _ (aI e hn) (w.sb b u n1 n2 e),⟨x8 w.tb.1 k hl,x8 w.tb.2 k hl⟩,k _ _ nv w.hv,let ⟨dx,h⟩:=w.hc;⟨dx,k _ _ (λ z=>by rw [z,hl] at h;cases h) h⟩⟩
theorem yc(l:List Nat)(h:i < l.length):l.take (i+1)=l.take i++[l.getD i 0]:=by
 rw [cL,aG h,List.getD,aG h];rfl
theorem vt(a b:List Nat):cr (a++b)=cr a++cr b:=by unfold cr;rw [aE,aE]
theorem zaN{es:List Nat}(ris:Ris xs.length 0 es)(hi:i < es.length){b:Blk}(h:(eZ xs es)[i]?=some b):(0::es).getD i 0+b.2.length=es.getD i 0:=by
 obtain ⟨r1,r2⟩:=ris.at i hi;have hg:(eZ xs es)[i]?=_:=(aH ..).trans (congrArg (Option.map _) (iL xs 0 es i hi));rw [h] at hg;cases hg;show _+((xs.drop _).take _).length=_;rw [bc,List.length_drop];omega
theorem iR:∀ {d e:Nat} {q:QT},dH d q->d<=e->dH e q
 | 0,_,_,h,_=>h.elim
 | d+1,0,_,_,hl=>absurd hl (Nat.not_succ_le_zero _)
 | d+1,e+1,.sm _,_,_=>trivial
 | d+1,e+1,.neg q,h,hl=>iR (q:=q) h (Nat.le_of_succ_le_succ hl)
 | d+1,e+1,.both q r,h,hl=>⟨iR (q:=q) h.1 (Nat.le_of_succ_le_succ hl),iR (q:=r) h.2 (Nat.le_of_succ_le_succ hl)⟩
 | d+1,e+1,.either q r,h,hl=>⟨iR (q:=q) h.1 (Nat.le_of_succ_le_succ hl),iR (q:=r) h.2 (Nat.le_of_succ_le_succ hl)⟩
theorem iS:∀ {d e:Nat} {q:QT},dH d q->e+d<=7->okQ e q=true
 | 0,_,_,h,_=>h.elim
 | d+1,e,.sm _,_,hl=>aV (by omega)
 | d+1,e,.neg q,h,hl=>by rw [okQ,aV (by omega),iS (q:=q) h (by omega)];rfl
 | d+1,e,.both q r,h,hl=>by rw [okQ,aV (by omega),iS (q:=q) h.1 (by omega),iS (q:=r) h.2 (by omega)];rfl
 | d+1,e,.either q r,h,hl=>by rw [okQ,aV (by omega),iS (q:=q) h.1 (by omega),iS (q:=r) h.2 (by omega)];rfl
theorem nZ(f:OI->Bool):∀ {b:Nat} {xs:List OI} {i:Nat} {p:Nat × OI},(bD f b xs)[i]?=some p->b<=p.1/\xs[p.1 - b]?=some p.2
 | b,[],i,p,h=>by rw [bD] at h;cases h
 | b,x::r,i,p,h=>by
  rw [bD] at h;cases e:f x with
  | true=>
   rw [e,if_pos rfl] at h;cases i with
   | zero=>cases h;exact ⟨az _,by rw [Nat.sub_self];rfl⟩
   | succ i=>
    obtain ⟨h1,h2⟩:=nZ f (b:=b+1) (xs:=r) (i:=i) h;refine ⟨by omega,?_⟩;rw [show p.1 - b=(p.1 - (b+1))+1 by omega];exact h2
  | false=>
   rw [e,if_neg bC] at h;obtain ⟨h1,h2⟩:=nZ f (b:=b+1) (xs:=r) (i:=i) h;refine ⟨by omega,?_⟩;rw [show p.1 - b=(p.1 - (b+1))+1 by omega];exact h2
theorem WQ.new{v:Addr}(w:WQ t H H1 v c xs)(T0:Tbs t H)(h:H1 l=none):H l=none:=w.sb.free w.tb h
theorem oR(y:Int)(k:Nat):(List.replicate k [V.int y]).flatten=(List.replicate k (some y:OI)).map ov:=by
 induction k with
 | zero=>rfl
 | succ k ih=>rw [List.replicate_succ,List.replicate_succ,List.flatten_cons,ih];rfl
theorem oS{y:Int}(h:0<=y/\y < 4000000)(k:Nat):(List.replicate k (some y:OI)).all okV=true:=by
 rw [al_ae];intro x hx;rw [List.eq_of_mem_replicate hx];simp only [okV,decide_eq_true_eq];omega
inductive lQ (K:W.Frag) (ts:List Addr) (vs:List V) (H:Hp) (Q:VK) (_E:XK):Prop
 | i (a:Addr) (ns:List Int) (_:vs=[.ref a]) (_:SqL K H a (ns.map V.int)) (_:ns.length<=63) (_:mR H ts) (_:∀ H',Q (.bl true) H')
theorem zb9(ha:as.length=bl.length)(hb:bs.length=bl.length)(pa:∀ (i:Nat) (a:Addr) (b:Blk),as[i]?=some a->bl[i]?=some b->H a=some (.tup [.str (kindsS.getD b.1 ""),.int b.2.length]))(pb:∀ (i:Nat) (a:Addr) (b:Blk),bs[i]?=some a->bl[i]?=some b->H a=some (.tup [.str (kindsS.getD b.1 ""),.int b.2.length]))(j:Nat)(x y:V)(hx:(as.map V.ref)[j]?=some x)(hy:(bs.map V.ref)[j]?=some y):Eqd K H 50 x y:=by
 rw [aH] at hx hy;cases ea:as[j]? with
 | none=>rw [ea] at hx;cases hx
 | some a=>
  cases eb:bs[j]? with
  | none=>rw [eb] at hy;cases hy
  | some b=>
   rw [ea] at hx;rw [eb] at hy;cases hx;cases hy;have hj:j < bl.length:=by
    have:=(al_gs.mp ea).1;omega
   have ec:bl[j]?=some bl[j]:=aG hj;refine Eqd.tup (SqT.of (pa j a _ ea ec)) (SqT.of (pb j b _ eb ec)) rfl λ i u v hu hv=>?_
   match i,hu,hv with
   | 0,hu,hv=>cases hu;cases hv;exact Eqd.flat _ rfl
   | 1,hu,hv=>cases hu;cases hv;exact Eqd.flat _ rfl
   | i+2,hu,hv=>cases hu
theorem zdG:(["_law_k", "_law_script"]:List Str).Nodup:=by decide +kernel
theorem zdH:(["_law_row", "_law_question_here", "_law_values_here"]:List Str).Nodup:=by decide +kernel
theorem zdI:(["_law_row", "_law_values_here"]:List Str).Nodup:=by decide +kernel
theorem sc_law:aC ["_law_script", "_law_values_here", "_law_far", "_law_handed", "_law_column", "_law_ends", "_law_kind", "_law_many", "_law_k", "_law_question_here", "_law_rows", "_law_some", "_law_told", "_law_row", "_law_due"] ["_law_script"] (av io):=by walk_at "sc"
theorem zeY(T:Txt K mg t)(C__law_values:Cal P w K mg base CX0 5 "_law_values" ["_law_script", "_law_k", "_law_most"] (xw K))(C__law_mix:Cal P w K mg base CX0 3 "_law_mix" ["_law_script", "_law_k"] (j4 K))(C__law_question:Cal P w K mg base CX0 7 "_law_question" ["_law_script", "_law_k", "_law_values_here", "_law_deep"] (rE K 4))(C__law_holds:Cal P w K mg base CX0 5 "_law_holds" ["_law_question_here", "_law_value_here"] (rD 4))(C__law_whole:Cal P w K mg base CX0 1 "_law_whole" ["_law_found"] xx)(CI:jl P w K mg base (CXr P w) 10 t.bi ["self", "values"] (wS K t))(CT:bF P w K mg base CX0 11 t.bi "told" ["self"] (lT t))(CZ:bF P w K mg base CX0 12 t.bi "size" ["self"] (xI t))(CB:bF P w K mg base CX0 1 t.bi "bits" ["self"] (wX t))(CK:bF P w K mg base CX0 10 t.bi "kinds" ["self"] (xj t))(CR:bF P w K mg base (CXr P w) 15 t.bi "rows" ["self", "question"] (spA t wx))(CM:bF P w K mg base (CXr P w) 15 t.bi "how_many" ["self", "question"] (spA t wt))(CS:bF P w K mg base (CXr P w) 16 t.bi "total" ["self", "question"] (spA t wA))(CE:bF P w K mg base (CXr P w) 16 t.bi "ends" ["self", "question"] (spA t wp))(iF:Cal P w K mg base (CXr P w) 9 "tight" ["values"] (rM K t))(iz:Cal P w K mg base (CXr P w) 8 "cuts" ["values"] (rj K t))(C__law_kinds:Cal P w K mg base CX0 5 "_law_kinds" ["_law_values_here", "_law_ends"] xz)(C__law_value_at:Cal P w K mg base CX0 13 "_law_value_at" ["_law_column", "_law_row"] (xB t))(F:Fun K "law" "law" io f fd):FnOk P w K mg base CX0 17 f fd ["_law_script"] (lQ K [t.p_check_question_of,t.p_marked_values]):=by
 obtain ⟨zjz,zjN,zk,zcz,zS⟩:=CI;obtain ⟨ul,uo,gO,hU,gR⟩:=CT;obtain ⟨zjK,zjY,zu,zcJ,z7⟩:=CZ;obtain ⟨zjC,zjQ,zn,zcC,zV⟩:=CB;obtain ⟨zjH,zjV,sr,vj,sN⟩:=CK;obtain ⟨zjJ,zjX,zt,zcI,z6⟩:=CR;obtain ⟨zjF,zjT,sk,vi,sM⟩:=CM;obtain ⟨f_total,zj0,su,vk,sO⟩:=CS;obtain ⟨zjD,zjR,zo,zcD,zW⟩:=CE;refine F.ok sc_law (λ vs H Q E h=>?_) (λ cdv A outer s H vs Q E hr h=>?_)
 ·obtain ⟨a,ns,rfl,_⟩:=h;rfl
 ·obtain ⟨p,ns,rfl,hS,hl,hZ,q⟩:=h;have hu:=ge hr;have kZ:=kZ hr;have hT:Tbs t H:=⟨⟨#[],hZ _ (.head _),trivial,.inl rfl⟩,#[],hZ _ (.tail _ (.head _)),trivial,.inl rfl⟩
  have fl:∀ xs:List OI,(xs.map ov).all b9=true:=λ xs=>by rw [List.all_map,al_ae];exact λ x _=>oG x
  have cd:∀ {a b:Int},0 < b->b < 1073741824->md a b:=λ h1 h2=>⟨h1,h2⟩
  refine ⟨_,(ah (aD (i:=1) sc_law.nd rfl (Or.inr rfl) (ak fP (C__law_values.pe hr ax (aa (pv 0) (aa af (aa af ad)))) (C__law_values.pe hr ax (aa (pv 0) (aa af (aa af ad))))))
  (ah (aW (aF cb (ak cE (C__law_mix.pe hr ax (aa (pv 0) (aa af ad))) af) af (aB _)) (ah (fk (i:=2) sc_law.nd rfl (Or.inl rfl) (N:=["_law_k", "_law_script"]) (fr:=[none,some 0]) ⟨rfl,rfl,rfl,rfl,rfl,rfl⟩ rfl (fi (by rfl) T.dB (aa af ad))
    (λ C fp s H=>⟨aR (i:=0) zdG rfl (Or.inl rfl),bS,(ak cE (C__law_mix.pe hr ax (aa (pv 1) (aa (ak a7 af (pv 0)) ad))) af)⟩))
  (ap (aD (i:=1) sc_law.nd rfl (Or.inr rfl) (ak fP (ak fP (ak jO (bR (aa (aP (bq K) (pv 2) af (λ _ _=>rfl)) ad)) af) (ak jO (bR (aa (aP (bq K) (pv 2) af (λ _ _=>rfl)) ad)) af)) (ak jO (bR (aa (aP (bq K) (pv 2) af (λ _ _=>rfl)) ad)) (ak a7 af (ak cE (C__law_mix.pe hr ax (aa (pv 0) (aa af ad))) af)))))))
   a8)
  (ah (aD (i:=3) sc_law.nd rfl (Or.inl rfl) (ij (zaq K) (by rfl) T.jK PyProof.Rows.Boot.«list» (aa (pv 1) ad)))
  (ah (aD (i:=4) sc_law.nd rfl (Or.inl rfl) (vX zcz zk (hr.mono (by decide)) rfl T.za4 zS .nil cF (aa (pv 3) ad)))
  (ah (ci (cu K PySem.F.plainAttrs_list PySem.F.slot_list_append PySem.F.type_list_append fe (pv 3) (aa af ad)))
  (ah (ci (cu K PySem.F.plainAttrs_list PySem.F.slot_list_append PySem.F.type_list_append fe (di (pv 4) T.cC hU gO (hr.mono (by decide)) gR .nil ax) (aa af ad)))
  (ah (aW (PW.pt (dO (aF (oC K hu) (di (pv 4) T.cC hU gO (hr.mono (by decide)) gR .nil ax) (pv 1) (aB _)) (dO (aF dW (di (pv 4) T.cC zcJ zu (hr.mono (by decide)) z7 .nil ax) (aM (bQ K) (by rfl) T.bv PyProof.Rows.Boot.«len» (aa (pv 1) ad)) (aB _)) (eN (aF dW (di (pv 4) T.cC zcC zn (hr.mono (by decide)) zV .nil ax) (iF.pe hr cF (aa (pv 1) ad)) (aB _)))))) (ap (ay dX))
   a8)
  (ah (aD (i:=5) sc_law.nd rfl (Or.inl rfl) (bR (aa af ad)))
  (ah (eD PassesOwn.never rfl (bN (di (pv 4) T.cC vj sr (hr.mono (by decide)) sN .nil ax)) (fg K (n:=2) rfl (cK (aR (i:=6) sc_law.nd rfl (Or.inl rfl)) (cK (aR (i:=7) sc_law.nd rfl (Or.inl rfl)) fh)))
   (ap (ci (cu K PySem.F.plainAttrs_list PySem.F.slot_list_append PySem.F.type_list_append fe (pv 5) (aa (ak a7 (aP (bq K) (pv 5) (dC dF af) (λ _ _=>rfl)) (pv 7)) ad)))))
  (ah (aW (PW.pt (dO (aF (oC K hu) (d0 (gk K) (pv 5) (cY af) fB) (iz.pe hr cF (aa (pv 1) ad)) (aB _)) (eN (aF (zfM K kZ) (di (pv 4) T.cC vj sr (hr.mono (by decide)) sN .nil ax) (C__law_kinds.pe hr ax (aa (pv 1) (aa (d0 (gk K) (pv 5) (cY af) fB) ad))) (aB _))))) (ap (ay dX))
   a8)
  (ah (eD PassesOwn.never rfl (fi (by rfl) T.dB (aa af ad)) (aR (i:=8) sc_law.nd rfl (Or.inl rfl))
   (ah (aD (i:=9) sc_law.nd rfl (Or.inr rfl) (C__law_question.pe hr ax (aa (pv 0) (aa (ak a7 af (pv 8)) (aa (pv 1) (aa (ak a7 af (ak cE (C__law_mix.pe hr ax (aa (pv 0) (aa af ad))) af)) ad))))))
  (ah (fk (i:=10) sc_law.nd rfl (Or.inl rfl) (N:=["_law_row", "_law_question_here", "_law_values_here"]) (fr:=[none,some 9,some 1]) ⟨rfl,rfl,rfl,rfl,rfl,rfl⟩ rfl (fi (by rfl) T.dB (aa (aM (bQ K) (by rfl) T.bv PyProof.Rows.Boot.«len» (aa (pv 1) ad)) ad))
    (λ C fp s H=>⟨aR (i:=0) zdH rfl (Or.inl rfl),(fz (dE (C__law_holds.pe hr ax (aa (pv 1) (aa (aP (bq K) (pv 2) (pv 0) (λ _ _=>rfl)) ad))))),(pv 0)⟩))
  (ah (fk (i:=11) sc_law.nd rfl (Or.inl rfl) (N:=["_law_row", "_law_values_here"]) (fr:=[none,some 1]) ⟨rfl,rfl,rfl,rfl,rfl,rfl⟩ rfl (bN (pv 10))
    (λ C fp s H=>⟨aR (i:=0) zdI rfl (Or.inl rfl),(fz (aF gF (aP (bq K) (pv 1) (pv 0) (λ _ _=>rfl)) bx (aB _))),(aP (bq K) (pv 1) (pv 0) (λ _ _=>rfl))⟩))
  (ah (aD (i:=12) sc_law.nd rfl (Or.inl rfl) (cp (pv 4) T.cC zcI zt (hr.mono (by decide)) z6 .nil cF (aa (pv 9) ad)))
  (ah (aW (PW.pt (dO (aF (oC K hu) (pv 12) (pv 10) (aB _)) (dO (aF dW (cp (pv 4) T.cC vi sk (hr.mono (by decide)) sM .nil cF (aa (pv 9) ad)) (aM (bQ K) (by rfl) T.bv PyProof.Rows.Boot.«len» (aa (pv 10) ad)) (aB _)) (eN (aF dW (cp (pv 4) T.cC vk su (hr.mono (by decide)) sO .nil cF (aa (pv 9) ad)) (aM (tK K rfl) (by rfl) T.vI PyProof.Rows.Boot.«sum» (aa (pv 11) ad)) (aB _)))))) (ap (ay dX))
   a8)
  (ah (aW (PW.pt (dO (eE (dE (C__law_whole.pe hr ax (aa (cp (pv 4) T.cC vi sk (hr.mono (by decide)) sM .nil cF (aa (pv 9) ad)) ad)))) (eN (eE (dE (C__law_whole.pe hr ax (aa (cp (pv 4) T.cC vk su (hr.mono (by decide)) sO .nil cF (aa (pv 9) ad)) ad))))))) (ap (ay dX))
   a8)
  (ah (aW (aF (OpR.alt (zfN K kZ) dW) (cp (pv 4) T.cC zcD zo (hr.mono (by decide)) zW .nil cF (aa (pv 9) ad)) (c6 (i9 K (pv 11)) (dM (aa (aM (jv K rfl) (by rfl) T.gC PyProof.Rows.Boot.«min» (aa (pv 11) ad)) (aa (aM (ju K rfl) (by rfl) T.gB PyProof.Rows.Boot.«max» (aa (pv 11) ad)) ad))) bx) (aB _)) (ap (ay dX))
   a8)
  (ap (ci (cu K PySem.F.plainAttrs_list PySem.F.slot_list_append PySem.F.type_list_append fe (pv 12) (aa af ad))))))))))))
  (ah (eD PassesOwn.never rfl (lB (by rfl) T.dB (aa (dC dF af) (aa (ak a7 (aM (bQ K) (by rfl) T.bv PyProof.Rows.Boot.«len» (aa (pv 1) ad)) af) ad))) (aR (i:=13) sc_law.nd rfl (Or.inl rfl))
   (ah (aD (i:=14) sc_law.nd rfl (Or.inl rfl) (c6 (wj i7 ig af (pv 13) (aM (bQ K) (by rfl) T.bv PyProof.Rows.Boot.«len» (aa (pv 1) ad))) (aP (bq K) (pv 1) (pv 13) (λ _ _=>rfl)) aQ))
  (ap (aW (aF dW (C__law_value_at.pe hr ax (aa (pv 4) (aa (pv 13) ad))) (pv 14) (aB _)) (ap (ay dX))
   a8))))
  (ap (ay (dY (zfK K hu) (di (pv 4) T.cC hU gO (hr.mono (by decide)) gR .nil ax) (pv 1) (aB _)))))))))))))))),?_⟩
  refine ba λ N0 hN0=>⟨_,rfl,p,ns,0,7,rfl,hS,by decide,λ v1 H1 x1 s1 hv1 h1 hx1 ok1=>⟨_,rfl,p,ns,30,7,rfl,s1.seq hS,by decide,λ v2 H2 x2 s2 hv2 h2 hx2 ok2=>⟨v1,v2,_,_,rfl,rfl,s2 _ _ h1,h2,?_,λ v hv=>hN0 _ _ ?_⟩⟩⟩
  ·rw [ae,ae];exact aX (aY (by omega))
  clear hN0 N0;rw [← aE];have ok3:(x1++x2).all okV=true:=by rw [List.all_append,ok1,ok2];rfl
  have l3:(x1++x2).length<=25:=by rw [bn];omega
  have nv3:H v=none:=(s1.trans s2).free hv;refine eI (P:=cU _ _ _ _) (s1.trans s2) hv λ H3 t3 h3=>?_;generalize x1++x2=xs3 at h3 ok3 l3;refine ba λ N hN=>?_;have RA:∀ (v:Addr) (xs:List OI) (fa:Option V) (H4:Hp),Same H H4->H v=none->H4 v=some (.lst (xs.map ov))->xs.length<=25->xs.all okV=true->N [some (.ref p),some (.ref v),fa,none,none,none,none,none,none,none,none,none,none,none,none] H4:=λ v xs fa H4 t4 nv4 hv4 hx ok=>hN _ _ ?B
  case B=>
   clear hN N;have okc:okC xs=true:=zea (by omega) ok;refine ba λ N0 hN0=>⟨_,rfl,v,_,rfl,.inl (SqL.of hv4),λ lh hlh=>hN0 _ _ ?_⟩
   clear hN0 N0;have nh:H lh=none:=t4.free hlh;have nvh:v≠lh:=aI hv4 hlh;refine eI (P:=cU _ _ _ _) (Same.refl _) hlh λ H5 s5 h5=>?_;have t5:=t4.trans s5;refine ba λ N0 hN0=>⟨_,rfl,λ c dx hc hdx nc=>⟨c,dx,lh,xs,rfl,ag,SqL.of ?_,by omega,λ _ H6 hC kp=>⟨rfl,hN0 _ _ ?_⟩,λ z=>absurd okc (by rw [z];exact bC)⟩⟩
   ·rw [aj (aI h5 hc),aj (aI h5 hdx)];exact h5
   clear hN0 N0;have s6:Same H5 H6:=λ b o e=>kp b o (aI e hc) (by rw [aj (aI e hc),aj (aI e hdx)];exact e);have h6:=s6 _ _ h5;have W6:WQ t H H6 v c xs:=⟨λ b o _ _ e=>s6 _ _ (t5 b o e),(hT.same t5).same s6,s6 _ _ (s5 _ _ hv4),hC⟩
   show cU _ _ _ [some (.ref p),some (.ref v),fa,some (.ref lh),some (.ref c),none,none,none,none,none,none,none,none,none,none] H6;refine ba λ N0 hN0=>⟨_,rfl,.inl ⟨rfl,_,SqL.of h6⟩,lh,_,_,rfl,rfl,h6,?_,hN0 _ _ ?_⟩
   ·rw [ae];exact aY (by omega)
   clear hN0 N0;have W7:WQ t H (upd H6 lh (.lst (xs.map ov++[.int 5]))) v c xs:=W6.put h6 nh nvh;generalize upd H6 lh (.lst (xs.map ov++[.int 5]))=H7 at W7;obtain ⟨dx7,hC7⟩:=id W7.hc;refine ba λ N0 hN0=>⟨_,rfl,c,dx7,_,rfl,hC7,rfl,c,xs,rfl,⟨dx7,hC7⟩,okc,λ lt H8 s8 hlt h8=>⟨.inl ⟨rfl,_,SqL.of h8⟩,lt,_,_,rfl,rfl,h8,?_,hN0 _ _ ?_⟩⟩
   ·rw [ae];exact aY (by omega)
   clear hN0 N0;have W9:WQ t H (upd H8 lt (.lst (xs.map ov++[.int 7]))) v c xs:=(W7.same s8).put h8 (W7.new hT hlt) (aI W7.hv hlt);generalize upd H8 lt (.lst (xs.map ov++[.int 7]))=H9 at W9;show cU _ _ _ [some (.ref p),some (.ref v),fa,some (.ref lh),some (.ref c),none,none,none,none,none,none,none,none,none,none] H9;clear W6 W7 h6 h8 hC7 kp hC s6 s8 hlt;obtain ⟨d9,hC9⟩:=id W9.hc;refine ba λ N0 hN0=>⟨_,rfl,c,d9,_,rfl,hC9,rfl,c,xs,rfl,⟨d9,hC9⟩,okc,λ l10 H10 s10 hl10 h10=>⟨_,rfl,l10,v,_,_,rfl,rfl,SqL.of h10,SqL.of (s10 _ _ W9.hv),fl xs,fl xs,_,rfl,?_⟩⟩
   rw [jz (fl xs)];have W10:=W9.same s10;have hC10:=s10 _ _ hC9;refine au ⟨_,rfl,c,d9,_,rfl,hC10,rfl,c,xs,rfl,⟨d9,hC10⟩,okc,λ H11 s11=>⟨_,rfl,v,_,rfl,.inl (SqL.of (s11 _ _ W10.hv)),rfl,_,rfl,?_⟩⟩;rw [ae,aV rfl];have W11:=W10.same s11;have hC11:=s11 _ _ hC10;refine au ⟨_,rfl,c,d9,_,rfl,hC11,rfl,c,xs,rfl,⟨d9,hC11⟩,_,rfl,v,xs,rfl,SqL.of W11.hv,by omega,λ _ H12 s12=>⟨rfl,_,rfl,?_⟩,λ z=>absurd okc (by rw [z];exact bC)⟩;rw [aV rfl];refine au (hN0 _ _ ?_);clear hN0 N0;have W12:=W11.same s12;clear W9 W10 W11 hC9 hC10 hC11 s10 s11 s12 h10 hl10
   -- the ends
   refine ba λ N0 hN0=>⟨aO rfl,λ el hel=>hN0 _ _ ?_⟩
   clear hN0 N0;have W13:WQ t H (upd H12 el (.lst [.int 0])) v c xs:=W12.same (Same.new hel);have h13:(upd H12 el (.lst [.int 0])) el=some (.lst (cr [0])):=ag;have nel:H el=none:=W12.new hT hel;have nve:v≠el:=aI W12.hv hel;show cU _ _ _ [some (.ref p),some (.ref v),fa,some (.ref lh),some (.ref c),some (.ref el),none,none,none,none,none,none,none,none,none] (upd H12 el (.lst [.int 0]));generalize upd H12 el (.lst [.int 0])=H13 at W13 h13 ⊢;clear W12 hel;have ris:=kN xs xs.length;have hcl:=kK xs;have ecb:ei xs=eZ xs (br xs xs.length):=rfl;have hel:(eZ xs (br xs xs.length)).length=(br xs xs.length).length:=by unfold eZ;rw [ae,gr]
   rw [ecb,hel] at hcl;obtain ⟨d13,hC13⟩:=id W13.hc;refine ba λ N0 hN0=>⟨_,rfl,c,d13,_,rfl,hC13,rfl,c,xs,rfl,⟨d13,hC13⟩,okc,λ kl H14 s14 hkl KA=>?_⟩
   rw [ecb] at KA;obtain ⟨ks,k1,k2,k3⟩:=KA;rw [hel] at k2;have W14:=W13.same s14;have h14:=s14 _ _ h13;have nkl:kl≠el:=(aI h13 hkl).symm;refine ⟨kl,rfl,⟨_,SqL.of k1⟩,⟨gw (K:=K) (a:=kl) (xs:=ks.map V.ref) (λ i σ H'=>∃ v6 v7:Option V,σ=[some (.ref p),some (.ref v),fa,some (.ref lh),some (.ref c),some (.ref el),v6,v7,none,none,none,none,none,none,none]/\(∀ b o,b≠el->H14 b=some o->H' b=some o)/\H' el=some (.lst (cr ((0::br xs xs.length).take (i+1)))))
    ⟨none,none,rfl,λ b o _ e=>e,h14⟩ ?_ ?_ ?_⟩⟩
   ·rintro i σ H' hi ⟨_,_,_,k,_⟩;exact SqL.of (k _ _ nkl k1)
   ·rintro i y σ H15 hy ⟨v6,v7,rfl,k15,g15⟩;have hik:i < ks.length:=by have:=(al_gs.mp hy).1;rwa [ae] at this
    have hie:i < (br xs xs.length).length:=by omega
    rw [aH,aG hik] at hy;cases hy;have eb:(eZ xs (br xs xs.length))[i]?=some ((eZ xs (br xs xs.length))[i]'(by omega)):=aG (by omega);have z1:=k3 i ks[i] _ (aG hik) eb;have dl:=zaN ris hie eb;generalize (eZ xs (br xs xs.length))[i]'(by omega)=bb at z1 dl;have z1:=k15 _ _ (λ z=>by rw [z,h14] at z1;cases z1) z1;have e1:=yc (0::br xs xs.length) (i:=i) (by rw [bY];omega);have e2:=yc (0::br xs xs.length) (i:=i+1) (by rw [bY];omega);rw [show (0::br xs xs.length).getD (i+1) 0=(br xs xs.length).getD i 0 from rfl] at e2;have el1:atI (cr ((0::br xs xs.length).take (i+1))) (-1)=some (.int (((0::br xs xs.length).getD i 0:Nat):Int)):=by rw [e1,vt];exact kE _ _
    refine ⟨ks[i],_,rfl,SqT.of z1,rfl,_,_,rfl,_,_,rfl,rfl,?_⟩;refine ⟨_,rfl,.inl ⟨rfl,_,SqL.of g15⟩,_,rfl,1,rfl,el,_,_,_,rfl,rfl,SqL.of g15,el1,_,rfl,_,_,rfl,rfl,el,_,_,rfl,rfl,g15,?_,some (.str (kindsS.getD bb.1 "")),some (.int bb.2.length),rfl,λ b o nb e=>?_,?_⟩
    ·rw [i5,bc];exact aY (by have:=Nat.min_le_right (i+1) (0::br xs xs.length).length;rw [bY] at this;omega)
    ·rw [aj nb];exact k15 b o nb e
    ·rw [ag,e2,vt,← dl];rfl
   rintro σ H15 ⟨v6,v7,rfl,k15,g15⟩;rw [ae,k2,List.take_of_length_le (by rw [bY];exact az _)] at g15;have W15:WQ t H H15 v c xs:=W14.keep k15 h14 nel nve;refine hN0 _ _ ?_;clear hN0 N0;clear k15 W14 h14 k1 k2 k3 s14 hkl nkl h13 W13 hC13;have nfl:∀ l:List Nat,(cr l).all b9=true:=λ l=>by unfold cr;rw [List.all_map,List.all_map,al_ae];exact λ _ _=>rfl
   obtain ⟨d15,hC15⟩:=id W15.hc;refine ba λ N0 hN0=>⟨_,rfl,1,rfl,el,_,rfl,SqL.of g15,λ l16 hl16=>?_⟩
   rw [show cH (cr (0::br xs xs.length)) (some 1) none=cr (br xs xs.length) from jg _ _];have s16:=Same.new (o:=.lst (cr (br xs xs.length))) hl16;refine ⟨_,rfl,v,xs,rfl,SqL.of (s16 _ _ W15.hv),by omega,λ _ f17 H17 s17 hf17 h17=>⟨l16,f17,cr (br xs xs.length),cr (br xs xs.length),rfl,rfl,SqL.of (s17 _ _ ag),SqL.of h17,nfl _,nfl _,_,rfl,?_⟩,λ z=>absurd okc (by rw [z];exact bC)⟩;rw [jz (nfl _)];have t17:=s16.trans s17;have W17:=W15.same t17;have hC17:=t17 _ _ hC15;refine au ⟨_,rfl,c,d15,_,rfl,hC17,rfl,c,xs,rfl,⟨d15,hC17⟩,okc,λ k18 H18 s18 hk18 KA=>⟨_,rfl,_,rfl,1,rfl,el,_,rfl,SqL.of (s18 _ _ (t17 _ _ g15)),λ l19 hl19=>?_⟩⟩;rw [show cH (cr (0::br xs xs.length)) (some 1) none=cr (br xs xs.length) from jg _ _];have s19:=Same.new (o:=.lst (cr (br xs xs.length))) hl19;refine ⟨v,l19,xs,br xs xs.length,rfl,s19 _ _ (s18 _ _ W17.hv),ag,by omega,by omega,ris,λ k20 H20 s20 KB=>?_⟩;rw [ecb] at KA;obtain ⟨as,a1,a2,a3⟩:=zha (s19.trans s20) KA;obtain ⟨bs,b1,b2,b3⟩:=KB;refine ⟨k18,k20,_,_,rfl,rfl,SqL.of a1,SqL.of b1,by rw [ae,ae,a2,b2],zb9 a2 b2 a3 b3,_,rfl,au (hN0 _ _ ?_)⟩;clear hN0 N0;have W20:=((W17.same s18).same s19).same s20;show cU _ _ _ [some (.ref p),some (.ref v),fa,some (.ref lh),some (.ref c),some (.ref el),v6,v7,none,none,none,none,none,none,none] H20;clear a1 a2 a3 b1 b2 b3 KA s20 s19 s18 s17 s16 hl19 hl16 W17 W15 hC17 hC15 g15 t17 h17
   -- the questions
   refine ba λ N hN=>⟨3,rfl,by decide,by decide,⟨iT (λ i σ H'=>∃ u8 u9 u10 u11 u12:Option V,σ=[some (.ref p),some (.ref v),fa,some (.ref lh),some (.ref c),some (.ref el),v6,v7,u8,u9,u10,u11,u12,none,none]/\WQ t H H' v c xs) ⟨none,none,none,none,none,rfl,W20⟩ ?_ ?_⟩⟩
   ·rintro i σ H21 hi ⟨u8,u9,u10,u11,u12,rfl,W21⟩;have m0:=Int.emod_nonneg (mix ns 58) (b:=4) (by decide);have m1:=Int.emod_lt_of_pos (mix ns 58) (b:=4) (by decide);obtain ⟨d,ed,hd1,hd4⟩:∃ d:Nat,(1+mix ns 58 % 4:Int)=d/\1<=d/\d<=4:=⟨(1+mix ns 58 % 4).toNat,by omega,by omega,by omega⟩
    have hS21:=zh9 W21.sb hT hS;show cU _ _ _ [some (.ref p),some (.ref v),fa,some (.ref lh),some (.ref c),some (.ref el),v6,v7,some (.int (0+(i:Int))),u9,u10,u11,u12,none,none] H21;refine ba λ N1 hN1=>⟨_,rfl,_,rfl,_,_,rfl,rfl,_,rfl,_,rfl,p,ns,58,rfl,hS21,_,_,rfl,rfl,(by show (0:Int) < 4;decide),_,_,rfl,rfl,p,v,ns,60+(0+(i:Int)),xs,d,?_,hS21,W21.hv,by omega,hd1,by omega,λ a qq H22 s22 hq hf=>hN1 _ _ ?_⟩
    ·show [V.ref p,V.int (60+(0+(i:Int))),V.ref v,V.int (1+mix ns 58 % 4)]=_;rw [ed]
    clear hN1 N1;have W22:=W21.same s22;have okq:okQ 1 qq=true:=iS hf (by omega);have hf4:dH 4 qq:=iR hf hd4;clear hS21 hf ed hd1 hd4 m0 m1
    -- the rows that are due
    refine ba λ N1 hN1=>⟨_,rfl,v,_,rfl,.inl (SqL.of W22.hv),?_⟩
    rw [ae];refine ⟨_,rfl,by omega,by omega,?_⟩;rw [Int.toNat_natCast];refine ⟨fJ (n:=xs.length) (λ j acc H'=>Same H22 H'/\acc=((bD qq.holds 0 (xs.take j)).map λ p=>(p.1:Int)).map V.int) ⟨Same.refl _,rfl⟩ ?_ (aX (aY (by omega))) ?_ ?_⟩
    ·rintro j acc H' hj ⟨_,rfl⟩;have:=gx qq.holds 0 (xs.take j);rw [bc] at this;rw [ae,ae];omega
    ·rintro j acc H' hj ⟨s4,rfl⟩;have ej:=aG hj;have hz:(0+(j:Int)).toNat=j:=by omega
     refine ⟨Wk.set rfl,_,rfl,_,rfl,_,rfl,v,_,_,_,rfl,rfl,SqL.of (s4 _ _ W22.hv),bP (by omega) (by rw [hz,aH,ej];rfl),a,xs[j],qq,rfl,hq.kt (eO s4),hf4,λ H5 s5=>⟨_,rfl,?_⟩⟩;have ht:=uK qq.holds 0 (xs.take j) xs[j];rw [← show xs.take (j+1)=xs.take j++[xs[j]] by rw [cL,ej];rfl,bc,Nat.min_eq_left (aX hj),Nat.zero_add] at ht;cases e:qq.holds xs[j] with
     | false=>exact au (cw hj ⟨s4.trans s5,by rw [ht,e];simp⟩)
     | true=>exact aA ⟨_,rfl,cw hj ⟨s4.trans s5,by rw [ht,e,aE,aE,Int.zero_add];rfl⟩⟩
    rintro acc H23 ⟨s23,rfl⟩ r10 hr10;rw [aZ];refine eI (P:=N1 _) s23 hr10 λ H24 s24 h24=>?_;refine hN1 _ _ ?_;clear hN1 N1;have W24:=W22.same s24;have hq24:=hq.kt (eO s24);have hgt:∀ (j:Nat) p,(bD qq.holds 0 xs)[j]?=some p->xs[p.1]?=some p.2:=λ j p e=>(nZ qq.holds e).2;have hhl:=gx qq.holds 0 xs;clear W22 s24 s23 hq hr10
    -- their numbers
    refine ba λ N1 hN1=>⟨_,rfl,r10,rfl,⟨_,SqL.of h24⟩,⟨cD (K:=K) (xs:=((bD qq.holds 0 xs).map λ p=>(p.1:Int)).map V.int) (λ j acc H'=>Same H24 H'/\acc=(numsOf ((bD qq.holds 0 xs).take j)).map V.int) ⟨Same.refl _,rfl⟩ ?_ ?_ ?_ ?_⟩⟩
    ·rintro j acc H' hj ⟨s4,rfl⟩;have:=vK ((bD qq.holds 0 xs).take j);rw [bc] at this;exact ⟨SqL.of (s4 _ _ h24),by rw [ae];omega⟩
    ·rw [ae,ae];exact aX (aY (by omega))
    ·rintro j x acc H' hx hlt ⟨s4,rfl⟩;have hj:j < (bD qq.holds 0 xs).length:=by rw [ae,ae] at hlt;exact hlt
     have ej:=aG hj;rw [aH,aH,ej] at hx;cases hx;have eg:=hgt j _ ej;have tk:numsOf ((bD qq.holds 0 xs).take (j+1))=numsOf ((bD qq.holds 0 xs).take j)++numsOf [(bD qq.holds 0 xs)[j]]:=by rw [cL,ej];exact List.filterMap_append
     generalize (bD qq.holds 0 xs)[j]=pp at eg tk;obtain ⟨n,o⟩:=pp;have ai:atI (xs.map ov) (n:Int)=some (ov o):=ef (by rw [aH,eg];rfl);refine ⟨Wk.set rfl,_,rfl,_,rfl,v,_,_,_,rfl,rfl,SqL.of (s4 _ _ W24.hv),ai,rfl,_,rfl,?_⟩;cases o with
     | none=>exact au (cw hlt ⟨s4,by rw [tk];exact congrArg _ (List.append_nil _).symm⟩)
     | some x=>exact aA ⟨_,rfl,_,rfl,v,_,_,_,rfl,rfl,SqL.of (s4 _ _ W24.hv),ai,cw hlt ⟨s4,by rw [tk,aE];rfl⟩⟩
    rintro acc H25 ⟨s25,rfl⟩ r11 hr11;rw [ae,ae,aZ];refine eI (P:=N1 _) s25 hr11 λ H26 s26 h26=>?_;refine hN1 _ _ ?_;clear hN1 N1;have W26:=W24.same s26;have hq26:=hq24.kt (eO s26);have g26:=s26 _ _ h24;clear W24 s26 s25 hq24 hr11 h24;have bad:∀ {X:Prop},okQ 1 qq=false->X:=λ z=>by rw [okq] at z;cases z
    -- what the column tells
    obtain ⟨d26,hC26⟩:=id W26.hc;refine ba λ N1 hN1=>⟨_,rfl,c,d26,_,rfl,hC26,rfl,_,rfl,c,a,qq,xs,rfl,W26.hc,okc,hq26,W26.tb,λ _ v12 H27 sb hT27 ⟨r12,e12,h27,n12⟩=>?_,λ z=>bad z⟩
    subst e12;refine hN1 _ _ ?_;clear hN1 N1;have k27:=sb.kt W26.tb;have W27:=W26.sb2 sb hT27;have hq27:=hq26.kt k27;have g27:=k27.lst g26;have s27:=k27.lst h26;have nv12:v≠r12:=λ z=>by rw [← z,W26.hv] at n12;cases n12
    have nb12:=W26.new hT n12;have ifl:∀ l:List Int,(l.map V.int).all b9=true:=λ l=>by rw [List.all_map,al_ae];exact λ _ _=>rfl
    show cU _ _ _ [some (.ref p),some (.ref v),fa,some (.ref lh),some (.ref c),some (.ref el),v6,v7,some (.int (0+(i:Int))),some (.ref a),some (.ref r10),some (.ref r11),some (.ref r12),none,none] H27;clear sb hT27 W26 hq26 g26 h26 hC26;refine ba λ N1 hN1=>⟨_,rfl,_,rfl,r12,r10,_,_,rfl,rfl,SqL.of h27,SqL.of g27,ifl _,ifl _,_,rfl,?_⟩
    rw [jz (ifl _)];obtain ⟨d27,hC27⟩:=id W27.hc;refine au ⟨_,rfl,c,d27,_,rfl,hC27,rfl,_,rfl,c,a,qq,xs,rfl,W27.hc,okc,hq27,W27.tb,λ _ v28 H28 sb hT28 e28=>?_,λ z=>bad z⟩;cases (show v28 = .int (bD qq.holds 0 xs).length from e28);have k28:=sb.kt W27.tb;have W28:=W27.sb2 sb hT28;have hq28:=hq27.kt k28;have g28:=k28.lst g27;have s28:=k28.lst s27;have h28:=k28.lst h27;refine ⟨_,rfl,r10,_,rfl,.inl (SqL.of g28),rfl,_,rfl,?_⟩;rw [ae,ae,aV rfl];clear sb hT28 hC27;obtain ⟨d28,hC28⟩:=id W28.hc;refine au ⟨_,rfl,c,d28,_,rfl,hC28,rfl,_,rfl,c,a,qq,xs,rfl,W28.hc,okc,hq28,W28.tb,λ _ v29 H29 sb hT29 e29=>?_,λ z=>bad z⟩;cases (show v29 = .int (numsOf (bD qq.holds 0 xs)).sum from e29);have k29:=sb.kt W28.tb;have W29:=W28.sb2 sb hT29;have hq29:=hq28.kt k29;have g29:=k29.lst g28;have s29:=k29.lst s28;have h29:=k29.lst h28;refine ⟨_,rfl,r11,_,rfl,SqL.of s29,rfl,_,rfl,?_⟩;rw [aV rfl];refine au (hN1 _ _ ?_);clear hN1 N1 sb hT29 hC28 W27 W28 hq27 hq28 g27 g28 s27 s28 h27 h28 k27 k28 k29;obtain ⟨d29,hC29⟩:=id W29.hc;refine ba λ N1 hN1=>⟨_,rfl,c,d29,_,rfl,hC29,rfl,_,rfl,c,a,qq,xs,rfl,W29.hc,okc,hq29,W29.tb,λ _ v30 H30 sb hT30 e30=>?_,λ z=>bad z⟩
    cases (show v30 = .int (bD qq.holds 0 xs).length from e30);have k30:=sb.kt W29.tb;have W30:=W29.sb2 sb hT30;have hq30:=hq29.kt k30;have s30:=k30.lst s29;have h30:=k30.lst h29;clear sb hT30 hC29;obtain ⟨d30,hC30⟩:=id W30.hc;refine ⟨_,rfl,_,rfl,au ⟨_,rfl,c,d30,_,rfl,hC30,rfl,_,rfl,c,a,qq,xs,rfl,W30.hc,okc,hq30,W30.tb,λ _ v31 H31 sb hT31 e31=>?_,λ z=>bad z⟩⟩;cases (show v31 = .int (numsOf (bD qq.holds 0 xs)).sum from e31);have k31:=sb.kt W30.tb;have W31:=W30.sb2 sb hT31;have hq31:=hq30.kt k31;have s31:=k31.lst s30;have h31:=k31.lst h30;refine ⟨_,rfl,_,rfl,au (hN1 _ _ ?_)⟩;clear hN1 N1 sb hT31 hC30 W29 W30 hq29 hq30 s29 s30 h29 h30 g29 k30 k31;obtain ⟨d31,hC31⟩:=id W31.hc;refine ba λ N1 hN1=>⟨_,rfl,c,d31,_,rfl,hC31,rfl,_,rfl,c,a,qq,xs,rfl,W31.hc,okc,hq31,W31.tb,λ _ v32 H32 sb hT32 e32=>?_,λ z=>bad z⟩
    have k32:=sb.kt W31.tb;have W32:=W31.sb2 sb hT32;have s32:=k32.lst s31;have h32:=k32.lst h31;clear sb hT32 hC31;have fin:∀ H33,Same H32 H33->N1 [some (.ref p),some (.ref v),fa,some (.ref lh),some (.ref c),some (.ref el),v6,v7,some (.int (0+(i:Int))),some (.ref a),some (.ref r10),some (.ref r11),some (.ref r12),none,none] H33:=λ H33 s33=>by
     refine hN1 _ _ ⟨_,rfl,.inl ⟨rfl,_,SqL.of (s33 _ _ h32)⟩,r12,_,_,rfl,rfl,s33 _ _ h32,?_,_,_,_,_,_,rfl,(W32.same s33).put (s33 _ _ h32) nb12 nv12⟩;rw [ae,ae];exact aY (by omega)
    refine ⟨_,rfl,r11,_,rfl,SqL.of s32,?_⟩;rcases e32 with ⟨en,rfl⟩ | ⟨l,m,M,rfl,hl32,hm,lm,hM,lM⟩
    ·rw [en];exact au (.inr ⟨rfl,_,rfl,au (fin H32 (Same.refl _))⟩)
    ·rw [show (!((numsOf (bD qq.holds 0 xs)).map V.int).isEmpty)=true by cases h:numsOf (bD qq.holds 0 xs) with | nil=>rw [h] at hm;cases hm | cons _ _=>rfl];refine aA ⟨_,rfl,r11,_,m,rfl,SqL.of s32,hm,lm,_,rfl,r11,_,M,rfl,SqL.of s32,hM,lM,aO rfl,λ tp htp=>.inl ⟨l,tp,[.int m,.int M],[.int m,.int M],rfl,rfl,SqT.of (Same.new htp _ _ hl32),SqT.of ag,rfl,λ j x y ex ey=>?_,_,rfl,au (fin _ (Same.new htp))⟩⟩;rw [ex] at ey;cases ey
     match j,ex with
     | 0,ex=>cases ex;exact Eqd.flat _ rfl
     | 1,ex=>cases ex;exact Eqd.flat _ rfl
   ·rintro σ H21 ⟨u8,u9,u10,u11,u12,rfl,W21⟩;refine hN _ _ ?_;clear hN N W20;refine ba λ N hN=>⟨1,rfl,_,rfl,v,_,rfl,.inl (SqL.of W21.hv),_,_,rfl,rfl,_,_,rfl,?_,⟨iT (λ i σ H'=>∃ u13 u14:Option V,σ=[some (.ref p),some (.ref v),fa,some (.ref lh),some (.ref c),some (.ref el),v6,v7,u8,u9,u10,u11,u12,u13,u14]/\WQ t H H' v c xs) ⟨none,none,rfl,W21⟩ ?_ ?_⟩⟩
    ·rw [ae];refine ⟨by decide,by decide,by omega,by omega⟩
    ·rintro i σ H22 hi ⟨u13,u14,rfl,W22⟩;show cU _ _ _ [some (.ref p),some (.ref v),fa,some (.ref lh),some (.ref c),some (.ref el),v6,v7,u8,u9,u10,u11,u12,some (.int (-1+(i:Int))),u14] H22;generalize (-1+(i:Int))=r;refine ba λ N hN=>?_;have R1:∀ due:V,(∀ o,0<=r->xs[r.toNat]?=some o->due=ov o)->(¬ (0<=r/\r < xs.length)->due = .str "norow")->N [some (.ref p),some (.ref v),fa,some (.ref lh),some (.ref c),some (.ref el),v6,v7,u8,u9,u10,u11,u12,some (.int r),some due] H22:=λ due g1 g2=>hN _ _ ⟨_,rfl,_,rfl,c,r,xs,rfl,W22.hc,okc,λ o h0 e H23 s23=>⟨_,rfl,by rw [g1 o h0 e];exact lw _ _,_,rfl,by
       rw [g1 o h0 e,aV rfl];exact au ⟨_,_,rfl,W22.same s23⟩⟩,λ z H23 s23=>⟨_,rfl,by rw [g2 z];rfl,_,rfl,by
       rw [g2 z,aV rfl];exact au ⟨_,_,rfl,W22.same s23⟩⟩⟩
     refine ⟨_,rfl,_,_,rfl,rfl,_,rfl,?_⟩;by_cases h0:0<=r
     ·rw [aV h0];refine aA ⟨_,rfl,v,_,rfl,.inl (SqL.of W22.hv),_,_,rfl,rfl,_,rfl,?_⟩;rw [ae];by_cases h1:r < xs.length
      ·rw [aV h1];have hr:r.toNat < xs.length:=by omega
       have e:=aG hr;exact aA ⟨_,rfl,_,rfl,v,_,_,_,rfl,rfl,SqL.of W22.hv,bP h0 (by rw [aH,e];rfl),R1 _ (λ o _ e'=>by rw [e] at e';cases e';rfl) λ z=>absurd ⟨h0,h1⟩ z⟩
      ·rw [aU h1];exact au (R1 _ (λ o _ e'=>by have:=(al_gs.mp e').1;omega) λ _=>rfl)
     ·rw [aU h0];exact au ⟨_,rfl,au (R1 _ (λ o z _=>absurd z h0) λ _=>rfl)⟩
    ·rintro σ H22 ⟨u13,u14,rfl,W22⟩;obtain ⟨d22,hC22⟩:=id W22.hc;refine hN _ _ ⟨_,rfl,c,d22,_,rfl,hC22,rfl,c,xs,rfl,⟨d22,hC22⟩,okc,λ l23 H23 s23 _ h23=>⟨_,rfl,l23,v,_,_,rfl,rfl,SqL.of h23,SqL.of (s23 _ _ W22.hv),fl xs,fl xs,?_⟩⟩;rw [jz (fl xs)];exact q _
  refine ⟨_,rfl,p,ns,56,rfl,t3.seq hS,_,_,rfl,rfl,(by show (0:Int) < 5;decide),rfl,_,rfl,?_⟩;by_cases n0:V.int (mix ns 56 % 5)=V.int 0
  ·rw [aV n0];refine aA (ba λ N1 hN1=>⟨3,rfl,by decide,by decide,⟨fJ (n:=3) (λ i acc H'=>Same H3 H'/\∃ ys:List Int,acc=ys.map V.int/\ys.length=i/\∀ y∈ys,0<=y/\y < 4000000) ⟨Same.refl _,[],rfl,rfl,nofun⟩ ?_ (aO rfl) ?_ ?_⟩⟩)
   ·rintro i acc H' hi ⟨_,ys,rfl,hy,_⟩;rw [ae,hy];exact az _
   ·rintro i acc H' hi ⟨s4,ys,rfl,hy,hys⟩;refine ⟨Wk.set rfl,tT ⟨_,rfl,_,rfl,_,_,rfl,rfl,p,ns,_,rfl,(t3.trans s4).seq hS,_,_,rfl,rfl,(by show (0:Int) < 4000000;decide),cw hi ⟨s4,ys++[mix ns (90+(0+(i:Int))) % 4000000],by rw [aE];rfl,by rw [bn,hy];rfl,λ y hy'=>?_⟩⟩⟩;rcases al_mp.mp hy' with z | z
    ·exact hys y z
    ·rw [al_mi.mp z];exact ⟨Int.emod_nonneg _ (by decide),Int.emod_lt_of_pos _ (by decide)⟩
   ·rintro acc H4 ⟨s4,ys,rfl,hy,hys⟩ lf hlf;obtain ⟨y0,y1,y2,rfl⟩:∃ a b c,ys=[a,b,c]:=match ys,hy with | [a,b,c],_=>⟨a,b,c,rfl⟩
    have b0:=hys y0 (.head _);have b1:=hys y1 (.tail _ (.head _));have b2:=hys y2 (.tail _ (.tail _ (.head _)));refine eI (P:=N1 _) (t3.trans s4) hlf λ H5 t5 h5=>?_;have h5:H5 lf=some (.lst [.int y0,.int y1,.int y2]):=h5;refine hN1 _ _ ?_;clear hN1 N1;have m0:=Int.emod_nonneg (mix ns 93) (b:=3) (by decide);have m1:=Int.emod_lt_of_pos (mix ns 93) (b:=3) (by decide);refine ⟨_,rfl,lf,_,_,_,rfl,rfl,SqL.of h5,bP (by decide) rfl,aO rfl,λ l1 hl1=>⟨l1,8,_,rfl,rfl,ag,by decide,by decide,aO rfl,λ r1 hr1=>?_⟩⟩;rw [show (List.replicate (8:Int).toNat [V.int y0]).flatten=_ from oR y0 8];refine eI (P:=λ X=>tOp _ _ _ _ X _) (Same.new hl1) hr1 λ H6 s6 h6=>?_;refine ⟨_,rfl,lf,_,_,_,rfl,rfl,SqL.of (s6 _ _ h5),bP (by decide) rfl,aO rfl,λ l2 hl2=>⟨l2,8,_,rfl,rfl,ag,by decide,by decide,aO rfl,λ r2 hr2=>?_⟩⟩;rw [show (List.replicate (8:Int).toNat [V.int y1]).flatten=_ from oR y1 8];refine eI (P:=λ X=>lI _ _ X _) (Same.new hl2) hr2 λ H7 s7 h7=>?_;refine ⟨r1,r2,_,_,rfl,rfl,s7 _ _ h6,h7,aO rfl,λ c1 hc1=>?_⟩;rw [← aE];refine eI (P:=λ X=>tOp _ _ _ _ X _) (Same.refl _) hc1 λ H8 s8 h8=>?_;have t8:Same H5 H8:=(s6.trans s7).trans s8;refine ⟨_,rfl,lf,_,_,_,rfl,rfl,SqL.of (t8 _ _ h5),bP (by decide) rfl,aO rfl,λ l3 hl3=>⟨_,rfl,p,ns,93,rfl,(t5.trans (t8.trans (Same.new hl3))).seq hS,_,_,rfl,rfl,(by show (0:Int) < 3;decide),_,_,rfl,rfl,?_⟩⟩;obtain ⟨k9,ek,hk⟩:∃ k9:Nat,(7+mix ns 93 % 3:Int)=k9/\k9<=9:=⟨(7+mix ns 93 % 3).toNat,by omega,by omega⟩
    refine ⟨l3,(k9:Int),_,rfl,by show V.int (7+mix ns 93 % 3)=_;rw [ek],ag,by omega,by omega,?_,λ r3 hr3=>?_⟩
    ·rw [Int.toNat_natCast];exact aX (aY (by simp;omega))
    rw [Int.toNat_natCast];rw [oR];refine eI (P:=λ X=>lI _ _ X _) (Same.new hl3) hr3 λ H9 s9 h9=>?_;refine ⟨c1,r3,_,_,rfl,rfl,s9 _ _ h8,h9,?_,λ c2 hc2=>?_⟩
    ·rw [ae,ae,bn,d7,d7,d7];exact aX (aY (by omega))
    rw [← aE];refine RA c2 _ (some (.ref lf)) _ (aJ (t5.trans (t8.trans s9)) hc2) ((t5.trans (t8.trans s9)).free hc2) ag ?_ ?_
    ·rw [bn,bn,d7,d7,d7];omega
    ·rw [List.all_append,List.all_append,oS b0,oS b1,oS b2];rfl
  ·rw [aU n0];exact au (RA v xs3 none H3 t3 nv3 h3 l3 ok3)
theorem zca{kn:Nat}{k0 k1 k2 k3 k4:Tok}(l:K.lookup a=some ⟨.type "tuple", none,.seq #[.str "plain" k0,.str "runs" k1,.str "book" k2,.str "base" k3,.str "steps" k4] kn,ksl⟩)(H:Hp):SqT K H a kindsV:=
 .inr ⟨_,_,kn,l,rfl,rfl,aO rfl,.cons ⟨k0,rfl⟩ (.cons ⟨k1,rfl⟩ (.cons ⟨k2,rfl⟩ (.cons ⟨k3,rfl⟩ (.cons ⟨k4,rfl⟩ .nil))))⟩
theorem zb8{d:Data}(l:K.lookup a=some ⟨.type "tuple", none,d,ksl⟩):∃ o,K.lookup a=some o/\o.cls = .type "tuple" /\ o.dict=none:=⟨_,l,rfl,rfl⟩
structure Ds (K:W.Frag) (mg:Str->Option Value) (bh aw bi gW p_check_question_of gX p_marked_values:Addr):Prop where
 D0:DD K mg "needed" qw ["number"]
 D1:DD K mg "is_whole" lK ["thing"]
 D2:DD K mg "is_value" pX ["value"]
 D3:DD K mg "are_values" pC ["values"]
 D4:DD K mg "is_block" pV ["values"]
 D5:DD K mg "check_block" pI ["values"]
 D6:DD K mg "check_kind" pL ["kind"]
 D7:DD K mg "folded" pS ["step"]
 D8:II K aw "Tally.__init__" pw ["self"]
 D9:MM K aw "add_number" "Tally.add_number" pj ["self", "number"]
 D10:MM K aw "add" "Tally.add" pi ["self", "value"]
 D11:MM K aw "book_room" "Tally.book_room" pq ["self"]
 D12:MM K aw "base_room" "Tally.base_room" pk ["self"]
 D13:MM K aw "steps_room" "Tally.steps_room" pA ["self"]
 D14:MM K aw "rooms" "Tally.rooms" pz ["self"]
 D15:MM K aw "least_room" "Tally.least_room" px ["self"]
 D16:DD K mg "tally_of" qM ["values"]
 D17:DD K mg "room" qG ["kind", "values"]
 D18:DD K mg "best_kind" pE ["values"]
 D19:DD K mg "in_bits" pT ["number", "width"]
 D20:DD K mg "value_bits" qR ["value"]
 D21:DD K mg "plain_bits" qy ["values"]
 D22:DD K mg "runs_of" qK ["values"]
 D23:DD K mg "runs_bits" qJ ["values"]
 D24:DD K mg "book_bits" pH ["values"]
 D25:DD K mg "even_bits" pR ["numbers"]
 D26:DD K mg "base_bits" pD ["values"]
 D27:DD K mg "steps_bits" qL ["values"]
 D28:DD K mg "packed" qx ["kind", "values"]
 D29:MM K bh "take" "Reader.take" pf ["self", "width"]
 D30:MM K bh "has_more" "Reader.has_more" pc ["self"]
 D31:MM K bh "taken_since" "Reader.taken_since" ph ["self", "place"]
 D32:II K bh "Reader.__init__" pd ["self", "text"]
 D33:DD K mg "read_value" qF ["reader"]
 D34:DD K mg "read_plain" qC ["reader", "length"]
 D35:DD K mg "read_runs" qD ["reader", "length"]
 D36:DD K mg "read_book" qB ["reader", "length"]
 D37:DD K mg "read_base" qz ["reader", "length"]
 D38:DD K mg "unfolded" qP ["number"]
 D39:DD K mg "read_steps" qE ["reader", "length"]
 D40:DD K mg "read_block" qA ["reader"]
 D41:DD K mg "unpacked" qQ ["bits"]
 D42:DD K mg "check_column" pJ ["values"]
 D43:DD K mg "rooms_from" qI ["values", "begin"]
 D44:DD K mg "block_rooms" pF ["values"]
 D45:DD K mg "room_between" qH ["rooms", "begin", "end"]
 D46:DD K mg "least_prices" qt ["rooms"]
 D47:DD K mg "longest_begin" qu ["rooms", "found", "end"]
 D48:DD K mg "cuts" pQ ["values"]
 D49:DD K mg "blocks_between" pG ["values", "ends"]
 D50:DD K mg "tight" qO ["values"]
 D51:DD K mg "check_row" pN ["row", "size"]
 D52:DD K mg "values_in" qS ["bits"]
 D53:II K bi "Column.__init__" o0 ["self", "values"]
 D54:MM K bi "told" "Column.told" o7 ["self"]
 D55:MM K bi "bits" "Column.bits" oX ["self"]
 D56:MM K bi "kinds" "Column.kinds" o3 ["self"]
 D57:MM K bi "size" "Column.size" o6 ["self"]
 D58:MM K bi "value" "Column.value" o9 ["self", "row"]
 D59:DD K mg "is_joined" pW ["asked"]
 D60:DD K mg "check_within" pP ["asked", "depth", "check_simple"]
 D61:DD K mg "check_joined" pK ["asked", "check_simple"]
 D62:DD K mg "things_named" qN ["simple"]
 D63:DD K mg "check_simple_of" pO ["simple", "is_good"]
 D64:DC K mg "check_question_of" lJ ["question", "is_good"] gW p_check_question_of
 D65:DD K mg "check_question" pM ["question"]
 D66:DD K mg "answers" pB ["simple", "value"]
 D67:DD K mg "marked" qv ["asked", "marks_of"]
 D68:DC K mg "marked_values" lL ["question", "values"] gX p_marked_values
 D69:MM K bi "answering" "Column.answering" oW ["self", "question"]
 D70:MM K bi "numbers_answering" "Column.numbers_answering" o4 ["self", "question"]
 D71:MM K bi "rows" "Column.rows" o5 ["self", "question"]
 D72:MM K bi "how_many" "Column.how_many" oZ ["self", "question"]
 D73:MM K bi "total" "Column.total" o8 ["self", "question"]
 D74:MM K bi "ends" "Column.ends" oY ["self", "question"]
 D75:DD K mg "_law_cell" p9 ["_law_script", "_law_k"]
 D76:DD K mg "_law_mix" qe ["_law_script", "_law_k"]
 D77:DD K mg "_law_value" qm ["_law_script", "_law_k"]
 D78:DD K mg "_law_values" qp ["_law_script", "_law_k", "_law_most"]
 D79:DD K mg "_law_need" qf ["_law_number"]
 D80:DD K mg "_law_runs" qj ["_law_values_here"]
 D81:DD K mg "_law_book" p5 ["_law_values_here"]
 D82:DD K mg "_law_above" pY ["_law_values_here"]
 D83:DD K mg "_law_steps" qk ["_law_values_here"]
 D84:DD K mg "_law_room" qi ["_law_kind", "_law_values_here"]
 D85:DD K mg "_law_best" pZ ["_law_values_here"]
 D86:DD K mg "_law_whole" qr ["_law_found"]
 D87:DD K mg "_law_question" qg ["_law_script", "_law_k", "_law_values_here", "_law_deep"]
 D88:DD K mg "_law_holds" qc ["_law_question_here", "_law_value_here"]
 D89:DD K mg "_law_refusal" qh ["_law_kept"]
 D90:DD K mg "_law_value_at" qo ["_law_column", "_law_row"]
 D91:DD K mg "_law_kinds" qd ["_law_values_here", "_law_ends"]
 D92:DD K mg "law" io ["_law_script"]
theorem zI{l:W.OpenLaw}{fa:Addr}{bh aw bi jx dQ fu gb cN dP iQ iO iP eW gW p_check_question_of gX p_marked_values:Addr}(hfa:mg "law" = some (.ref fa))(T:Txt K mg ⟨bh,aw,bi,jx,dQ,fu,gb,cN,dP,iQ,iO,iP,eW,gW,p_check_question_of,gX,p_marked_values⟩)(D:Ds K mg bh aw bi gW p_check_question_of gX p_marked_values)(ix:DcK w K mg "JOINING" JL)(kc:DcK w K mg "SIMPLE" SL)(ne:p_check_question_of≠p_marked_values)(hz:∀ p∈[p_check_question_of,p_marked_values],K.lookup p=none)(rW:(∃ a es n,mg "WRITERS" = some (.ref a)/\K.lookup a=some ⟨.type "dict", none,.dict es n,#[]⟩/\W.KeysLit w.params es.toList/\(∃ f,W.nsIn K a "plain" = some (some (.ref f))/\mg "plain_bits" = some (.ref f))/\(∃ f,W.nsIn K a "runs" = some (some (.ref f))/\mg "runs_bits" = some (.ref f))/\(∃ f,W.nsIn K a "book" = some (some (.ref f))/\mg "book_bits" = some (.ref f))/\(∃ f,W.nsIn K a "base" = some (some (.ref f))/\mg "base_bits" = some (.ref f))/\(∃ f,W.nsIn K a "steps" = some (some (.ref f))/\mg "steps_bits" = some (.ref f))))(rV:(∃ a es n,mg "READERS" = some (.ref a)/\K.lookup a=some ⟨.type "dict", none,.dict es n,#[]⟩/\W.KeysLit w.params es.toList/\(∃ f,W.nsIn K a "plain" = some (some (.ref f))/\mg "read_plain" = some (.ref f))/\(∃ f,W.nsIn K a "runs" = some (some (.ref f))/\mg "read_runs" = some (.ref f))/\(∃ f,W.nsIn K a "book" = some (some (.ref f))/\mg "read_book" = some (.ref f))/\(∃ f,W.nsIn K a "base" = some (some (.ref f))/\mg "read_base" = some (.ref f))/\(∃ f,W.nsIn K a "steps" = some (some (.ref f))/\mg "read_steps" = some (.ref f))))
  : (∀ p∈[p_check_question_of,p_marked_values],K.lookup p=none/\∃ c,W.codeHdIn K c p=true)/\∃ fd:FuncData,(∀ (s:Shared) (v:Value),BindsTo s fd ⟨[v],[]⟩ [("_law_script", v)])/\∀ base:Heap,K.In base->base.Ns mainGlobals mg->fU base mg->FnOk l.prog w K mg base CX0 17 fa fd ["_law_script"] (lQ K [p_check_question_of,p_marked_values]):=by
 let t:Ad:=⟨bh,aw,bi,jx,dQ,fu,gb,cN,dP,iQ,iO,iP,eW,gW,p_check_question_of,gX,p_marked_values⟩
 have T:Txt K mg t:=T;obtain ⟨zjw,zjy,_,zba,zcg,zcd,⟨_,zdh,zcu⟩,⟨_,zdi,zcv⟩,⟨_,zdj,zcw⟩,⟨_,zdk,zcx⟩,⟨_,zdl,zcy⟩⟩:=rW;obtain ⟨zjv,zjx,_,za6,zcf,zcc,⟨_,zdb,zcp⟩,⟨_,zdc,zcq⟩,⟨_,zdd,zcr⟩,⟨_,zde,zcs⟩,⟨_,zdf,zct⟩⟩:=rV;obtain ⟨_,e,_,⟨⟨_,_,kV,dc,pm,an,cd,ct,_,rfl,l_,c_⟩,k_⟩,_⟩:=D.D92;cases hfa.symm.trans e;have F:=kU (st:=io) l_ c_ k_;refine ⟨λ p hp=>⟨hz p hp,?_⟩,W.fnOf "law" "law" (dr io) (cS io) (av io) .none kV dc pm an cd ct,λ s v=>.of_eq rfl,λ base _ _ B=>?_⟩
 ·rcases al_mc.mp hp with rfl | hp
  ·exact ⟨_,D.D64.hd⟩
  ·rw [al_mi.mp hp];exact ⟨_,D.D68.hd⟩
 have b:Bs l.prog w base:=trivial;have eR:=D.D0.cal b λ _ _=>ze9;have mx:=D.D1.cal b λ _ _=>vP T;have yQ:=D.D2.cal b λ _ _=>zeI T mx;have kd:=D.D3.cal b λ _ _=>zei T yQ;have kf:=D.D4.cal b λ _ _=>zeH T kd;have si:=D.D5.cal b λ _ _=>zer T kf;have yP:=D.D6.cal b λ _ _=>zet T;have ke:=D.D7.cal b λ _ _=>zeD;have sf:=D.D8.cal b λ _ _=>zeG T;have yJ:=D.D9.cal b λ _ _=>zef T ke;have se:=D.D10.cal b λ _ _=>zee T yJ;have yL:=D.D11.cal b λ _ _=>zeq T eR;have yK:=D.D12.cal b λ _ _=>zek T eR;have yM:=D.D13.cal b λ _ _=>zft T eR;have mi:=D.D14.cal b λ _ _=>zfm T yL yK yM;have sh:=D.D15.cal b λ _ _=>zeZ T mi;have sj:=D.D16.cal b λ _ _=>zfw T sf se;have mF:=D.D17.cal b λ _ _=>zfk T si yP sj mi;have mm:=D.D18.cal b λ _ _=>zel T si sj mi sh;have cZ:=D.D19.cal b λ _ _=>zeF T;have eS:=D.D20.cal b λ _ _=>zfE T cZ;have kh:=D.D21.cal b λ _ _=>zfc T eS;have mH:=D.D22.cal b λ _ _=>zfq T;have zh:=D.D23.cal b λ _ _=>zfp T mH eS cZ;have yO:=D.D24.cal b λ _ _=>zep T eR cZ kh;have iA:=D.D25.cal b λ _ _=>zeC T eR cZ;have yN:=D.D26.cal b λ _ _=>zej T eS iA;have zi:=D.D27.cal b λ _ _=>zfs T ke eS iA;have mj:CalT l.prog w K mg base CX0 5 "WRITERS" ["values"] kindsS (spW K):=zjp zba zcg zcd zdh zdi zdj zdk zdl zcu zcv zcw zcx zcy kh zh yO yN zi;have iC:=D.D28.cal b λ _ _=>zfb T mF cZ mj;have iy:=D.D29.cal b λ _ _=>zfu T;have yG:=D.D30.cal b λ _ _=>zeE T;have yI:=D.D31.cal b λ _ _=>zfv T;have yH:=D.D32.cal b λ _ _=>zed T;have iD:=D.D33.cal b λ _ _=>zfj T iy;have ki:=D.D34.cal b λ _ _=>zfg T iD;have zf:=D.D35.cal b λ _ _=>zfh T iy iD;have ze:=D.D36.cal b λ _ _=>zff T iy ki eR;have zd:=D.D37.cal b λ _ _=>zfd T iy;have mJ:=D.D38.cal b λ _ _=>zfB;have zg:=D.D39.cal b λ _ _=>zfi T iy mJ;have mh:CalT l.prog w K mg base CX0 5 "READERS" ["reader", "length"] kindsS (spR t):=zgW za6 zcf zcc zdb zdc zdd zde zdf zcp zcq zcr zcs zct ki zf ze zd zg;have mE:=D.D40.cal b λ _ _=>zfe T iy yI mh kf iC;have fV:=D.D41.cal b λ _ _=>zfC T yH yG mE;have mq:=D.D42.cal b λ _ _=>zes T kd;have mG:=D.D43.cal b λ _ _=>zfn T sf se sh;have mn:=D.D44.cal b λ _ _=>zen T mG;have iE:=D.D45.cal b λ _ _=>zfl;have my:=D.D46.cal b λ _ _=>ze0 T iE;have mB:=D.D47.cal b λ _ _=>ze3 T iE;have iz:=D.D48.cal b λ _ _=>zez T mq mn my mB;have mo:=D.D49.cal b λ _ _=>zeo T;have iF:=D.D50.cal b λ _ _=>zfx T mo iz iC mm;have mv:=D.D51.cal b λ _ _=>zeu T;have mK:=D.D52.cal b λ _ _=>zfF T fV;have yA:=D.D53.cal b λ _ _=>zec T iF;have mf:=D.D54.cal b λ _ _=>zfz T mK;have yw:=D.D55.cal b λ _ _=>zem T;have yB:=D.D56.cal b λ _ _=>zeK T fV;have yD:=D.D57.cal b λ _ _=>zfr T mf;have yF:=D.D58.cal b λ _ _=>zfD T mf mv;have iB:=D.D59.cal b λ _ _=>zeJ T ix;have jj:=D.D60.rec (k:=3) b (λ _ _ _ _ z=>z) (λ _ _ _=>zeA T ix iB) 7;have mr:=D.D61.cal b λ _ _=>zev T jj;have kj:=D.D62.cal b λ _ _=>zfy T;have mw:=D.D63.cal b λ _ _=>zey T kc kj;have mt:=D.D64.cal b λ _ _=>zex T B mr mw;have ms:=D.D65.cal b λ _ _=>zew T D.D1 mt;have ml:=D.D66.cal b λ _ _=>zeg T;have jk:=D.D67.rec (k:=2) b (λ _ _ _ _ z=>z) (λ _ _ _=>ze7 T iB) 6;have mD:=D.D68.cal b λ _ _=>ze8 T B jk ml;have me:=D.D69.cal b λ _ _=>zeh T ne ms fV mD;have sd:=D.D70.cal b λ _ _=>zfa T me;have yC:=D.D71.cal b λ _ _=>zfo T me;have yz:=D.D72.cal b λ _ _=>ze6 T me;have yE:=D.D73.cal b λ _ _=>zfA T sd;have yx:=D.D74.cal b λ _ _=>zeB T sd;have yU:=D.D75.cal b λ _ _=>zeO T;have kg:=D.D76.cal b λ _ _=>zeP T yU;have y7:=D.D77.cal b λ _ _=>zeV T kg;have y9:=D.D78.cal b λ _ _=>zeW T kg y7;have yX:=D.D79.cal b λ _ _=>zeQ;have y4:=D.D80.cal b λ _ _=>zeT T;have yT:=D.D81.cal b λ _ _=>zeN T;have yR:=D.D82.cal b λ _ _=>zeL T;have y6:=D.D83.cal b λ _ _=>zeU T;have y3:=D.D84.cal b λ _ _=>zeS T y4 yT yR y6 yX;have yS:=D.D85.cal b λ _ _=>zeM T y3;have zc:=D.D86.cal b λ _ _=>zeX T;have yY:=D.D87.rec (k:=3) b (λ _ _ _ _ z=>z) (λ _ _ _=>ze4 T kg) 4;have yV:=D.D88.rec (k:=1) b (λ _ _ _ _ z=>z) (λ _ _ _=>ze1 T) 4;have yZ:=D.D89.cal b λ _ _=>zeR T;have y8:=D.D90.cal b λ _ _=>ze5 T yF yZ;have yW:=D.D91.cal b λ _ _=>ze2 T yS;exact zeY T y9 kg yY yV zc yA mf yD yw yB yC yz yE yx iF iz yW y8 F
theorem zjl{l:W.OpenLaw}{q:Program}{loose:List Str}{XP:(Str->Option Value)->Heap->Prop}{YP:World->Heap->Prop}{d:DefRec}{K:Params->W.Frag}{ts:List Addr}(hn:l.most=some 63)(hdf:d.params.defaults=[])(hY:∀ (w:World) (h:Heap),YP w h->(K w.params).In h)(hT:∀ (w:World) (h:Heap),YP w h->∀ p∈ts,h.get? p=some (W.tabObj #[]))(F:∀ (w:World) (mg:Str->Option Value) (fa:Addr) (h:Heap),(K w.params).In h->h.Ns mainGlobals mg->mg d.name=some (.ref fa)->
   (∀ p∈ts,(K w.params).lookup p=none/\∃ c,W.codeHdIn (K w.params) c p=true)/\∃ fd:FuncData,(∀ (s:Shared) (u:Value),BindsTo s fd ⟨[u],[]⟩ [("_law_script", u)])/\∀ base:Heap,(K w.params).In base->base.Ns mainGlobals mg->fU base mg->FnOk l.prog w (K w.params) mg base CX0 17 fa fd ["_law_script"] (lQ (K w.params) ts)):
  W.WalkO q loose XP YP l.row.toRowW d [] (λ f vs=>PySem.call f vs):=
 L2.zjm (n:=63) (k:=17) (x := "_law_script") (CX:=CX0) (sp:=lQ) hn (by decide) hdf ⟨rfl,by decide,by decide⟩ hY hT F (λ _ _ a ns hl hZ hS=>⟨a,ns,rfl,hS,hl,hZ,λ _=>rfl⟩) λ _ _ _ _ z=>z
end T1
end
open PySem PySem.W PyProof.Rows
set_option maxHeartbeats 0
namespace PySem.W.Fast
def tw6901894224803111360:=0
def tw15658783078273685601:=0
def tw3365446836479413371:=0
def tw11594319328894197702:=0
def tw4131546551839067786:=0
def tw13785160081391108624:=0
def tw15244934945096086091:=0
def tw2966245893745986782:=0
def tw10316275749434899228:=0
def tw5603705330272239607:=0
def tw4596154336263519989:=0
def tw11488582681846531510:=0
def tw18368713326256160463:=0
def tw15269542048403974969:=0
def tw9870752487764452798:=0
def tw6568576394192107608:=0
def tw5229223393565736022:=0
def tw1269238319153858880:=0
def tw2828037843107490621:=0
def tw4176295556499561562:=0
def tw1510200132203093344:=0
def tw17804137797910129976:=0
def tw16912993558457738087:=0
def tw8010429739221350655:=0
def tw13512494431348122344:=0
def tw221459796718592479:=0
def tw18180450553987571463:=0
def tw1498911897619886491:=0
def tw16643179803010462998:=0
def tw4517674123233821177:=0
def tw2580756070439426241:=0
def tw16932750248981076975:=0
def tw4029100840319817195:=0
def tw6915830098602222075:=0
def tw13805876386964566051:=0
def tw18200311486174963496:=0
def tw671997056453627701:=0
def tw3170917433506981388:=0
def tw15669568292514022827:=0
def tw286672909443509423:=0
def tw16187729131237672162:=0
def tw9452942446560280524:=0
def tw11102882601449554769:=0
def tw16972357384913794669:=0
def tw11619530477501284458:=0
def tw16302403090934665031:=0
def tw12795555041046419264:=0
def tw10734259191685645941:=0
def tw5344459653683495844:=0
def tw5540869160410674063:=0
def tw9227220281602136353:=0
def tw4612512449502464726:=0
def tw12502445556323134865:=0
def tw2956457222204650364:=0
def tw14071344961984208574:=0
def tw3504639037439137059:=0
def tw9747734738704968300:=0
def tw5785749835991850524:=0
def tw662487633825041949:=0
def tw13304969567683844135:=0
def tw18347558100643953664:=0
def tw6790509893396984765:=0
def tw3685379832035063862:=0
def tw14565058331254673193:=0
def tw9199807048112468164:=0
def tw1706668047271739993:=0
def tw2368650613007537531:=0
def tw17219136935623282979:=0
def tw240809779962320460:=0
def tw16918642582880093274:=0
def tw6996646363512349780:=0
def tw3817066588358749708:=0
def tw1208262575889395363:=0
def tw10419413646124371207:=0
def tw2102640151204726849:=0
def tw10315842190103737215:=0
def tw8445871330447573594:=0
def tw10111816829967620940:=0
def tw10835302523878952764:=0
def tw14229818408795933544:=0
def tw16967676927775733217:=0
def tw15927537555570953868:=0
def tw7931584329624968101:=0
def tw16437159813392760963:=0
def tw12891870898042309210:=0
def tw15151590658759971975:=0
def tw15183654298703580310:=0
def tw15521432821215370179:=0
def tw1730014827032318093:=0
def tw3417163676019053165:=0
def tw13252353580202293649:=0
def tw4816535666526697795:=0
def tw848319894122301810:=0
def tw9953251717546589380:=0
def tw17049490377257562395:=0
def tw17235451654336282918:=0
def tw14115612292630298329:=0
def tw13931468397397221669:=0
def tw4172150229251425597:=0
def tw14039470195028465946:=0
def tw15226153663592417464:=0
def tw5690963122746863800:=0
def tw352137625022990937:=0
def tw9890069310397148831:=0
def tw554491261183384867:=0
def tw5377395326752350224:=0
def tw73920596778585905:=0
def tw10192724254305547310:=0
def tw5464063524407708859:=0
def tw7318451870941531037:=0
def tw15475076116472076412:=0
def tw14667184450404836312:=0
def tw11714446256913669193:=0
def tw13459606278456390750:=0
def tw13423244913909445596:=0
def tw16361090280573401213:=0
def tw16761927374360349762:=0
def tw10622618413610721577:=0
def tw17678266531956157644:=0
def tw7207055248932914315:=0
def tw1830908206230394951:=0
def tw6113813435440603624:=0
def tw17558468112293427151:=0
def tw10809303569395626552:=0
def tw2717667709949493714:=0
def tw12396112007762138273:=0
def tw12747287592125256408:=0
def tw6297439460103748329:=0
def tw3044262868708388789:=0
def tw14685759011257162827:=0
def tw12559391663106326534:=0
def tw15486649510371918313:=0
def tw3927951730769863623:=0
def tw5095603416248787570:=0
def tw12227392339376972542:=0
def tw3251170706299921101:=0
def tw17247191448820504992:=0
def tw8876436433979105955:=0
def tw4712903836388680594:=0
def tw1211771764367981948:=0
def tw14807245280511448725:=0
def tw9988316690921611170:=0
def tw7703342370262253421:=0
def tw15601310325441786835:=0
def tw7230636219138163883:=0
def tw3200432343640838177:=0
def tw11084335826082562925:=0
def tw14849254571477763173:=0
def tw287759276949640782:=0
def tw6776374947273356065:=0
def tw8850625324321297912:=0
def tw12804604249971251148:=0
def tw13157358574671220019:=0
def tw10156688464730322122:=0
def tw14510886593850153240:=0
def tw10597502084916461792:=0
def tw16555343204408761151:=0
def tw8269725058638569025:=0
def tw1956447246544186980:=0
def tw10854501823085113059:=0
def tw4538263495220994855:=0
def tw9763515271405631933:=0
def tw4452426404830162460:=0
def tw1318867492284069353:=0
def tw10865143202988551324:=0
def tw2281186078294684690:=0
def tw16485247128310386419:=0
def tw2075176308104322180:=0
def tw13114996386560476355:=0
def tw13786473762071199709:=0
def tw5517585819318438342:=0
def tw10695786206435501885:=0
def tw8245013078727580144:=0
def tw12090999305191258296:=0
def tw16898939043229289363:=0
def tw13135312118438224810:=0
def tw15270460133755492586:=0
def tw1013632120382525615:=0
def tw12600851497627108889:=0
def tw7261734385749754968:=0
def tw5195067381827745942:=0
def tw16874286588492719270:=0
def tw13448108757416826754:=0
def tw16674154562218041092:=0
def tw4321596380190583166:=0
def tw18366071067584206253:=0
def tw6391717739897243213:=0
def tw5804672499253827153:=0
def tw16119177666811403048:=0
def tw7613062246412473328:=0
def tw13949295291865641403:=0
def tw2027147355734552674:=0
def tw17185122331531784539:=0
def tw13791397262250784508:=0
def tw15175850770351403527:=0
def tw5693138940484814519:=0
def tw5264176639191122666:=0
def tw7420726384796275523:=0
def tw2764400884762782331:=0
def tw13625701831481723108:=0
def tw8864543501030042677:=0
def tw7657006200426794580:=0
def tw15653276865939577516:=0
def tw18227802397245407935:=0
def tw3572778898075803552:=0
def tw10958997403941074732:=0
def tw3596694679217542789:=0
def tw14549605204448269651:=0
def tw2321586773365916936:=0
def tw14868828354879650990:=0
def tw5516899472563577517:=0
def tw4535502644590736089:=0
def tw7606212715459731067:=0
def tw15215750107321853362:=0
def tw16964319018770451151:=0
def tw17070029354638458402:=0
def tw14740688961035114918:=0
def tw6070047876364108375:=0
def tw5219902850126663224:=0
def tw367866435453632683:=0
def tw3313028928733653075:=0
def tw6235812772397662657:=0
def tw5896508009151102891:=0
def tw11727005905670615581:=0
def tw7859145918425269027:=0
def tw16988215867578721995:=0
def tw9845921835416411572:=0
def tw2552491215392600760:=0
def tw17565604296858036380:=0
def tw2420824607370708266:=0
def tw16990709013855301292:=0
def tw5977639002648386907:=0
def tw303829349534629365:=0
def tw5634349773472532972:=0
def tw11586542666913780421:=0
def tw17252347037424255955:=0
def tw5596239640151056864:=0
def tw4996525928202335354:=0
def tw17488966264231791757:=0
def tw14239524026382904213:=0
def tw12680947009161176736:=0
def tw16112245242390914061:=0
def tw17713708125061812287:=0
def tw13047056831220951069:=0
def tw9339046309433212781:=0
def tw7383273718688807001:=0
def tw9933915225936180657:=0
def tw5383483660917698021:=0
def tw8454548199579164731:=0
def tw17957892436416624737:=0
def tw2516120676309143928:=0
def tw3804860017943828795:=0
def tw11607949592981760411:=0
def tw14651948856004404795:=0
def tw10660541725703278316:=0
def tw3835208135040620669:=0
def tw11636068485753026177:=0
def tw8073985000109034936:=0
def tw2974884500323138856:=0
def tw6229894234730211693:=0
def tw7544785423774722442:=0
def tw1103546482817042808:=0
def tw8739451924666012362:=0
def tw6861644675940817275:=0
def tw3633665255253870609:=0
def tw15134296165547278670:=0
def tw13582596677128867719:=0
def tw1465816456658834717:=0
def tw4002690524293306566:=0
def tw6031609661789783420:=0
def tw8199395580642738725:=0
def tw18075588705978027436:=0
def tw3405030353426649025:=0
def tw17669047950913360866:=0
def tw17545327648822006312:=0
def tw2224902754162047695:=0
def tw17939464856633841436:=0
def tw13848297726204470335:=0
def tw13176580680423895290:=0
def tw299240807854525148:=0
end PySem.W.Fast
open_top hdk for PySem.Challenge.rw_tightrows_k20_whole_questions
open PySem PySem.W PyProof.Rows
set_option maxRecDepth 100000 in
set_option maxHeartbeats 0 in
theorem PySem.Challenge.cw_tightrows_k20_whole_questions_holds : PySem.Challenge.rw_tightrows_k20_whole_questions.Holds :=
 hdk (by
  k_fill
  refine T1.zjl (l:=PySem.Challenge.rw_tightrows_k20_whole_questions) (ts:=[466,492]) rfl rfl (fun w h Y=>PySem.W.km_in_of Y) ?Z ?F
  case Z=>
    intro w h Y p hp;exact PySem.W.km_tabs_of Y p ((by decide:∀ p∈([466,492]:List Nat),p∈([492,466]:List Nat)) p hp)
  case F=>
    intro w mg fa h KX G hmg;refine' T1.zI (p_check_question_of:=466) (p_marked_values:=492) hmg ?T ?D ?CJOINING ?CSIMPLE ?ne ?hz ?rW ?rV
    case ne=>decide
    case hz=>
      intro p hp;rcases List.mem_cons.mp hp with rfl | hp
      · first | k_is | kernel_rfl
      · rw [List.mem_singleton.mp hp];first | k_is | kernel_rfl
    case CJOINING=>exact L2.tZ (mg_of KX G (by k_is)) (by decide) (by k_is) (by (repeat (first | exact trivial | refine ⟨⟨_,_,rfl,rfl⟩,?_⟩))) (by (repeat (first | exact trivial | refine ⟨⟨_,rfl⟩,⟨_,rfl⟩,?_⟩)))
    case CSIMPLE=>exact L2.tZ (mg_of KX G (by k_is)) (by decide) (by k_is) (by (repeat (first | exact trivial | refine ⟨⟨_,_,rfl,rfl⟩,?_⟩))) (by (repeat (first | exact trivial | refine ⟨⟨_,rfl⟩,⟨_,rfl⟩,?_⟩)))
    case T=>
      constructor
      all_goals (try dsimp only)
      all_goals (try exact mg_of KX G (by k_is))
      all_goals first | exact mg_none_of KX G (by k_is) | exact ⟨_,mg_of KX G (by k_is)⟩ | (show kitOne _ _ _=_;kit_is) | (show exmOne _ _ _=_;kts_exm) | (show findIn _ _ _=_;k_is) | exact ⟨by k_is,by k_is,by k_is,by k_is⟩ | exact ⟨by k_exc⟩ | exact ⟨(show isClsIn _ _=true by k_is),by k_is,by k_is,by k_is,by k_is,by k_is,by k_is,by k_is⟩ | exact ⟨by k_is,by k_is⟩ | exact T1.zca (by k_is) | exact T1.zb8 (by k_is)
    case D=>
      constructor
      all_goals first | refine ⟨_,mg_of KX G (by k_is),?_⟩ | refine ⟨_,⟨by k_is,by k_is,by k_is⟩,?_⟩ | refine ⟨_,⟨by k_is,by k_is,by k_is,by k_is⟩,?_⟩
      all_goals first | exact L2.fb2 (by k_is) (by k_is) (by k_is) fun _ _ _ _ _ _ _ _=>rfl | exact L2.fb1 (by k_is) (by k_is) (by k_is) fun _ _ _ _ _ _ _=>rfl | exact L2.fb3 (by k_is) (by k_is) (by k_is) fun _ _ _ _ _ _ _ _ _=>rfl | exact L2.fb4 (by k_is) (by k_is) (by k_is) fun _ _ _ _ _ _ _ _ _ _=>rfl | exact L2.fb0 (by k_is) (by k_is) (by k_is) fun _ _ _ _ _ _=>rfl | exact L2.fb5 (by k_is) (by k_is) (by k_is) fun _ _ _ _ _ _ _ _ _ _ _=>rfl | exact L2.fc2 (by k_is) (by k_is) (by first | k_is | kernel_rfl) (by k_is) fun _ _ _ _ _ _ _ _=>rfl
    case rW=>exact ⟨_,_,_,mg_of KX G (by k_is),by k_is,by (repeat (first | exact trivial | refine ⟨⟨_,_,rfl,rfl⟩,?_⟩)),⟨_,by k_is,mg_of KX G (by k_is)⟩,⟨_,by k_is,mg_of KX G (by k_is)⟩,⟨_,by k_is,mg_of KX G (by k_is)⟩,⟨_,by k_is,mg_of KX G (by k_is)⟩,⟨_,by k_is,mg_of KX G (by k_is)⟩⟩
    case rV=>exact ⟨_,_,_,mg_of KX G (by k_is),by k_is,by (repeat (first | exact trivial | refine ⟨⟨_,_,rfl,rfl⟩,?_⟩)),⟨_,by k_is,mg_of KX G (by k_is)⟩,⟨_,by k_is,mg_of KX G (by k_is)⟩,⟨_,by k_is,mg_of KX G (by k_is)⟩,⟨_,by k_is,mg_of KX G (by k_is)⟩,⟨_,by k_is,mg_of KX G (by k_is)⟩⟩
  )
#print axioms PySem.Challenge.cw_tightrows_k20_whole_questions_holds
